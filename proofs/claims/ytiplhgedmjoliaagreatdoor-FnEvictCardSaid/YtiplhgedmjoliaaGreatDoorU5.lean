import Derived.Test.YtiplhgedmjoliaaGreatDoorU2
import Derived.RegionTactic
/-
 What the laws on kinds call besides: measures, copies, comparisons.
-/
set_option maxRecDepth 100000
set_option maxHeartbeats 12800000
open Bool renaming false→G_,true→Hb
open Go.Ending renaming returned→Ha
open Go.IntKind renaming i64→G6
open Go.Obj renaming cells→G7
open Go.Value renaming string→I,slice→J,int→GZ,bool→G8,agg→Hc,pointer→Hf,tuple→Hg
open Option renaming none→U,some→F_
open Or renaming inr→Hd,inl→He
open And renaming intro→Fk
open Array renaming getElem?_push_size→Fs, getD_eq_getD_getElem?→FD, getElem?_eq_some_iff→FJ
open Bool renaming and_eq_true→FU
open Go.Addr renaming add_lit→FC
open Go.Calls renaming quiet_of_same→FP
open Go.Op renaming bytesLess→Fx
open Go.Region renaming wanted→F5, binds→F9, ready→Ga
open Go.RowKit.Below renaming heap_setCell→Fl, refl→Ft, heap_alloc→Fy
open Go.Value renaming string→Fz, ownBlock→FX
open Go.World renaming setCell→Gb, cell?→Gc
open List renaming getElem?_eq_some_iff→Fm, lookup→Fo, getElem?_eq_getElem→Fu, length_map→FB, setIfInBounds_toArray→FF, getElem?_map→FG, forall_mem_cons→FH, getElem?_append_left→FI, mem_of_getElem?→FK, set_cons_zero→FL, set_cons_succ→FM, drop_eq_nil_of_le→FN, getElem?_take→FQ, take_of_length_le→FT, getElem?_of_mem→FV, length_take→FW, take_add_one→FZ, foldr→F7, getElem?_drop→F8, range→Gm, pairwise_append→GC, getElem?_set→GH, mem_cons_self→GL, map_take→GQ, map_drop→GS
open Nat renaming le_refl→Fq, lt_of_lt_of_le→Fw, le_trans→FA, zero_add→FE, le_succ→FO, zero_le→FY, add_assoc→GI
open Option renaming map_eq_some_iff→FR
open Option.some renaming inj→Fp
namespace Go.Proofs.YtiplhgedmjoliaaGreatDoor
variable {p:Prop}
namespace Mk
end Mk
open Go.RowKit Mk
variable {α:Type} {S:Nat->Prop} {T:TypeId} {a:Option Addr} {best e1 e2 most:Int} {c c1 c2:Rc.Cl} {cap cp fuel g i j k m:Nat} {cs ts zs zs':List ByteArray} {d:Rc.Ad} {front rest:List Oper} {known:List (Tmp×Fact)} {listed:Array Bool} {n:Rc.Nd} {o:Oper} {s t x:ByteArray} {v:Value} {w w' wr wz:World} {φs:List Fact} {nm:α->ByteArray} {xs:List α} {y:α}
theorem rA(h:p:=by simp[results,Tryz.results112,go_sem]):p:=h
theorem xL(h:p:=by
 refine Obl.plain rfl ?_;intro ac wg K hsz hW hf hK;clear hsz;have e93:=hf 93 ah;simp[ai,Fo] at e93;have e95:=hf 95 ah;simp[ai,Fo] at e95;clear hf;go_simp;refine (eW ⟨a1,l1,y1,F_ ⟨gk,0,U⟩,l2,y2,a3,l3,y3,F_ ⟨gx,0,U⟩,l4,y4,a5,l5,y5⟩ c.now c.vs (aS++x.n) _ (HO.v.row.below (HBW.trans (hW.mono HBW.size))) (λj9 v9 h9 e9=>by have h7:=(bl HT.2.1.2.2.1.2.2 h9 e9).2;rw[HH.out] at h7;cases h7)).mono ?_;rintro e w6 ⟨rfl,hb6⟩;exact hK _ _ hb6 rfl):p:=h
theorem ly(h:p:=by
 go_enter Tryz.func144,Tryz.ntmps144;go_wp2_with fail;exact bodyPost_ret (v:=Hg #[Hc #[I ⟨#[]⟩,GZ G6 0,I ⟨#[]⟩,I ⟨#[]⟩,G8 G_,I ⟨#[]⟩,G8 G_,J U 0 0],G8 G_]) (by simp[results,Tryz.results144,go_sem]) rfl ⟨rfl,cI _ _ _ _⟩):p:=h
theorem uY(h:p:=by
 go_wp2;exact bodyPost_ret (v:=Hg #[I ⟨#[]⟩,GZ G6 6]) rA rfl (Hd ⟨HNO.out,He ⟨6,by decide,He ⟨HNM.out,rfl⟩,rfl,HB5.alloc HB5.size _⟩⟩)):p:=h
theorem uX(h:p:=by
 obtain⟨v',k1,k2⟩:=h1.cell j' r0 q1 i' f' q2;have hil':i'<r0.length:=(Fm.1 q2).1;have hrm':=h1.len j' r0 q1;refine⟨v',?_,k2.gY⟩;exact wA):p:=h
theorem Cj(h:p:=by
 go_wp2;refine⟨⟨k+1,by omega,by go_num,λj z hj hz=>?_,HL.trans (q2.b.mono af)⟩,by simp[intOf];omega⟩;by_cases e:j=k
 ·subst e;rw[HXy.out] at hz;obtain rfl:=Fp hz;exact hless
 ·exact HE.out j z af hz):p:=h
theorem D4(h:p:=by
 refine Obl.plain rfl ?_;intro ac wg K hsz hW hf hK;clear hsz;have e93:=hf 93 ah;simp[ai,Fo] at e93;have e95:=hf 95 ah;simp[ai,Fo] at e95;clear hf;go_simp;refine (dN ⟨a1,l1,y1,F_ ⟨gk,0,U⟩,l2,y2,a3,l3,y3,F_ ⟨gx,0,U⟩,l4,y4,a5,l5,y5⟩ c.now c.vs (aS++x.n) _ (HO.v.row.below (HBW.trans (hW.mono HBW.size))) HT.2.1.2.2.1.2.2 HU.1 HU.2).mono ?_;rintro e w6 ⟨rfl,hb6⟩;exact hK _ _ hb6 rfl):p:=h
theorem Cd(h:p:=by
 clear h2;go_wp2_with fail;refine ag au au ?_;repeat (go_big_quiet_step (first|(go_at_call 158;exact Calls.wide (HF.out _))|fail))
 refine wpQuiet_nil ?_;rintro _ ⟨q,rfl⟩;go_wp2_with fail;exact⟨⟨i+1,_,by omega,rfl,by go_num,cZ.old HU.out HBU.out HV.out HX.out,(q.b.block _ hgl).trans HG.out,HB.trans (q.b.mono HB.size)⟩,by simp[intOf];omega⟩):p:=h
theorem Cc(h:p:=by
 go_wp2_with fail;refine ag au au ?_;repeat (go_big_quiet_step (first|(go_at_call 158;exact Calls.wide (HF.out _))|fail))
 refine wpQuiet_nil ?_;rintro _ ⟨q,rfl⟩;go_wp2_with fail;exact⟨⟨i+1,_,by omega,rfl,by go_num,cZ.new HBU.out HV.out HS.out HX.out,(q.b.block _ hgl).trans HG.out,HB.trans (q.b.mono HB.size)⟩,by simp[intOf];omega⟩):p:=h
theorem Cb(h:p:=by
 have hxn:=hZ1;have hxk:=hZ2;rcases q with _|_|_|_|_|_|_|_|q <;> simp[vdF,mkV] at hf <;> subst hf
 ·exact⟨_,rfl,rfl,hZ0⟩
 ·exact⟨_,rfl,rfl⟩
 ·exact⟨_,rfl,rfl,hZ3⟩
 ·exact⟨_,rfl,rfl,hxk⟩
 ·exact⟨_,rfl,rfl⟩
 ·exact⟨_,rfl,rfl,hxn⟩
 ·exact⟨_,rfl,rfl⟩
 ·exact⟨_,rfl,U,0,0,rfl,rfl,Fq _,by decide,λj x hx=>by simp at hx,He rfl⟩):p:=h
theorem lq(h:p:=by
 go_enter Tryz.func158,Tryz.ntmps158;go_wp2_with fail;go_ret;exact⟨rfl,HB.out⟩):p:=h
theorem D2(h:p:=by
 refine Obl.plain rfl ?_;intro ac wg K hsz hW hf hK;clear hsz;have e97:=hf 97 ah;simp[ai,Fo] at e97;have e102:=hf 102 ah;simp[ai,Fo] at e102;clear hf;go_simp;refine (fj l3 8 af _).mono ?_;rintro e w6 ⟨rfl,hb6⟩;exact hK _ _ hb6 rfl):p:=h
theorem B0(h:p:=by
 clear h4 h2;go_enter Tryz.func144,Tryz.ntmps144;go_wp2_with fail;exact bodyPost_ret (v:=Hg #[Hc #[I (aS++n'),GZ G6 c',I t,I k',G8 x',I n',G8 G_,J U 0 0],G8 Hb]) (by simp[results,Tryz.results144,go_sem,aS]) rfl ⟨rfl,cI _ _ _ _⟩):p:=h
theorem BX(h:p:=by
 refine Obl.plain rfl ?_;intro ac wg K hsz hW hf hK;clear hsz;have e97:=hf 97 ah;simp[ai,Fo] at e97;have e102:=hf 102 ah;simp[ai,Fo] at e102;clear hf;go_simp;refine (gZ l3 8 h8 _).mono ?_;rintro e w6 ⟨rfl,hb6⟩;exact hK _ _ hb6 rfl):p:=h
theorem Di(h:p:=by
 refine Obl.plain rfl ?_;intro ac wg K hsz hW hf hK;clear hsz;have e97:=hf 97 ah;simp[ai,Fo] at e97;have e102:=hf 102 ah;simp[ai,Fo] at e102;clear hf;go_simp;refine (eI l3 8 _).mono ?_;rintro e w6 ⟨rfl,hb6⟩;exact hK _ _ hb6 rfl):p:=h
theorem yH(h:p:=by
 constructor
 ·rintro⟨j,q,h1,h2,h3,h4⟩;by_cases e:j=k
  ·subst e;rw[hp] at h2;obtain rfl:=Fp h2;exact absurd h3 hd
  ·exact⟨j,q,by omega,h2,h3,h4⟩
 ·rintro⟨j,q,h1,h2,h3,h4⟩;exact⟨j,q,by omega,h2,h3,h4⟩):p:=h
theorem yv(h:p:=by
 intro _ _ i1 i2 p q hp hq hpd hqd hpi hqi;obtain⟨k1,hk1⟩:=hpi;obtain⟨i3,n,b1,b2,b3,b4⟩:=(hT.2.2.2.1.1 _ _ hp).2.resolve_left hpd;obtain⟨v,b5,b6⟩:=b4 k1 _ hk1;exact absurd rfl (kh hT hx hxv b5)):p:=h
theorem yr(h:p:=by
 unfold RT;rw[List.pairwise_iff_getElem];intro i j hi hj hij;rw[List.getElem_map,List.getElem_map];rw[FB] at hi hj;exact h.lt hij (Fu hi) (Fu hj)):p:=h
theorem pR(h:p:=by
 go_enter Tryz.func104,Tryz.ntmps104;go_wp2;go_ret;exact⟨rfl,Ft _ _⟩):p:=h
theorem Dg(h:p:=by
 rw[HZO.out];exact⟨f1,f2,f3,by show aA _ _ _ _ _ _ ((c.xs.set i (bdX x (aS++x.n))).map xdF) _;rw[List.map_set];exact hX9,f5⟩):p:=h
theorem xO(h:p:=by
 refine⟨v,List.mem_filter.2 ⟨FK h2,?_⟩,rfl⟩;unfold onB;rw[Bool.or_eq_true];exact He (dY.2 h3)):p:=h
theorem xH(h:p:=by
 refine⟨i1,n,b1,b2,b3,λq t ht=>?_⟩;obtain⟨v,b5,b6⟩:=b4 q t ht;exact⟨v,tr hT hx hxv hu hum b5,b6⟩):p:=h
theorem xC(h:p:=by
 refine⟨i1,n,b1,b2,b3,λq r hr=>?_⟩;obtain⟨v,b5,b6⟩:=b4 q r hr;exact⟨v,tq hT hx hxv b5,b6⟩):p:=h
theorem xB(h:p:=by
 subst e;rw[hx] at a1;obtain rfl:=Fp a1;exact cJ.ne hT.2.1 _ _ a3 (a4.trans (a5.symm.trans hxv))):p:=h
theorem xj(h:p:=by
 have hx8:(wx.setCell ⟨b,2,U⟩ (J q3 m3 z3)).heap[gx]?=F_ (G7 curx 97 (0,0)):=(Fl _ _ _ _ (show gx≠b from hgb)).trans ((HWX.block _ (aa HXB.out)).trans HXB.out);have hK8:aL (λk=>S k\/k=b) w (wx.setCell ⟨b,2,U⟩ (J q3 m3 z3)):=(aL.dq HWX.out).set (Hd rfl);obtain⟨W8,hW8⟩:∃W8,W8=wx.setCell ⟨b,2,U⟩ (J q3 m3 z3):=⟨_,rfl⟩;rw[<-hW8] at f1 f2 f3 f4 f5 hB8 hv8 hx8 hK8 ⊢;have HF8:=ae (Fk f1 (Fk f2 (Fk f3 (Fk f4 f5))));have Bc8:=ae hB8;have Bv8:=ae hv8;have HX8:=ae hx8;have HK8:=ae hK8;clear hW8 f1 f2 f3 f4 f5 hB8 hv8 hx8 hK8 kp HO7 Bc7 Bv7 Bc6 Bv6 hnb;go_wp2_with fail;rename_i K0 hK0;refine Gt.aQ au rfl rfl au ?_;refine' Grow.stepC _ rfl ?_ ?_;rotate_left 1
 ·exact eP
 refine' Grow.stepC _ rfl ?_ ?_;rotate_left 1
 ·refine Obl.plain rfl ?_;intro ac wg K hsz hW hf hK;clear hsz;have e116:=hf 116 ah;simp[ai,Fo] at e116;clear hf;exact aO
 refine' Grow.stepC _ rfl ?_ ?_;rotate_left 1
 ·refine Obl.plain rfl ?_;intro ac wg K hsz hW hf hK;clear hsz;have e117:=hf 117 ah;simp[ai,Fo] at e117;clear hf;exact aO
 refine' Grow.stepC _ rfl ?_ ?_;rotate_left 1
 ·refine Obl.plain rfl ?_;intro ac wg K hsz hW hf hK;clear hsz;have e118:=hf 118 ah;simp[ai,Fo] at e118;clear hf;obtain⟨k0,k1,k2,k3,k4,k5⟩:=cs6 ((hW.block _ (aa Bc8.out)).trans Bc8.out);exact aO
 refine' Grow.stepC _ rfl ?_ ?_;rotate_left 1
 ·exact vr
 refine' Grow.stepC _ rfl ?_ ?_;rotate_left 1
 ·exact pC
 refine' Grow.stepC _ rfl ?_ ?_;rotate_left 1
 ·refine Obl.plain rfl ?_;intro ac wg K hsz hW hf hK;clear hsz;have e121:=hf 121 ah;simp[ai,Fo] at e121;clear hf;obtain⟨v0,v1,v2,v3,v4,v5,v6,v7⟩:=cs8 ((hW.block _ (aa Bv8.out)).trans Bv8.out);exact aO
 refine' Grow.stepC _ rfl ?_ ?_;rotate_left 1
 ·refine Obl.plain rfl ?_;intro ac wg K hsz hW hf hK;clear hsz;have e119:=hf 119 ah;simp[ai,Fo] at e119;have e120:=hf 120 ah;simp[ai,Fo] at e120;clear hf;exact aO
 refine' Grow.stepC _ rfl ?_ ?_;rotate_left 1
 ·refine Obl.plain rfl ?_;intro ac wg K hsz hW hf hK;clear hsz;have e123:=hf 123 ah;simp[ai,Fo] at e123;clear hf;exact aO
 refine Grow.done ?_;intro q wu hW hf;simp only[FH] at hf;obtain⟨h124,h123,h122,h121,h120,h119,h118,h117,h116,-⟩:=hf;have HWU:=ae hW;have Bc9:=upK Bc8 hW;have Bv9:=upK Bv8 hW;obtain⟨⟨v9,hcz⟩,hfz⟩:=aA.En HF8.2.2.2.1 hW HIR.out (i:=4) rfl;clear hW;intro K hK;rw[if_pos cQ];simp only[aN,F7,Act.put,FF,FL,FM,h124,h123,h122,h121,h120,h119,h118,h117,h116];simp only[List.getLast];go_simp;refine hK _ _ ?_;refine hK0 _ _ ?_;clear hK hK0 K K0;clear hcz hfz;have hX9:=aA.C5 HF8.2.2.2.1 HWU.out HIR.out (i:=4) rfl (aS++x.n) hZ0;have f1:=aA.bP (i:=i*5+4) (v:=I (aS++x.n)) HF8.1 HWU.out HX8.out ah ah;have f2:=aA.bP (i:=i*5+4) (v:=I (aS++x.n)) HF8.2.1 HWU.out HX8.out ah ah;have f3:=aA.bP (i:=i*5+4) (v:=I (aS++x.n)) HF8.2.2.1 HWU.out HX8.out ah ah;have f5:=aA.bP (i:=i*5+4) (v:=I (aS++x.n)) HF8.2.2.2.2 HWU.out HX8.out ah ah;have hK9:aL (λk=>S k\/k=b) w (wu.setCell ⟨gx,i*5+4,U⟩ (I (aS++x.n))):=(HK8.below HWU.out).set (He HGS.out);have hB9:(wu.setCell ⟨gx,i*5+4,U⟩ (I (aS++x.n))).heap[b]?=_:=(Fl _ _ _ _ (show b≠gx from λe=>hgb e.symm)).trans Bc9.out;have hv9b:(wu.setCell ⟨gx,i*5+4,U⟩ (I (aS++x.n))).heap[w5.heap.size]?=_:=(Fl _ _ _ _ (show w5.heap.size≠gx by omega)).trans Bv9.out;obtain⟨W9,hW9⟩:∃W9,W9=(wu.setCell ⟨gx,i*5+4,U⟩ (I (aS++x.n))):=⟨_,rfl⟩;rw[<-hW9] at hX9 f1 f2 f3 f5 hK9 hB9 hv9b ⊢;have HA9:Hid (cV W9 ⟨a1,l1,y1,F_ ⟨gk,0,U⟩,l2,y2,q3,m3,z3,F_ ⟨gx,0,U⟩,l4,y4,a5,l5,y5⟩ (dV c i x (cH t kc.z)).raw (λk=>S k\/w.heap.size<=k)):=by
  exact Dg
 have HK9:=ae hK9;have HB9:=ae hB9;clear hW9 hX9 f1 f2 f3 f5 hK9 hB9;obtain⟨v0,v1,v2,v3,v4,v5,v6,v7⟩:=cs8 hv9b;have hvl9:=aa hv9b;clear hv9b;go_wp2;exact bodyPost_ret (v:=Hg #[I (aS++x.n),GZ G6 0]) rA rfl (Hd ⟨HNO.out,Hd ⟨HMV.out,HH.out,by omega,rfl,q3,m3,z3,HB9.out,HA9.out,HK9.out⟩⟩)):p:=h
theorem jd(h:p:=by
 exact eP):p:=h
theorem lT(h:p:=by
 refine Obl.plain rfl ?_;intro ac wg K hsz hW hf hK;clear hsz;have e9:=hf 9 ah;simp[ai,Fo] at e9;clear hf;exact aO):p:=h
theorem pI(h:p:=by
 clear hf;obtain⟨k0,k1,k2,k3,k4,k5⟩:=cs6 ((hW.block _ (aa Bc2.out)).trans Bc2.out);exact aO):p:=h
theorem wA(h:p:=by
 rw[Array.getElem?_setIfInBounds_ne (λe2=>hne A1)];exact k1):p:=h
theorem vX(h:p:=by
 clear hf;obtain⟨k0,k1,k2,k3,k4,k5⟩:=cs6 ((hW.block _ (aa Bc5.out)).trans Bc5.out);exact aO):p:=h
theorem vT(h:p:=by
 clear hf;obtain⟨x0,x1,x2,x3,x4⟩:=cs5 ((hW.block _ (aa Bx2.out)).trans Bx2.out);exact aO):p:=h
theorem vS(h:p:=by
 obtain⟨u9,hu9,hun9⟩:=cm hh;have HU:=ae (Fk hu9 hun9);have HH:=ae hh;obtain⟨j9,hj9⟩:∃j9,j9=pl Vd.n c.vs (aS++x.n):=⟨_,rfl⟩;rw[<-hj9] at HU;clear hu9 hun9 hh hj9;rename_i K0 hK0;refine ba (back:=U) au (List.append_nil _).symm au ?_;refine' Grow.stepC _ rfl ?_ ?_;rotate_left 1
 ·exact kb
 refine' Grow.stepC _ rfl ?_ ?_;rotate_left 1
 ·exact pf
 refine' Grow.stepC _ rfl ?_ ?_;rotate_left 1
 ·exact vf
 refine' Grow.stepC _ rfl ?_ ?_;rotate_left 1
 ·exact pb
 refine' Grow.stepC _ rfl ?_ ?_;rotate_left 1
 ·exact pt
 refine Grow.step (λv _=>v=GZ G6 (j9:Nat)) rfl (Fact.cy _) ?_ ?_
 ·exact D4
 refine' Grow.stepC (G8 Hb) rfl ?_ ?_
 ·exact pg
 refine' Grow.stepC _ rfl ?_ ?_;rotate_left 1
 ·exact kb
 refine' Grow.stepC _ rfl ?_ ?_;rotate_left 1
 ·exact pe
 refine' Grow.stepC _ rfl ?_ ?_;rotate_left 1
 ·exact pd
 refine' Grow.stepC _ rfl ?_ ?_;rotate_left 1
 ·exact vg
 refine' Grow.stepC (GZ G6 l3) rfl ?_ ?_
 ·exact pj
 refine Grow.step (λv _=>v=GZ G6 7) rfl (Fact.cy _) ?_ ?_
 ·exact Di
 refine' Grow.stepC _ rfl ?_ ?_;rotate_left 1
 ·exact pn
 refine Grow.done ?_;intro q wy hW hf;simp only[FH] at hf;obtain⟨h13,h103,h102,h101,h100,h99,h98,h97,h96,h95,h94,h93,h92,h91,-⟩:=hf;have HWY:=ae hW;clear hW;refine hK0 _ _ ?_;simp only[aN,F7,Act.put,FF,FL,FM,h13,h103,h102,h101,h100,h99,h98,h97,h96,h95,h94,h93,h92,h91];clear hK0;go_wp2;exact bodyPost_ret (v:=Hg #[I ⟨#[]⟩,GZ G6 7]) rA rfl (Hd ⟨HNO.out,He ⟨7,by decide,Hd (He ⟨HMV.out,HH.out,rfl⟩),rfl,HBW.trans (HWY.mono HBW.size)⟩⟩)):p:=h
theorem vR(h:p:=by
 rename_i K0 hK0;refine ba (back:=U) au (List.append_nil _).symm au ?_;refine' Grow.stepC _ rfl ?_ ?_;rotate_left 1
 ·exact kb
 refine' Grow.stepC _ rfl ?_ ?_;rotate_left 1
 ·exact pf
 refine' Grow.stepC _ rfl ?_ ?_;rotate_left 1
 ·exact vf
 refine' Grow.stepC _ rfl ?_ ?_;rotate_left 1
 ·exact pb
 refine' Grow.stepC _ rfl ?_ ?_;rotate_left 1
 ·exact pt
 refine Grow.step (λv _=>v=GZ G6 (-1)) rfl (Fact.cy _) ?_ ?_
 ·exact xL
 refine' Grow.stepC (G8 G_) rfl ?_ ?_
 ·exact pg
 refine' Grow.stepC _ rfl ?_ ?_;rotate_left 1
 ·exact kb
 refine' Grow.stepC _ rfl ?_ ?_;rotate_left 1
 ·exact pe
 refine' Grow.stepC _ rfl ?_ ?_;rotate_left 1
 ·exact pd
 refine' Grow.stepC _ rfl ?_ ?_;rotate_left 1
 ·exact vg
 refine' Grow.stepC (GZ G6 l3) rfl ?_ ?_
 ·exact pj
 refine Grow.step (λv _=>v=GZ G6 9) rfl (Fact.cy _) ?_ ?_
 ·exact D2
 refine' Grow.stepC _ rfl ?_ ?_;rotate_left 1
 ·exact pn
 refine Grow.done ?_;intro q wy hW hf;simp only[FH] at hf;obtain⟨h13,h103,h102,h101,h100,h99,h98,h97,h96,h95,h94,h93,h92,h91,-⟩:=hf;have HWY:=ae hW;clear hW;refine hK0 _ _ ?_;simp only[aN,F7,Act.put,FF,FL,FM,h13,h103,h102,h101,h100,h99,h98,h97,h96,h95,h94,h93,h92,h91];clear hK0;go_wp2;exact bodyPost_ret (v:=Hg #[I ⟨#[]⟩,GZ G6 9]) rA rfl (Hd ⟨HNO.out,He ⟨9,by decide,Hd (Hd ⟨HMV.out,HH.out,by omega,rfl⟩),rfl,HBW.trans (HWY.mono HBW.size)⟩⟩)):p:=h
theorem eP(h:p:=by
 exact kb):p:=h
theorem pD(h:p:=by
 exact po):p:=h
theorem vQ(h:p:=by
 exact pt):p:=h
theorem pC(h:p:=by
 exact pb):p:=h
theorem vP(h:p:=by
 exact pn):p:=h
theorem vO(h:p:=by
 exact pj):p:=h
theorem vN(h:p:=by
 exact pg):p:=h
theorem vM(h:p:=by
 exact pf):p:=h
theorem vL(h:p:=by
 exact pe):p:=h
theorem vK(h:p:=by
 exact pd):p:=h
theorem vD(h:p:=by
 rintro e w7 ⟨q3,z3,rfl,ho7,hb7⟩;have hs7:=HB6.size;have hs8:=hW.size;exact hK _ _ hb7 ⟨q3,_,z3,rfl,ho7.bI (λk _ s=>by rcases s with (s|s)|s;exact He s;exact s.elim;exact Hd (by have s1:wg.heap.size<=k:=s;omega))⟩):p:=h
theorem vC(h:p:=by
 refine Obl.plain rfl ?_;intro ac wg K hsz hW hf hK;clear hsz;have e11:=hf 11 ah;simp[ai,Fo] at e11;clear hf;obtain⟨v0,v1,v2,v3,v4,v5,v6,v7⟩:=cs8 ((hW.block _ (aa Bv6.out)).trans Bv6.out);exact aO):p:=h
theorem vB(h:p:=by
 refine Obl.plain rfl ?_;intro ac wg K hsz hW hf hK;clear hsz;have e110:=hf 110 ah;simp[ai,Fo] at e110;clear hf;obtain⟨k0,k1,k2,k3,k4,k5⟩:=cs6 ((hW.block _ (aa Bc6.out)).trans Bc6.out);exact aO):p:=h
theorem vy(h:p:=by
 rintro e w5 ⟨rfl,hb⟩;have HNM:Hid (¬jK x kc t):=λh=>hm (by have h1:=h.2;rw[HZO.out] at h1;exact h1);have HB5:=upB HB3 hb;clear hb hm;exact uY):p:=h
theorem vx(h:p:=by
 refine Obl.plain rfl ?_;intro ac wg K hsz hW hf hK;clear hsz;have e114:=hf 114 ah;simp[ai,Fo] at e114;clear hf;exact aO):p:=h
theorem vv(h:p:=by
 refine Obl.plain rfl ?_;intro ac wg K hsz hW hf hK;clear hsz;have e107:=hf 107 ah;simp[ai,Fo] at e107;clear hf;exact aO):p:=h
theorem vu(h:p:=by
 refine Obl.plain rfl ?_;intro ac wg K hsz hW hf hK;clear hsz;have e109:=hf 109 ah;simp[ai,Fo] at e109;clear hf;exact aO):p:=h
theorem vt(h:p:=by
 refine Obl.plain rfl ?_;intro ac wg K hsz hW hf hK;clear hsz;have e108:=hf 108 ah;simp[ai,Fo] at e108;clear hf;exact aO):p:=h
theorem kb(h:p:=by
 refine Obl.plain rfl ?_;intro ac wg K hsz hW hf hK;clear hsz;have e0:=hf 0 ah;simp[ai,Fo] at e0;clear hf;exact aO):p:=h
theorem pt(h:p:=by
 refine Obl.plain rfl ?_;intro ac wg K hsz hW hf hK;clear hsz;have e94:=hf 94 ah;simp[ai,Fo] at e94;clear hf;obtain⟨v0,v1,v2,v3,v4,v5,v6,v7⟩:=cs8 ((hW.block _ (aa BvW.out)).trans BvW.out);exact aO):p:=h
theorem po(h:p:=by
 clear hf;obtain⟨k0,k1,k2,k3,k4,k5⟩:=cs6 ((hW.block _ (aa BcW.out)).trans BcW.out);exact aO):p:=h
theorem pn(h:p:=by
 refine Obl.plain rfl ?_;intro ac wg K hsz hW hf hK;clear hsz;have e103:=hf 103 ah;simp[ai,Fo] at e103;clear hf;exact aO):p:=h
theorem pj(h:p:=by
 refine Obl.plain rfl ?_;intro ac wg K hsz hW hf hK;clear hsz;have e101:=hf 101 ah;simp[ai,Fo] at e101;clear hf;exact aO):p:=h
theorem pg(h:p:=by
 refine Obl.plain rfl ?_;intro ac wg K hsz hW hf hK;clear hsz;have e96:=hf 96 ah;simp[ai,Fo] at e96;clear hf;exact aO):p:=h
theorem pf(h:p:=by
 refine Obl.plain rfl ?_;intro ac wg K hsz hW hf hK;clear hsz;have e91:=hf 91 ah;simp[ai,Fo] at e91;clear hf;exact aO):p:=h
theorem pe(h:p:=by
 refine Obl.plain rfl ?_;intro ac wg K hsz hW hf hK;clear hsz;have e98:=hf 98 ah;simp[ai,Fo] at e98;clear hf;exact aO):p:=h
theorem pd(h:p:=by
 refine Obl.plain rfl ?_;intro ac wg K hsz hW hf hK;clear hsz;have e99:=hf 99 ah;simp[ai,Fo] at e99;clear hf;exact aO):p:=h
theorem pb(h:p:=by
 refine Obl.plain rfl ?_;intro ac wg K hsz hW hf hK;clear hsz;have e11:=hf 11 ah;simp[ai,Fo] at e11;clear hf;exact aO):p:=h
theorem vj(h:p:=by
 refine Obl.plain rfl ?_;intro ac wg K hsz hW hf hK;clear hsz;have e100:=hf 100 ah;simp[ai,Fo] at e100;exact pD):p:=h
theorem vh(h:p:=by
 refine Obl.plain rfl ?_;intro ac wg K hsz hW hf hK;clear hsz;have e92:=hf 92 ah;simp[ai,Fo] at e92;exact pD):p:=h
theorem vg(h:p:=by
 refine Obl.plain rfl ?_;intro ac wg K hsz hW hf hK;clear hsz;have e100:=hf 100 ah;simp[ai,Fo] at e100;exact po):p:=h
theorem vf(h:p:=by
 refine Obl.plain rfl ?_;intro ac wg K hsz hW hf hK;clear hsz;have e92:=hf 92 ah;simp[ai,Fo] at e92;exact po):p:=h
theorem BM(h:p:=by
 have kp:∀{a l cp m T rs},aA w a l cp m T rs S->aA (wx.setCell ⟨b,2,U⟩ (J q3 m3 z3)) a l cp m T rs (λk=>S k\/w.heap.size<=k):=λh=>h.aB (λk hk s=>(Fl _ _ _ _ (hnb k (He s))).trans (HWX.block k hk)) (λ_ _ s=>He s);have f1:=kp HO.n;have f2:=kp HO.k;have f4:=kp HO.x;have f5:=kp HO.p;have f3:=HO7.aB (w':=wx.setCell ⟨b,2,U⟩ (J q3 m3 z3)) (λk hk s=>Fl _ _ _ _ (hnb k s)) (λ_ _ s=>s);have hB8:(wx.setCell ⟨b,2,U⟩ (J q3 m3 z3)).heap[b]?=F_ (G7 (clo6 a1 l1 y1 (F_ ⟨gk,0,U⟩) l2 y2 q3 m3 z3 (F_ ⟨gx,0,U⟩) l4 y4 a5 l5 y5 c.now) 29 (0,0)):=az Bc7.out _;exact Fk @kp (Fk f1 (Fk f2 (Fk f4 (Fk f5 (Fk f3 hB8)))))):p:=h
theorem lp(h:p:=by
 have x0:=λq:Wd wr=>q.slot (o:=0) Gx.out rfl;have yn:=λq:Wd wr=>(q.cell hbw).trans hc0;have hne0:=Wd.ne wr;exact Fk x0 (Fk yn hne0)):p:=h
theorem Bm(h:p:=by
 have hxo:=HT.2.1.2.2.2.1.2.1 i x HX.out;have hZ1:x.n.size<=9223372036854775807:=HZX.1;have hZ2:x.k.size<=9223372036854775807:=HZX.2.1;have hZ0:(aS++x.n).size<=9223372036854775807:=by have h1:=hxo.1.2.1;rw[ByteArray.size_append];have h2:aS.size<=10:=ah;omega
 exact Fk hxo (Fk hZ1 (Fk hZ2 hZ0))):p:=h
theorem Bf(h:p:=by
 have HOW:Hid ((q2.w.alloc (G7 #[] 95)).ownsRow q2.w.heap.size 95 8 (J (F_ ⟨q2.w.heap.size,0,U⟩) 0 0) 0 []):=World.ownsRow_made q2.w #[] 0 (Fq _) (FY _) aH;have hik:(k:Int)<=n:=af
 have hkn:k<=n:=af
 exact Fk HOW (Fk hik hkn)):p:=h
theorem uw(h:p:=by
 have hi4:i<l4:=by have:=(Fm.1 hx).1;omega
 have hii:(i:Int)<l4:=af
 have hi0:¬(i:Int)<0:=af
 exact Fk hi4 (Fk hii hi0)):p:=h
theorem uS(h:p:=by
 have hjn:j<=n:=by rw[hj,<-hxl];exact List.findIdx_le_length
 have hV4:=(hV.below hB4).aB (w':=w4) (S':=λk=>(Q k\/Q2 k)\/w.heap.size<=k) (λ_ _ _ _=>rfl) (λ_ _ s=>He (He s));exact Fk hjn hV4):p:=h
theorem cs4 {b:Nat} {v0 v1 v2 v3:Value} (h:w.heap[b]?=F_ (G7 #[v0,v1,v2,v3] T (0,0))):w.cell? ⟨b,0,U⟩=F_ v0/\w.cell? ⟨b,1,U⟩=F_ v1/\w.cell? ⟨b,2,U⟩=F_ v2/\w.cell? ⟨b,3,U⟩=F_ v3:=⟨ar h 0,ar h 1,ar h 2,ar h 3⟩
namespace Rc
def Fv.fit:Fv->Prop
 | .s t=>t.size<=9223372036854775807
 | _=>True
theorem aL.below {a b c:World} (h:aL S a b) (k:Below b.heap.size b c):aL S a c:=h.trans (aL.dq k)
theorem aL.mono {S':Nat->Prop} (h:aL S w w') (hs:∀k,S k->S' k):aL S' w w':=⟨h.os,h.tape,h.output,h.size,λk hk hn=>h.block k hk (λx=>hn (hs k x))⟩
theorem Fv.Own.Dt {h:Nat} {f:Fv} (hv:f.val=F_ v) (hf:f.fit):f.Own w h S g v:=by
 cases f with
 | s t=>cases hv;exact⟨rfl,hf⟩
 | i n=>cases hv;exact rfl
 | b x=>cases hv;exact rfl
 | l zs=>cases hv
def NoH(N:Nat->Prop) (rs:List (List Fv)) (H:Nat->Nat->Nat):Prop:=∀(j:Nat) r (i:Nat) zs,rs[j]?=F_ r->r[i]?=F_ (.l zs)->zs≠[]->¬N (H j i)
structure StJ (g m:Nat) (T:TypeId) (S N:Nat->Prop) (w wr:World) (rs:List (List Fv)) (j:Nat) (r:List Fv):Prop where
 own:∃cur H,dQ wr g m T (rs.set j r) S cur H/\NoH N (rs.set j r) H
 kept:aL S w wr
 lt:j<rs.length
section
variable {g m:Nat} {T:TypeId} {S N:Nat->Prop} {w wr w2:World} {rs:List (List Fv)} {j:Nat} {r:List Fv}
theorem StJ.get(h:StJ g m T S N w wr rs j r):(rs.set j r)[j]?=F_ r:=by rw[dL h.lt,if_pos rfl]
theorem StJ.cell(h:StJ g m T S N w wr rs j r) {i:Nat} {f:Fv} (hi:r[i]?=F_ f):∃v,wr.cell? ⟨g,j*m+i,U⟩=F_ v:=by
 obtain⟨⟨cur,H,h1,hN⟩,h2,h3⟩:=h;obtain⟨v,h4,h5⟩:=h1.cell j r (by rw[dL h3,if_pos rfl]) i f hi;exact⟨v,(ar h1.blk _).trans h4⟩
theorem StJ.kM(h:StJ g m T S N w wr rs j r) (i:Nat):wr.frozen? ⟨g,i,U⟩=G_:=by
 obtain⟨⟨cur,H,h1,hN⟩,h2,h3⟩:=h;exact al h1.blk i
theorem jL(hlt:j<rs.length) {f:Fv} {i:Nat} (hl:∀(j':Nat) r',(rs.set j r)[j']?=F_ r'->r'.length=m):∀(j':Nat) r',(rs.set j (r.set i f))[j']?=F_ r'->r'.length=m:=by
 intro j' r' hj';rw[dL hlt] at hj';split at hj'
 ·cases hj';rw[List.length_set];exact hl j r (by rw[dL hlt,if_pos rfl])
 ·exact hl j' r' (by rw[dL hlt,if_neg (by assumption)];exact hj')
theorem StJ.set(h:StJ g m T S N w wr rs j r) {i:Nat} {old:Fv} (hi:r[i]?=F_ old) (f:Fv) {v:Value} (hv:f.val=F_ v) (hf:f.fit):StJ g m T S N w (wr.setCell ⟨g,j*m+i,U⟩ v) rs j (r.set i f):=by
 have hget:=h.get;obtain⟨⟨cur,H,h1,hN⟩,h2,h3⟩:=h;have hil:i<r.length:=(Fm.1 hi).1;have hrm:=h1.len j r hget;obtain⟨v0,hc0,-⟩:=h1.cell j r hget i _ hi;have hin:j*m+i<cur.size:=(FJ.1 hc0).1;have hnl:∀zs,¬.l zs=f:=λzs e=>by subst e;cases hv
 have back:∀(j':Nat) r' (i':Nat) zs',(rs.set j (r.set i f))[j']?=F_ r'->r'[i']?=F_ (.l zs')->∃r0,(rs.set j r)[j']?=F_ r0/\r0[i']?=F_ (.l zs'):=by
  intro j' r' i' zs' hj' hi';rcases eo h3 hil hj' hi' with ⟨_,_,e⟩|⟨_,q⟩
  ·exact absurd e (hnl _)
  ·exact q
 refine⟨⟨cur.setIfInBounds (j*m+i) v,H,⟨az h1.blk v,h1.inS,jL h3 h1.len,λj' r' hj' i' f' hi'=>?_,λj' r' i' zs' j2 r2 i2 zs2 hj' hi' hz' hj2 hi2 hz2 hH=>?_⟩,λj' r' i' zs' hj' hi' hz'=>?_⟩,h2.set h1.inS,h3⟩
 ·rcases eo h3 hil hj' hi' with ⟨rfl,rfl,rfl⟩|⟨hne,r0,q1,q2⟩
  ·exact⟨v,by rw[Array.getElem?_setIfInBounds_self_of_lt hin],Fv.Own.Dt hv hf⟩
  ·exact uX
 ·obtain⟨r0,b1,b2⟩:=back j' r' i' zs' hj' hi';obtain⟨r3,b3,b4⟩:=back j2 r2 i2 zs2 hj2 hi2;exact h1.inj j' r0 i' zs' j2 r3 i2 zs2 b1 b2 hz' b3 b4 hz2 hH
 ·obtain⟨r0,b1,b2⟩:=back j' r' i' zs' hj' hi';exact hN j' r0 i' zs' b1 b2 hz'
end
theorem StJ.zZ {N:Nat->Prop} {rs:List (List Fv)} {r:List Fv} (h:StJ g m T S N w wr rs j r) {i:Nat} {old:Fv} (hi:r[i]?=F_ old) (t:ByteArray) (hf:t.size<=9223372036854775807):StJ g m T S N w (wr.setCell ⟨g,j*m+i,U⟩ (I t)) rs j (r.set i (.s t)):=h.set hi (.s t) rfl hf
theorem StJ.sQ {N:Nat->Prop} {rs:List (List Fv)} {r:List Fv} (h:StJ g m T S N w wr rs j r) {i:Nat} {old:Fv} (hi:r[i]?=F_ old) (t:Int):StJ g m T S N w (wr.setCell ⟨g,j*m+i,U⟩ (GZ G6 t)) rs j (r.set i (.i t)):=h.set hi (.i t) rfl trivial
theorem aA.st {len:Nat} {rs:List (List Fv)} (h:aA wr a len cap m T rs S) (hk:aL S w wr) {i:Nat} {r:List Fv} (hi:rs[i]?=F_ r):∃g,a=F_ ⟨g,0,U⟩/\StJ g m T S (λ_=>False) w wr rs i r:=by
 obtain⟨h1,h2,h3,h4⟩:=h;rcases h4 with h4|⟨g,cur,H,h5,h6⟩
 ·subst h4;simp at hi
 ·refine⟨g,h5,⟨cur,H,?_,λ_ _ _ _ _ _ _ q=>q⟩,hk,(Fm.1 hi).1⟩;rw[ng hi];exact h6
end Rc
def Vd.Fit(v:Vd):Prop:=v.n.size<=9223372036854775807/\v.z.size<=9223372036854775807/\v.k.size<=9223372036854775807/\v.m.size<=9223372036854775807
def Vd.At(v:Vd) (w:World) (b o:Nat):Prop:=v.Fit/\∃a len cap,aD w a len cap v.zs/\
 w.cell? ⟨b,o,U⟩=F_ (I v.n)/\w.cell? ⟨b,o+1,U⟩=F_ (GZ G6 v.c)/\w.cell? ⟨b,o+2,U⟩=F_ (I v.z)/\w.cell? ⟨b,o+3,U⟩=F_ (I v.k)/\
 w.cell? ⟨b,o+4,U⟩=F_ (G8 v.x)/\w.cell? ⟨b,o+5,U⟩=F_ (I v.m)/\w.cell? ⟨b,o+6,U⟩=F_ (G8 v.y)/\w.cell? ⟨b,o+7,U⟩=F_ (J a len cap)
theorem Vd.At.below {v:Vd} {b o:Nat} (h:v.At w b o) (hl:b<w.heap.size) (hb:Below w.heap.size w w'):v.At w' b o:=by
 obtain⟨hf,a,len,cap,hr,h0,h1,h2,h3,h4,h5,h6,h7⟩:=h;exact⟨hf,a,len,cap,hr.below hb,(aj hb hl).trans h0,(aj hb hl).trans h1,(aj hb hl).trans h2,(aj hb hl).trans h3,(aj hb hl).trans h4,(aj hb hl).trans h5,(aj hb hl).trans h6,(aj hb hl).trans h7⟩
def kC(w:World) (a:Option Addr) (len cap:Nat) (vs:List Vd):Prop:=
 vs.length=len/\len<=cap/\cap<=9223372036854775807/\
 (vs=[]\/∃b o,a=F_ ⟨b,o,U⟩/\b<w.heap.size/\∀(j:Nat) v,vs[j]?=F_ v->v.At w b (o+j*8))
theorem kC.below {len:Nat} {vs:List Vd} (h:kC w a len cap vs) (hb:Below w.heap.size w w'):kC w' a len cap vs:=by
 exact yt
theorem kC.at {len:Nat} {vs:List Vd} (h:kC w a len cap vs) {j:Nat} (hj:j<len):
  ∃b o v,a=F_ ⟨b,o,U⟩/\b<w.heap.size/\vs[j]?=F_ v/\v.At w b (o+j*8):=by
 obtain⟨h1,h2,h3,h5⟩:=h;have hx:vs[j]?=F_ (vs[j]'(by omega)):=Fu _;exact xv
namespace Rc
section
variable {α:Type} {nm:α->ByteArray} {xs:List α} {t:ByteArray}
theorem ft(h:∀(j:Nat) x,xs[j]?=F_ x->¬nm x=t):hit nm xs t=G_:=by
 unfold hit;split
 ·next x hx=>exact bH (h _ x hx)
 ·rfl
end
def E5(xs:List Pd) (t:ByteArray) (w:World) (e:Ending) (w':World):Prop:=
 Below w.heap.size w w'/\((∃(j:Nat) (x:Pd),xs[j]?=F_ x/\x.n=t/\e=Ha (GZ G6 j))\/((∀(j:Nat) x,xs[j]?=F_ x->¬x.n=t)/\e=Ha (GZ G6 (-1))))
theorem fI(d:Ad) (now:Int) (xs:List Pd) (t:ByteArray) (w:World) (hr:a_ w d.a5 d.l5 d.c5 6 (xs.map pdF)):
  Calls Tryz.prog 26 #[Hc #[J d.a1 d.l1 d.c1,J d.a2 d.l2 d.c2,J d.a3 d.l3 d.c3,J d.a4 d.l4 d.c4,J d.a5 d.l5 d.c5,GZ G6 now],I t] w (E5 xs t w):=by
 have HR:=ae hr;have hxl:xs.length=d.l5:=eu
 have hlc:=FA hr.2.1 hr.2.2.1;clear hr;go_enter Tryz.func26,Tryz.ntmps26;go_wp2;go_loopw [5] (λi wr=> ∃k:Nat,k<=d.l5/\i=GZ G6 k/\wr=w.alloc (G7 #[J d.a1 d.l1 d.c1,J d.a2 d.l2 d.c2,J d.a3 d.l3 d.c3,J d.a4 d.l4 d.c4,J d.a5 d.l5 d.c5,GZ G6 now] 29)/\Hid (∀(j:Nat) z,j<k->xs[j]?=F_ z->¬z.n=t)) (λi _=>d.l5 - (intOf i).toNat);case atStart=>exact⟨0,by omega,rfl,rfl,λ_ _ h=>absurd h af⟩
 case round=>
  obtain⟨k,hk,rfl,rfl,HE⟩:=hrel;by_cases hlt:k<d.l5
  ·obtain⟨b,o,x,ha,hb,hx,hat⟩:=bN HR.out hlt;obtain⟨va,vl,vc,hvr,-,-,-,c0,-,-,-,-,-⟩:=aR hat;have HX:=ae hx;clear hat hx hvr;exact nV
  ·obtain rfl:k=d.l5:=af
   exact nO
def EB(c:Cl) (t:ByteArray) (p:Int):Prop:=(8000<t.size/\p=2)\/(¬8000<t.size/\¬ay c/\p=1)\/(¬8000<t.size/\ay c/\p=0)
theorem er(d:Ad) (c:Cl) (t:ByteArray) (w:World) (hr:aE w d c.raw):
  Calls Tryz.prog 24 #[Hc #[J d.a1 d.l1 d.c1,J d.a2 d.l2 d.c2,J d.a3 d.l3 d.c3,J d.a4 d.l4 d.c4,J d.a5 d.l5 d.c5,GZ G6 c.now],I t] w λe w'=> ∃p:Int,e=Ha (GZ G6 p)/\EB c t p/\Below w.heap.size w w':=by
 obtain⟨HR,HB⟩:=jr;clear hr;by_cases hl:8000<t.size
 ·go_enter Tryz.func24,Tryz.ntmps24;go_wp2;go_ret;exact⟨2,rfl,He ⟨hl,rfl⟩,aq _ _⟩
 go_enter Tryz.func24,Tryz.ntmps24;go_wp2_with fail;refine (cv d c _ (HR.below (HB.trans ((aq _ _).mono HB.size)))).mono ?_;rintro e w1 ⟨r,rfl,hi,hb⟩;obtain⟨HA0,hbx⟩:=aT hb;replace HB:=upB HB hbx;clear hb hbx HA0;have HI:=ae hi;clear hi;cases r
 ·go_wp2;go_ret;exact⟨1,rfl,Hd (He ⟨hl,λh=>(by have:=HI.2 h;cases this),rfl⟩),HB.out⟩
 ·go_wp2;go_ret;exact⟨0,rfl,Hd (Hd ⟨hl,HI.1 bT,rfl⟩),HB.out⟩
theorem cV.row {c:Cr} (h:cV w d c S):aE w d c:=⟨h.n.row,h.k.row,h.v.row,h.x.row,h.p.row⟩
theorem loq(h:p:=by first|omega|(obtain⟨s,_⟩:=s;omega)|(rcases s with s|s <;> omega)|(rcases s with (s|s)|s <;> omega)):p:=h
theorem cV.rl {c:Cr} {B:Nat} (h:cV w d c S) (hS:∀k,S k->B<=k):gA B w d c:=⟨h.n.rl hS,h.k.rl hS,h.v.rl hS,h.x.rl hS,h.p.rl hS⟩
end Rc
def svB(c:Int) (z k:ByteArray) (x:Bool) (m:ByteArray) (y:Bool) (c':Int) (k':ByteArray) (x':Bool) (t:ByteArray):Bool:=
 (k.toList==k'.toList) && (x==x') && !y && m.toList.isEmpty && decide (c'<=c) && (t.toList.isEmpty || (z.toList==t.toList))
theorem zX(n:ByteArray) (c:Int) (z:ByteArray) (k:ByteArray) (x:Bool) (m:ByteArray) (y:Bool) (a:Option Addr) (len cap:Nat) (n':ByteArray) (c':Int) (k':ByteArray) (x':Bool) (v':ByteArray) (t:ByteArray) (w:World):
  Calls Tryz.prog 158 #[Hc #[I n,GZ G6 c,I z,I k,G8 x,I m,G8 y,J a len cap],Hc #[I n',GZ G6 c',I k',G8 x',I v'],I t] w λe w'=>e=Ha (G8 (svB c z k x m y c' k' x' t))/\Below w.heap.size w w':=by
 have HB:=ae (aM w (G7 #[I n,GZ G6 c,I z,I k,G8 x,I m,G8 y,J a len cap] 95) (G7 #[I n',GZ G6 c',I k',G8 x',I v'] 97));unfold svB;cases h0:(k.toList==k'.toList)
 ·exact lq
 cases h1:(x==x')
 ·exact lq
 cases y;case true=>
  exact lq
 cases h2:m.toList.isEmpty
 ·exact lq
 by_cases h3:c'<=c;case neg=>
  have h3':decide (c'<=c)=G_:=by simpa using h3
  rw[h3'];exact lq
 have h3':decide (c'<=c)=Hb:=by simpa using h3
 rw[h3'];cases h4:t.toList.isEmpty
 ·cases h5:(z.toList==t.toList);all_goals (
   go_enter Tryz.func158,Tryz.ntmps158
   go_wp2_with fail;go_ret
   exact⟨rfl,HB.out⟩)
 ·exact lq
def ky(v u:Vd):Bool:=decide (v.c<u.c) || ((v.c==u.c) && Fx v.n.toList u.n.toList)
def stepB(sv:Vd->Bool) (acc:Option Vd) (v:Vd):Option Vd:=if (sv v && (match acc with|U=>Hb|F_ u=>ky v u))=Hb then F_ v else acc
def eN(sv:Vd->Bool) (vs:List Vd):Option Vd:=vs.foldl (stepB sv) U
def svV(c':Int) (k':ByteArray) (x':Bool) (t:ByteArray) (v:Vd):Bool:=svB v.c v.z v.k v.x v.m v.y c' k' x' t
theorem fy {sv:Vd->Bool} {vs:List Vd} {v:Vd} (h:vs[i]?=F_ v):eN sv (vs.take (i+1))=stepB sv (eN sv (vs.take i)) v:=by
 unfold eN;rw[FZ,h];simp
def cZ(sv:Vd->Bool) (vs:List Vd) (i:Nat) (r:Int):Prop:=
 (r= -1/\eN sv (vs.take i)=U)\/∃(j:Nat) (u:Vd),r=j/\j<vs.length/\vs[j]?=F_ u/\eN sv (vs.take i)=F_ u
theorem cZ.no {sv:Vd->Bool} {vs:List Vd} {r:Int} {v:Vd} (h:cZ sv vs i r) (hv:vs[i]?=F_ v) (hs:sv v=G_):cZ sv vs (i+1) r:=by
 unfold cZ;rw[fy hv];simp only[stepB,hs,Bool.false_and,Bool.false_eq_true,if_false];exact h
theorem cZ.first {sv:Vd->Bool} {vs:List Vd} {v:Vd} (h:eN sv (vs.take i)=U) (hv:vs[i]?=F_ v) (hs:sv v=Hb):cZ sv vs (i+1) i:=by
 refine Hd ⟨i,v,rfl,(Fm.1 hv).1,hv,?_⟩;rw[fy hv,h];simp[stepB,hs]
theorem cZ.new {sv:Vd->Bool} {vs:List Vd} {v u:Vd} (h:eN sv (vs.take i)=F_ u) (hv:vs[i]?=F_ v) (hs:sv v=Hb) (hb:ky v u=Hb):cZ sv vs (i+1) i:=by
 refine Hd ⟨i,v,rfl,(Fm.1 hv).1,hv,?_⟩;rw[fy hv,h];simp[stepB,hs,hb]
theorem cZ.old {sv:Vd->Bool} {vs:List Vd} {v u:Vd} (hj:vs[j]?=F_ u) (h:eN sv (vs.take i)=F_ u) (hv:vs[i]?=F_ v) (hb:ky v u=G_):cZ sv vs (i+1) j:=by
 refine Hd ⟨j,u,rfl,(Fm.1 hj).1,hj,?_⟩;rw[fy hv,h];simp[stepB,hb]
theorem tS(v:Vd) (va:Option Addr) (vl vc:Nat) (n':ByteArray) (c':Int) (k':ByteArray) (x':Bool) (v':ByteArray) (t:ByteArray) (w:World) {b:Bool} (h:svV c' k' x' t v=b):
  Calls Tryz.prog 158 #[Hc #[I v.n,GZ G6 v.c,I v.z,I v.k,G8 v.x,I v.m,G8 v.y,J va vl vc],Hc #[I n',GZ G6 c',I k',G8 x',I v'],I t] w λe w'=>e=Ha (G8 b)/\Below w.heap.size w w':=by
 subst h;exact zX v.n v.c v.z v.k v.x v.m v.y va vl vc n' c' k' x' v' t w
theorem oQ(a:Option Addr) (len cap:Nat) (vs:List Vd) (n':ByteArray) (c':Int) (k':ByteArray) (x':Bool) (v':ByteArray) (t:ByteArray) (w:World) (hr:kC w a len cap vs):
  Calls Tryz.prog 143 #[J a len cap,Hc #[I n',GZ G6 c',I k',G8 x',I v'],I t] w λe w'=> ∃r:Int,e=Ha (GZ G6 r)/\cZ (svV c' k' x' t) vs len r/\Below w.heap.size w w':=by
 have HR:=ae hr;have hvl:=hr.1;have hlc:=FA hr.2.1 hr.2.2.1;clear hr;go_enter Tryz.func143,Tryz.ntmps143;go_wp2;go_loopw [7,8] (λvk vi wr=> ∃(i:Nat) (r:Int),i<=len/\vk=GZ G6 r/\vi=GZ G6 i/\Hid (cZ (svV c' k' x' t) vs i r)/\Hid (wr.heap[w.heap.size]?=F_ (G7 #[I n',GZ G6 c',I k',G8 x',I v'] 97 (0,0)))/\Hid (Below w.heap.size w wr)) (λ_ vi _=>len - (intOf vi).toNat);case atStart=>exact⟨0,-1,by omega,rfl,rfl,He ⟨rfl,rfl⟩,Fs,aq _ _⟩
 case round=>
  obtain⟨i,r,hi,rfl,rfl,HA,HG,HB⟩:=hrel;by_cases hlt:i<len;case neg=>
   obtain rfl:i=len:=af
   go_wp2;go_ret;exact⟨r,rfl,HA.out,HB.out⟩
  obtain⟨b,o,v,rfl,hb,hv,-,va,vl,vc,-,p0,p1,p2,p3,p4,p5,p6,p7⟩:=(HR.below HB.out).at hlt;have hgl:=aa HG.out;have HV:=ae hv;have hne:=Wd.ne wr;have e0:∀q:Wd wr,q.w.cell? ⟨b,o+i*8,U⟩=F_ (I v.n):=λq=>(q.cell hb).trans p0;have e1:∀q:Wd wr,q.w.cell? ⟨b,o+i*8+1,U⟩=F_ (GZ G6 v.c):=λq=>(q.cell hb).trans p1;have e2:∀q:Wd wr,q.w.cell? ⟨b,o+i*8+2,U⟩=F_ (I v.z):=λq=>(q.cell hb).trans p2;have e3:∀q:Wd wr,q.w.cell? ⟨b,o+i*8+3,U⟩=F_ (I v.k):=λq=>(q.cell hb).trans p3;have e4:∀q:Wd wr,q.w.cell? ⟨b,o+i*8+4,U⟩=F_ (G8 v.x):=λq=>(q.cell hb).trans p4;have e5:∀q:Wd wr,q.w.cell? ⟨b,o+i*8+5,U⟩=F_ (I v.m):=λq=>(q.cell hb).trans p5;have e6:∀q:Wd wr,q.w.cell? ⟨b,o+i*8+6,U⟩=F_ (G8 v.y):=λq=>(q.cell hb).trans p6;have e7:∀q:Wd wr,q.w.cell? ⟨b,o+i*8+7,U⟩=F_ (J va vl vc):=λq=>(q.cell hb).trans p7;have d0:∀q:Wd wr,q.w.cell? ⟨w.heap.size,0,U⟩=F_ (I n'):=λq=>q.slot HG.out rfl;have d1:∀q:Wd wr,q.w.cell? ⟨w.heap.size,1,U⟩=F_ (GZ G6 c'):=λq=>q.slot HG.out rfl;have d2:∀q:Wd wr,q.w.cell? ⟨w.heap.size,2,U⟩=F_ (I k'):=λq=>q.slot HG.out rfl;have d3:∀q:Wd wr,q.w.cell? ⟨w.heap.size,3,U⟩=F_ (G8 x'):=λq=>q.slot HG.out rfl;have d4:∀q:Wd wr,q.w.cell? ⟨w.heap.size,4,U⟩=F_ (I v'):=λq=>q.slot HG.out rfl;clear hv p2 p3 p4 p5 p6 p7;cases hs:svV c' k' x' t v
  ·have HF:=ae (λq:Wd wr=>tS v va vl vc n' c' k' x' v' t q.w hs);have HS:=ae hs;clear hs p0 p1;go_wp2_with fail;refine ag au au ?_;repeat (go_big_quiet_step (first|(go_at_call 158;exact Calls.wide (HF.out _))|fail))
   refine wpQuiet_nil ?_;rintro _ ⟨q,rfl⟩;go_wp2_with fail;exact⟨⟨i+1,_,by omega,rfl,by go_num,HA.no HV.out HS.out,(q.b.block _ hgl).trans HG.out,HB.trans (q.b.mono HB.size)⟩,by simp[intOf];omega⟩
  have HF:=ae (λq:Wd wr=>tS v va vl vc n' c' k' x' v' t q.w hs);have HS:=ae hs;clear hs;rcases HA.out with ⟨rfl,hn⟩|⟨j,u,rfl,hj,hu,hbu⟩
  ·have HN:=ae hn;clear hn p0 p1;go_wp2_with fail;refine ag au au ?_;repeat (go_big_quiet_step (first|(go_at_call 158;exact Calls.wide (HF.out _))|fail))
   refine wpQuiet_nil ?_;rintro _ ⟨q,rfl⟩;go_wp2_with fail;exact⟨⟨i+1,_,by omega,rfl,by go_num,cZ.first HN.out HV.out HS.out,(q.b.block _ hgl).trans HG.out,HB.trans (q.b.mono HB.size)⟩,by simp[intOf];omega⟩
  obtain⟨b2,o2,u2,e2,hb2,hu2,-,ua,ul,uc,-,s0,s1,-,-,-,-,-,-⟩:=(HR.below HB.out).at (j:=j) af;rw[hu] at hu2;obtain rfl:=Fp hu2;cases e2;have g0:∀q:Wd wr,q.w.cell? ⟨b,o+j*8,U⟩=F_ (I u.n):=λq=>(q.cell hb).trans s0;have g1:∀q:Wd wr,q.w.cell? ⟨b,o+j*8+1,U⟩=F_ (GZ G6 u.c):=λq=>(q.cell hb).trans s1;have HBU:=ae hbu;have HU:=ae hu;have hj0:¬(j:Int)<0:=af
  have hj1:decide ((j:Int)<0)=G_:=aH
  have hjl:(j:Int)<len:=af
  clear hu hu2 hbu s0 s1 p0 p1 hb2;by_cases h1:v.c<u.c
  ·have q1:decide (v.c<u.c)=Hb:=by simpa using h1
   have HX:=ae (show ky v u=Hb by simp[ky,h1]);exact Cc
  have q1:decide (v.c<u.c)=G_:=by simpa using h1
  by_cases h2:v.c=u.c;case neg=>
   have q2:(v.c==u.c)=G_:=by simpa using h2
   have HX:=ae (show ky v u=G_ by simp[ky,h1,h2]);exact Cd
  have q2:(v.c==u.c)=Hb:=by simpa using h2
  cases q3:Fx v.n.toList u.n.toList
  ·have HX:=ae (show ky v u=G_ by simp[ky,h1,q3]);exact Cd
  ·have HX:=ae (show ky v u=Hb by simp[ky,h2,q3]);clear h2;exact Cc
def aS:ByteArray:=⟨#[118,95]⟩
def oA(n' k' v' n z t:ByteArray):Prop:=k'=n/\v'=⟨#[]⟩/\(z=⟨#[]⟩\/z=t)/\n'.size<=18
theorem yZ {n':ByteArray} (h:n'.size<=18):(⟨#[118,95]⟩:ByteArray).size+n'.size<=9223372036854775807:=by rw[show (⟨#[118,95]⟩:ByteArray).size=2 from rfl];omega
theorem tY(n':ByteArray) (c':Int) (k':ByteArray) (x':Bool) (v':ByteArray) (n:ByteArray) (x:Bool) (y:Bool) (z:ByteArray) (t:ByteArray) (w:World) (hn':n'.size<=9223372036854775807) (hm:¬oA n' k' v' n z t):
  Calls Tryz.prog 144 #[Hc #[I n',GZ G6 c',I k',G8 x',I v'],Hc #[I n,G8 x,G8 y,I z],I t] w λe w'=>e=Ha (Hg #[Hc #[I ⟨#[]⟩,GZ G6 0,I ⟨#[]⟩,I ⟨#[]⟩,G8 G_,I ⟨#[]⟩,G8 G_,J U 0 0],G8 G_])/\Below w.heap.size w w':=by
 have HM:=ae hm;clear hm;by_cases h0:k'=n;case neg=>
  have q0:=bH h0;clear h0;exact ly
 have q0:=aW h0;have H0:=ae h0;clear h0;by_cases h1:v'=⟨#[]⟩;case neg=>
  have q1:=bg h1;clear h1;exact ly
 have q1:=(eM v').2 h1;have H1:=ae h1;clear h1;by_cases h3:18<n'.size
 ·by_cases h2:z=⟨#[]⟩
  ·have q2:=(eM z).2 h2;clear h2;exact ly
  ·have q2:=bg h2;by_cases h4:z=t
   ·have q4:=aW h4;clear h4 h2;exact ly
   ·have q4:=bH h4;clear h4 h2;exact ly
 by_cases h2:z=⟨#[]⟩
 ·exact absurd ⟨H0.out,H1.out,He h2,by omega⟩ HM.out
 have q2:=bg h2;by_cases h4:z=t
 ·exact absurd ⟨H0.out,H1.out,Hd h4,by omega⟩ HM.out
 have q4:=bH h4;clear h4 h2;exact ly
theorem ri(n':ByteArray) (c':Int) (k':ByteArray) (x':Bool) (v':ByteArray) (n:ByteArray) (x:Bool) (y:Bool) (z:ByteArray) (t:ByteArray) (w:World) (hm:oA n' k' v' n z t):
  Calls Tryz.prog 144 #[Hc #[I n',GZ G6 c',I k',G8 x',I v'],Hc #[I n,G8 x,G8 y,I z],I t] w λe w'=>e=Ha (Hg #[Hc #[I (aS++n'),GZ G6 c',I t,I k',G8 x',I n',G8 G_,J U 0 0],G8 Hb])/\Below w.heap.size w w':=by
 obtain⟨h0,h1,h2,h3⟩:=hm;have q0:=aW h0;have q1:=(eM v').2 h1;have q5:=yZ h3;clear h0 h1;by_cases h4:z=⟨#[]⟩
 ·have q2:=(eM z).2 h4;exact B0
 ·have q2:=bg h4;have q4:=aW (h2.resolve_left h4);exact B0
namespace Rc
theorem DP {len:Nat} {vs:List Vd} (h:a_ w a len cap 8 (vs.map vdF)):kC w a len cap vs:=by
 obtain⟨h1,h2,h3,h5⟩:=h;refine⟨by simpa using h1,h2,h3,?_⟩;rcases h5 with h5|⟨b,o,rfl,hlt,hc⟩
 ·exact He (by simpa using h5)
 ·refine Hd ⟨b,o,rfl,hlt,λj v hv=>?_⟩;obtain⟨va,vl,vc,hvr,z0,z2,z3,z5,c0,c1,c2,c3,c4,c5,c6,c7⟩:=aP (hc j (vdF v) (by rw[FG,hv];rfl));exact⟨⟨z0,z2,z3,z5⟩,va,vl,vc,hvr,c0,c1,c2,c3,c4,c5,c6,c7⟩
def bdX(x:Xd) (n:ByteArray):Xd:=⟨x.n,x.z,x.k,x.x,n⟩
def bdV(v:Vd) (n:ByteArray):Vd:=⟨v.n,v.c,v.z,v.k,v.x,n,v.y,v.zs⟩
def fh(c:Cl) (i j:Nat) (x:Xd) (u:Vd):Cl:=⟨c.ns,c.ks,c.vs.set j (bdV u x.n),c.xs.set i (bdX x u.n),c.ps,c.now⟩
def mkV(x:Xd) (t:ByteArray):Vd:=⟨aS++x.n,x.z,t,x.k,x.x,x.n,G_,[]⟩
def dV(c:Cl) (i:Nat) (x:Xd) (t:ByteArray):Cl:=⟨c.ns,c.ks,aY (pl Vd.n c.vs (aS++x.n)) (mkV x t) c.vs,c.xs.set i (bdX x (aS++x.n)),c.ps,c.now⟩
def cH(t z:ByteArray):ByteArray:=if t=⟨#[]⟩ then z else t
def jK(x:Xd) (k:Kd) (t:ByteArray):Prop:=¬cH t k.z=⟨#[]⟩/\oA x.n x.k x.v k.n k.z (cH t k.z)
def gJ(c:Cl) (i:Nat) (x:Xd) (k:Kd) (t:ByteArray) (o:Co):Prop:=
 (∃j u,eN (svV x.z x.k x.x t) c.vs=F_ u/\c.vs[j]?=F_ u/\o=⟨fh c i j x u,u.n,0⟩)\/
 (eN (svV x.z x.k x.x t) c.vs=U/\((¬jK x k t/\o=co0 6)\/(jK x k t/\((hit Vd.n c.vs (aS++x.n)=Hb/\o=co0 7)\/(hit Vd.n c.vs (aS++x.n)=G_/\((¬c.vs.length<8/\o=co0 9)\/(c.vs.length<8/\o=⟨dV c i x (cH t k.z),aS++x.n,0⟩)))))))
theorem gJ.same {x:Xd} {k:Kd} {o o':Co} (hr:ay c) (h:gJ c i x k t o) (h':gJ c i x k t o'):o=o':=by
 rcases h with ⟨j,u,a1,a2,rfl⟩|⟨a1,a⟩ <;> rcases h' with ⟨j',u',b1,b2,rfl⟩|⟨b1,b⟩
 ·rw[a1] at b1;obtain rfl:=Fp b1;obtain⟨rfl,-⟩:=hr.2.1.2.2.1.2.2.inj a2 b2 rfl;rfl
 ·rw[a1] at b1;cases b1
 ·rw[a1] at b1;cases b1
 ·rcases a with ⟨a2,rfl⟩|⟨a2,a⟩ <;> rcases b with ⟨b2,rfl⟩|⟨b2,b⟩
  ·rfl
  ·exact absurd b2 a2
  ·exact absurd a2 b2
  ·rcases a with ⟨a3,rfl⟩|⟨a3,a⟩ <;> rcases b with ⟨b3,rfl⟩|⟨b3,b⟩
   ·rfl
   ·rw[a3] at b3;cases b3
   ·rw[a3] at b3;cases b3
   ·rcases a with ⟨a4,rfl⟩|⟨a4,rfl⟩ <;> rcases b with ⟨b4,rfl⟩|⟨b4,rfl⟩
    ·rfl
    ·exact absurd b4 a4
    ·exact absurd a4 b4
    ·rfl
theorem c_ {u z:α} (_hu:xs[j]?=F_ u) (h:(xs.set j y)[k]?=F_ z):(k=j/\z=y)\/(¬k=j/\xs[k]?=F_ z):=by
 rw[GH] at h;by_cases e:j=k
 ·rw[if_pos e] at h;split at h
  ·exact He ⟨e.symm,(Fp h).symm⟩
  ·cases h
 ·rw[if_neg e] at h;exact Hd ⟨λq=>e q.symm,h⟩
theorem fY {u:α} (hu:xs[j]?=F_ u):(xs.set j y)[j]?=F_ y:=by
 rw[GH,if_pos rfl,if_pos (Fm.1 hu).1]
theorem cW {z:α} (hk:¬k=j) (h:xs[k]?=F_ z):(xs.set j y)[k]?=F_ z:=by
 rw[GH,if_neg (λe=>hk e.symm)];exact h
theorem hJ {x:α} (h:aJ nm xs) (hx:xs[k]?=F_ x) (e:nm y=nm x):aJ nm (xs.set k y):=by
 intro j a b ha hb;have hn:∀(q:Nat) z,(xs.set k y)[q]?=F_ z->∃z',xs[q]?=F_ z'/\nm z=nm z':=λq z hz=>by
  rcases c_ hx hz with ⟨rfl,rfl⟩|⟨_,hz⟩
  ·exact⟨x,hx,e⟩
  ·exact⟨z,hz,rfl⟩
 obtain⟨a',ha',ea⟩:=hn _ _ ha;obtain⟨b',hb',eb⟩:=hn _ _ hb;rw[ea,eb];exact h j a' b' ha' hb'
theorem jP {x:α} (h:aJ nm xs) (hx:xs[k]?=F_ x) (e:nm y=nm x) (hh:hit nm xs t=Hb):hit nm (xs.set k y) t=Hb:=by
 obtain⟨z,hz,hn⟩:=cm hh;generalize pl nm xs t=q at hz;by_cases hq:q=k
 ·subst hq;rw[hx] at hz;obtain rfl:=Fp hz;exact (bl (hJ h hx e) (fY hx) (e.trans hn)).2
 ·exact (bl (hJ h hx e) (cW hq hz) hn).2
theorem od(t:ByteArray):∀(vs:List Vd) (j:Nat) (u y:Vd),vs[j]?=F_ u->y.zs=u.zs->onOf t (vs.set j y)=onOf t vs
 | [],_,_,_,h,_=>by simp at h
 | v ::vs,0,u,y,h,e=>by
  obtain rfl:v=u:=hM
  rw[FL];unfold onOf;rw[e]
 | v ::vs,j+1,u,y,h,e=>by
  have h':vs[j]?=F_ u:=hM
  simp[onOf,od t vs j u y h' e]
theorem jN {p:Nat} {x:α} (h:(aY p x xs)[j]?=F_ y):y=x\/∃i:Nat,xs[i]?=F_ y:=by
 have h1:=FK h;unfold aY at h1;simp only[List.mem_append,List.mem_singleton] at h1;rcases h1 with (h1|h1)|h1
 ·exact Hd (FV (List.mem_of_mem_take h1))
 ·exact He h1
 ·exact Hd (FV (List.mem_of_mem_drop h1))
theorem DA(p:Nat) (x:α) (xs:List α):∃j:Nat,(aY p x xs)[j]?=F_ x:=FV (by unfold aY;simp)
theorem kt(p:Nat) (x:α) {j:Nat} {y:α} {xs:List α} (h:xs[j]?=F_ y):∃i:Nat,(aY p x xs)[i]?=F_ y:=by
 refine FV ?_;have h1:=FK h;rw[<-List.take_append_drop p xs,List.mem_append] at h1;unfold aY;simp only[List.mem_append,List.mem_singleton];exact h1.elim (λh=>He (He h)) Hd
theorem Al(t:ByteArray) (p:Nat) (y:Vd) (vs:List Vd) (e:y.zs=[]):onOf t (aY p y vs)=onOf t vs:=by
 have h0:¬InL y.zs t:=λ⟨k,hk⟩=>by rw[e] at hk;simp at hk
 have h1:onOf t [y]=0:=by
  unfold onOf;rw[if_neg h0];simp[onOf]
 have h2:=dO t (vs.take p) (vs.drop p);rw[List.take_append_drop] at h2;unfold aY;rw[dO,dO,h1,h2];omega
theorem tf(h:Fx x.toList t.toList=G_) (hn:¬x=t):Fx t.toList x.toList=Hb:=by
 exact xD
theorem og(b:Bool):ed [] (if b=Hb then 1 else 6):=⟨by cases b <;> decide,λi x h=>by simp at h⟩
theorem C_(h:aJ nm xs) (hn:nm y=t) (hh:hit nm xs t=G_):aJ nm (aY (pl nm xs t) y xs):=by
 have hp:pl nm xs t<=xs.length:=List.findIdx_le_length;have lo:∀(q:Nat) z,q<pl nm xs t->xs[q]?=F_ z->Fx (nm z).toList t.toList=Hb:=λq z hq hz=>by
  have h1:=List.not_of_lt_findIdx (p:=λx=> !Fx (nm x).toList t.toList) (xs:=xs) hq;obtain⟨h2,rfl⟩:=Fm.1 hz;simpa using h1
 have hi:∀(q:Nat) z,pl nm xs t<=q->xs[q]?=F_ z->Fx t.toList (nm z).toList=Hb:=λq z hq hz=>by
  have hl:=(Fm.1 hz).1;have h1:=List.findIdx_getElem (p:=λx=> !Fx (nm x).toList t.toList) (xs:=xs) (w:=Nat.lt_of_le_of_lt hq hl);have h2:xs[pl nm xs t]?=F_ (xs[pl nm xs t]'(Nat.lt_of_le_of_lt hq hl)):=Fu _;have h3:Fx (nm (xs[pl nm xs t]'(Nat.lt_of_le_of_lt hq hl))).toList t.toList=G_:=by simpa[pl] using h1
  have h4:=tf h3 (λe=>by
   have:=(bl h h2 e).2;rw[hh] at this
   cases this)
  rcases Nat.lt_or_eq_of_le hq with k|k
  ·exact cA _ _ _ h4 (h.lt k h2 hz)
  ·rw[<-k,h2] at hz;obtain rfl:=Fp hz;exact h4
 intro j a b ha hb;have ja:j+1<xs.length+1:=by
  have:=(Fm.1 ha).1;rw[dd hp] at this;exact this
 rw[jO hp _ ja] at ha;rw[jO hp _ af] at hb;generalize pl nm xs t=p at*;rcases Nat.lt_trichotomy (j+1) p with k|k|k
 ·rw[if_pos k,FI af] at ha;rw[if_pos af,FI af] at hb;exact h j a b ha hb
 ·rw[if_neg af,if_pos k] at ha;rw[if_pos af,FI af] at hb;obtain rfl:y=a:=by simpa using ha
  rw[hn];exact lo j b af hb
 ·rw[if_neg af,if_neg af,Nat.add_sub_cancel,FI af] at ha;rw[if_neg af] at hb;by_cases e:j=p
  ·rw[if_pos e] at hb;obtain rfl:y=b:=by simpa using hb
   rw[hn];exact hi j a af ha
  ·rw[if_neg e,FI af] at hb;obtain⟨q,rfl⟩:∃q,j=q+1:=⟨j - 1,by omega⟩;exact h q a b ha hb
section
variable {c:Cl} {i j:Nat} {x:Xd} {u:Vd}
theorem lK(hT:ay c) (hx:c.xs[i]?=F_ x) (hxv:x.v=⟨#[]⟩) (hu:c.vs[j]?=F_ u) (hum:u.m=⟨#[]⟩) {t s:ByteArray} (h:kQ c t s):kQ (fh c i j x u) t s:=by
 obtain⟨i1,j1,x1,v1,a1,a2,a3,a4,a5,a6,a7⟩:=h;refine⟨i1,j1,x1,v1,cW (λe=>?_) a1,a2,cW (λe=>?_) a3,a4,a5,a6,a7⟩
 ·exact xB
 ·subst e;rw[hu] at a3;obtain rfl:=Fp a3;have h1:=(hT.2.1.2.2.2.1.2.1 _ _ a1).1.1;rw[a2,<-a6,hum] at h1;exact absurd h1 ah
theorem tr(hT:ay c) (hx:c.xs[i]?=F_ x) (hxv:x.v=⟨#[]⟩) (hu:c.vs[j]?=F_ u) (hum:u.m=⟨#[]⟩) {t:ByteArray} {v:Vd} (h:bh c t v):bh (fh c i j x u) t v:=by
 have hb:=h;obtain⟨i1,j1,x1,a1,a2,a3,a4⟩:=h;have h0:¬x1.v=⟨#[]⟩:=λe=>cJ.ne hT.2.1 _ _ a3 (a4.trans e);have hB:=((hT.2.2.1.2 _ _ a1).2.resolve_left h0);obtain⟨i2,j2,x2,v2,c1,c2,c3,c4,c5,c6,-⟩:=hB;obtain⟨rfl,rfl⟩:=hT.2.1.2.2.1.2.2.inj a3 c3 (a4.trans c4.symm);refine⟨i1,j1,x1,cW (λe=>?_) a1,a2,cW (λe=>?_) a3,a4⟩
 ·subst e;rw[hx] at a1;obtain rfl:=Fp a1;exact h0 hxv
 ·subst e;rw[hu] at a3;obtain rfl:=Fp a3;have h1:=(hT.2.1.2.2.2.1.2.1 _ _ a1).1.1;rw[<-c6,hum] at h1;exact absurd h1 ah
theorem kh {v:Vd} (hT:ay c) (hx:c.xs[i]?=F_ x) (hxv:x.v=⟨#[]⟩) (h:bh c t v):¬t=x.n:=λe=>by
 obtain⟨i1,j1,x1,a1,a2,a3,a4⟩:=h;obtain⟨-,rfl⟩:=hT.2.1.2.2.2.1.2.2.inj a1 hx (a2.trans e);exact cJ.ne hT.2.1 _ _ a3 (a4.trans hxv)
theorem tG(hx:c.xs[i]?=F_ x) (hu:c.vs[j]?=F_ u) (hz:x.z<=u.c) (hk:u.k=x.k) (hxx:u.x=x.x):kQ (fh c i j x u) x.n u.n:=
 ⟨i,j,bdX x u.n,bdV u x.n,fY hx,rfl,fY hu,rfl,rfl,rfl,hz,hk,hxx⟩
theorem qR(hT:ay c) (hx:c.xs[i]?=F_ x) (hxv:x.v=⟨#[]⟩) (hu:c.vs[j]?=F_ u) (hum:u.m=⟨#[]⟩) (huy:u.y=G_) (hz:x.z<=u.c) (hk:u.k=x.k) (hxx:u.x=x.x):ay (fh c i j x u):=by
 have hV:=hT.2.1.2.2.1;have hX:=hT.2.1.2.2.2.1;have hux:=hV.2.1 _ _ hu;have hxo:=hX.2.1 _ _ hx;have hB:=tG hx hu hz hk hxx;refine⟨hT.1,⟨hT.2.1.1,hT.2.1.2.1,⟨?_,?_,hJ hV.2.2 hu rfl⟩,⟨?_,?_,hJ hX.2.2 hx rfl⟩,hT.2.1.2.2.2.2⟩,⟨?_,?_⟩,⟨?_,hT.2.2.2.1.2.1,?_⟩,⟨?_,?_⟩,?_,?_⟩
 ·rw[show (fh c i j x u).vs=c.vs.set j (bdV u x.n) from rfl,List.length_set];exact hV.1
 ·intro k v hv;rcases c_ hu hv with ⟨-,rfl⟩|⟨-,hv⟩
  ·exact⟨hux.1,hux.2.1,hux.2.2.1,hux.2.2.2.1,Hd hxo.1,λe=>absurd (show u.y=Hb from e) (by rw[huy];exact Bool.noConfusion),hux.2.2.2.2.2.2⟩
  ·exact hV.2.1 _ _ hv
 ·rw[show (fh c i j x u).xs=c.xs.set i (bdX x u.n) from rfl,List.length_set];exact hX.1
 ·intro k v hv;rcases c_ hx hv with ⟨-,rfl⟩|⟨-,hv⟩
  ·exact⟨hxo.1,hxo.2.1,hxo.2.2.1,Hd hux.1⟩
  ·exact hX.2.1 _ _ hv
 ·intro k v hv;rcases c_ hu hv with ⟨-,rfl⟩|⟨-,hv⟩
  ·exact⟨(hT.2.2.1.1 _ _ hu).1,Hd hB⟩
  ·exact⟨(hT.2.2.1.1 _ _ hv).1,(hT.2.2.1.1 _ _ hv).2.imp id (lK hT hx hxv hu hum)⟩
 ·intro k v hv;rcases c_ hx hv with ⟨-,rfl⟩|⟨-,hv⟩
  ·exact⟨(hT.2.2.1.2 _ _ hx).1,Hd hB⟩
  ·exact⟨(hT.2.2.1.2 _ _ hv).1,(hT.2.2.1.2 _ _ hv).2.imp id (lK hT hx hxv hu hum)⟩
 ·intro k p hp;have h1:=hT.2.2.2.1.1 k p hp;refine⟨λq t ht=>jP hX.2.2 hx rfl (h1.1 q t ht),h1.2.imp id ?_⟩;rintro⟨i1,n,b1,b2,b3,b4⟩;exact xH
 ·intro k v hv;rcases c_ hu hv with ⟨-,rfl⟩|⟨-,hv⟩
  ·exact yv
  ·exact hT.2.2.2.1.2.2 _ _ hv
 ·intro k v hv;rcases c_ hu hv with ⟨-,rfl⟩|⟨-,hv⟩
  ·exact (hT.2.2.2.2.1.1 j u hu:AQ1 c u)
  ·exact hT.2.2.2.2.1.1 _ _ hv
 ·intro k n hn;have h1:onOf n.n c.vs<=n.s:=hT.2.2.2.2.1.2 k n hn;show onOf n.n (c.vs.set j (bdV u x.n))<=n.s;rw[od n.n c.vs j u (bdV u x.n) hu rfl];exact h1
 ·intro k n hn q t ht;obtain⟨i1,v,b1,b2,b3⟩:=hT.2.2.2.2.2.1 k n hn q t ht;by_cases e:i1=j
  ·subst e;rw[hu] at b1;obtain rfl:=Fp b1;exact⟨i1,bdV u x.n,fY hu,b2,b3⟩
  ·exact⟨i1,v,cW e b1,b2,b3⟩
 ·intro k p hp h2;obtain⟨i1,n,b1,b2,b3,b4⟩:=hT.2.2.2.2.2.2 k p hp h2;exact xH
end
section
variable {c:Cl} {i:Nat} {x:Xd} {t:ByteArray}
theorem lJ(hT:ay c) (hx:c.xs[i]?=F_ x) (hxv:x.v=⟨#[]⟩) {r s:ByteArray} (h:kQ c r s):kQ (dV c i x t) r s:=by
 obtain⟨i1,j1,x1,v1,a1,a2,a3,a4,a5,a6,a7⟩:=h;obtain⟨j2,a3'⟩:=kt (pl Vd.n c.vs (aS++x.n)) (mkV x t) a3;refine⟨i1,j2,x1,v1,cW (λe=>?_) a1,a2,a3',a4,a5,a6,a7⟩;exact xB
theorem tq(hT:ay c) (hx:c.xs[i]?=F_ x) (hxv:x.v=⟨#[]⟩) {r:ByteArray} {v:Vd} (h:bh c r v):bh (dV c i x t) r v:=by
 obtain⟨i1,j1,x1,a1,a2,a3,a4⟩:=h;obtain⟨j2,a3'⟩:=kt (pl Vd.n c.vs (aS++x.n)) (mkV x t) a3;refine⟨i1,j2,x1,cW (λe=>?_) a1,a2,a3',a4⟩;subst e;rw[hx] at a1;obtain rfl:=Fp a1;exact cJ.ne hT.2.1 _ _ a3 (a4.trans hxv)
theorem s_(hx:c.xs[i]?=F_ x):kQ (dV c i x t) x.n (aS++x.n):=by
 obtain⟨j,hj⟩:=DA (pl Vd.n c.vs (aS++x.n)) (mkV x t) c.vs;exact⟨i,j,bdX x (aS++x.n),mkV x t,fY hx,rfl,hj,rfl,rfl,rfl,Int.le_refl _,rfl,rfl⟩
theorem qh(hT:ay c) (hx:c.xs[i]?=F_ x) (hxv:x.v=⟨#[]⟩) (hh:hit Vd.n c.vs (aS++x.n)=G_) (hl:c.vs.length<8) (hnm:aV (aS++x.n)) (ht:aV t):ay (dV c i x t):=by
 have hV:=hT.2.1.2.2.1;have hX:=hT.2.1.2.2.2.1;have hxo:=hX.2.1 _ _ hx;have hB:kQ (dV c i x t) x.n (aS++x.n):=s_ hx;refine⟨hT.1,⟨hT.2.1.1,hT.2.1.2.1,⟨?_,?_,C_ hV.2.2 rfl hh⟩,⟨?_,?_,hJ hX.2.2 hx rfl⟩,hT.2.1.2.2.2.2⟩,⟨?_,?_⟩,⟨?_,hT.2.2.2.1.2.1,?_⟩,⟨?_,?_⟩,?_,?_⟩
 ·rw[show (dV c i x t).vs=aY (pl Vd.n c.vs (aS++x.n)) (mkV x t) c.vs from rfl,dd (show pl Vd.n c.vs (aS++x.n)<=c.vs.length from List.findIdx_le_length)];omega
 ·intro k v hv;rcases jN hv with rfl|⟨k1,hv⟩
  ·exact⟨hnm,hxo.2.1,ht,hxo.2.2.1,Hd hxo.1,λe=>absurd (show G_=Hb from e) Bool.noConfusion,og x.x⟩
  ·exact hV.2.1 _ _ hv
 ·rw[show (dV c i x t).xs=c.xs.set i (bdX x (aS++x.n)) from rfl,List.length_set];exact hX.1
 ·intro k v hv;rcases c_ hx hv with ⟨-,rfl⟩|⟨-,hv⟩
  ·exact⟨hxo.1,hxo.2.1,hxo.2.2.1,Hd hnm⟩
  ·exact hX.2.1 _ _ hv
 ·intro k v hv;rcases jN hv with rfl|⟨k1,hv⟩
  ·exact⟨(hT.2.2.1.2 _ _ hx).1,Hd hB⟩
  ·exact⟨(hT.2.2.1.1 _ _ hv).1,(hT.2.2.1.1 _ _ hv).2.imp id (lJ hT hx hxv)⟩
 ·intro k v hv;rcases c_ hx hv with ⟨-,rfl⟩|⟨-,hv⟩
  ·exact⟨(hT.2.2.1.2 _ _ hx).1,Hd hB⟩
  ·exact⟨(hT.2.2.1.2 _ _ hv).1,(hT.2.2.1.2 _ _ hv).2.imp id (lJ hT hx hxv)⟩
 ·intro k p hp;have h1:=hT.2.2.2.1.1 k p hp;refine⟨λq r hr=>jP hX.2.2 hx rfl (h1.1 q r hr),h1.2.imp id ?_⟩;rintro⟨i1,n,b1,b2,b3,b4⟩;exact xC
 ·intro k v hv;rcases jN hv with rfl|⟨k1,hv⟩
  ·exact yv
  ·exact hT.2.2.2.1.2.2 _ _ hv
 ·intro k v hv;rcases jN hv with rfl|⟨k1,hv⟩
  ·intro q r hr;simp[mkV] at hr
  ·exact hT.2.2.2.2.1.1 _ _ hv
 ·intro k n hn;have h1:onOf n.n c.vs<=n.s:=hT.2.2.2.2.1.2 k n hn;show onOf n.n (aY (pl Vd.n c.vs (aS++x.n)) (mkV x t) c.vs)<=n.s;rw[Al _ _ _ _ rfl];exact h1
 ·intro k n hn q r hr;obtain⟨i1,v,b1,b2,b3⟩:=hT.2.2.2.2.2.1 k n hn q r hr;obtain⟨i2,b1'⟩:=kt (pl Vd.n c.vs (aS++x.n)) (mkV x t) b1;exact⟨i2,v,b1',b2,b3⟩
 ·intro k p hp h2;obtain⟨i1,n,b1,b2,b3,b4⟩:=hT.2.2.2.2.2.2 k p hp h2;exact xC
end
theorem qi(s:ByteArray):(aS++s).size=2+s.size:=by rw[ByteArray.size_append];rfl
theorem qj(h:aV s) (hs:s.size<=18):aV (aS++s):=by
 obtain⟨h1,-,h3⟩:=h;have hz:=qi s;refine⟨by omega,by omega,λi hi=>?_⟩;by_cases h2:i<2
 ·have e:(aS++s)[i]'hi=aS[i]'(by exact h2):=ByteArray.getElem_append_left h2;rw[e];match i,h2 with
  | 0,_=>rfl
  | 1,_=>rfl
 ·have e:(aS++s)[i]'hi=s[i - 2]'(by omega):=ByteArray.getElem_append_right (by show 2<=i;omega);rw[e];have:=h3 (i - 2) af;revert this;generalize (s[i - 2]'(by omega)).toNat=b;intro h;have hi0:¬i=0:=af
  unfold okB at h ⊢;rw[if_neg hi0];by_cases h4:i - 2=0
  ·rw[if_pos h4] at h;simp[nbB,h]
  ·rw[if_neg h4] at h;exact h
theorem zV(sv:Vd->Bool) (acc:Option Vd) (v:Vd):stepB sv acc v=acc\/(stepB sv acc v=F_ v/\sv v=Hb):=by
 unfold stepB;exact (Decidable.em _).elim (λh=>Hd ⟨if_pos h,(Bool.and_eq_true_iff.1 h).1⟩) (λh=>He (if_neg h))
theorem sn(sv:Vd->Bool) {u:Vd} :∀(vs:List Vd) (acc:Option Vd),vs.foldl (stepB sv) acc=F_ u->acc=F_ u\/sv u=Hb
 | [],_,h=>He h
 | v ::vs,acc,h=>by
  rcases sn sv vs (stepB sv acc v) h with h1|h1
  ·rcases zV sv acc v with h2|⟨h2,h3⟩
   ·rw[h2] at h1;exact He h1
   ·rw[h2] at h1;obtain rfl:=Fp h1;exact Hd h3
  ·exact Hd h1
theorem sE {z:ByteArray} (ht:df t) (hz:df z) (h:¬cH t z=⟨#[]⟩):aV (cH t z):=by
 unfold cH at h ⊢;by_cases e:t=⟨#[]⟩
 ·rw[if_pos e] at h ⊢;exact hz.resolve_left h
 ·rw[if_neg e];exact ht.resolve_left e
theorem tH {x:Xd} {k:Kd} {o:Co} (hT:ay c) (hx:c.xs[i]?=F_ x) (hxv:x.v=⟨#[]⟩) (hk:c.ks[j]?=F_ k) (ht:df t) (h:gJ c i x k t o) (h0:o.p=0):ay o.c:=by
 rcases h with ⟨j1,u,a1,a2,rfl⟩|⟨-,⟨-,rfl⟩|⟨a2,⟨-,rfl⟩|⟨a3,⟨-,rfl⟩|⟨a4,rfl⟩⟩⟩⟩
 ·have h1:=(sn _ _ _ a1).resolve_left (λe=>by cases e);unfold svV svB at h1;simp only[Bool.and_eq_true_iff] at h1;obtain⟨⟨⟨⟨⟨b1,b2⟩,b3⟩,b4⟩,b5⟩,-⟩:=h1;exact qR hT hx hxv a2 ((eM _).1 b4) (by simpa using b3) (of_decide_eq_true b5) (cY b1) (eq_of_beq b2)
 ·exact absurd h0 ah
 ·exact absurd h0 ah
 ·exact absurd h0 ah
 ·exact qh hT hx hxv a3 a4 (qj (hT.2.1.2.2.2.1.2.1 _ _ hx).1 a2.2.2.2.2) (sE ht (hT.2.1.2.1.2.1 _ _ hk).2 a2.1)
def zI(c:Cl) (v:Vd) (s:ByteArray):Prop:=v.x=Hb/\((∃(j:Nat) (t:ByteArray),v.zs[j]?=F_ t/\¬t=s)\/∃(j:Nat) (p:Pd),c.ps[j]?=F_ p/\¬p.d=⟨#[]⟩/\¬p.d=s/\InL p.zs v.m)
def fB(c:Cl) (n:Nd) (t:ByteArray) (c':Cl) (e:Int):Prop:=∃(i:Nat) (x:Xd),c.xs[i]?=F_ x/\x.n=t/\
 ((∃(j:Nat) (v:Vd),c.vs[j]?=F_ v/\v.n=x.v/\c'=c/\((¬v.z=n.z/\e=8)\/(v.z=n.z/\zI c v n.n/\e=10)\/(v.z=n.z/\¬zI c v n.n/\e=0)))\/
  (x.v=⟨#[]⟩/\∃(j:Nat) (k:Kd) (o:Co),c.ks[j]?=F_ k/\k.n=x.k/\gJ c i x k n.z o/\c'=o.c/\((k.x=G_/\e=11)\/(k.x=Hb/\e=o.p))))
theorem fB.same(hT:ay c) (h:fB c n t c1 e1) (h':fB c n t c2 e2):c1=c2/\e1=e2:=by
 obtain⟨i,x,a1,a2,a⟩:=h;obtain⟨i',x',b1,b2,b⟩:=h';obtain⟨rfl,rfl⟩:=hT.2.1.2.2.2.1.2.2.inj a1 b1 (a2.trans b2.symm);rcases a with ⟨j,v,a3,a4,rfl,a⟩|⟨a3,j,k,o,a4,a5,a6,rfl,a⟩ <;> rcases b with ⟨j',v',b3,b4,rfl,b⟩|⟨b3,j',k',o',b4,b5,b6,rfl,b⟩
 ·obtain⟨-,rfl⟩:=hT.2.1.2.2.1.2.2.inj a3 b3 (a4.trans b4.symm);refine⟨rfl,?_⟩;rcases a with ⟨p1,rfl⟩|⟨p1,p2,rfl⟩|⟨p1,p2,rfl⟩ <;> rcases b with ⟨q1,rfl⟩|⟨q1,q2,rfl⟩|⟨q1,q2,rfl⟩ <;> first|rfl|exact absurd q1 p1|exact absurd p1 q1|exact absurd q2 p2|exact absurd p2 q2
 ·exact absurd (a4.trans b3) (cJ.ne hT.2.1 _ _ a3)
 ·exact absurd (b4.trans a3) (cJ.ne hT.2.1 _ _ b3)
 ·obtain⟨-,rfl⟩:=hT.2.1.2.1.2.2.inj a4 b4 (a5.trans b5.symm);obtain rfl:=a6.same hT b6;refine⟨rfl,?_⟩;rcases a with ⟨p1,rfl⟩|⟨p1,rfl⟩ <;> rcases b with ⟨q1,rfl⟩|⟨q1,rfl⟩
  ·rfl
  ·rw[p1] at q1;cases q1
  ·rw[p1] at q1;cases q1
  ·rfl
theorem gJ.keeps {x:Xd} {k:Kd} {o:Co} (hT:ay c) (hx:c.xs[i]?=F_ x) (h:gJ c i x k t o) (h0:o.p=0):o.c.ns=c.ns/\o.c.ks=c.ks/\o.c.ps=c.ps/\o.c.now=c.now/\∀s,hit Xd.n c.xs s=Hb->hit Xd.n o.c.xs s=Hb:=by
 rcases h with ⟨j1,u,-,-,rfl⟩|⟨-,⟨-,rfl⟩|⟨-,⟨-,rfl⟩|⟨-,⟨-,rfl⟩|⟨-,rfl⟩⟩⟩⟩
 ·exact⟨rfl,rfl,rfl,rfl,λs hs=>jP hT.2.1.2.2.2.1.2.2 hx rfl hs⟩
 ·exact absurd h0 ah
 ·exact absurd h0 ah
 ·exact absurd h0 ah
 ·exact⟨rfl,rfl,rfl,rfl,λs hs=>jP hT.2.1.2.2.2.1.2.2 hx rfl hs⟩
theorem fB.right {c':Cl} (hT:ay c) (hn:aV n.z) (h:fB c n t c' 0):ay c'/\c'.ns=c.ns/\c'.ks=c.ks/\c'.ps=c.ps/\c'.now=c.now/\∀s,hit Xd.n c.xs s=Hb->hit Xd.n c'.xs s=Hb:=by
 obtain⟨i,x,a1,-,a⟩:=h;rcases a with ⟨j,v,-,-,rfl,-⟩|⟨a3,j,k,o,a4,-,a6,rfl,a⟩
 ·exact⟨hT,rfl,rfl,rfl,rfl,λ_ h=>h⟩
 ·rcases a with ⟨-,e⟩|⟨-,e⟩
  ·exact absurd e ah
  ·exact⟨tH hT a1 a3 a4 (Hd hn) a6 e.symm,a6.keeps hT a1 e.symm⟩
def dG(c:Cl) (n:Nd) (ts:List ByteArray):Nat->Cl->Prop
 | 0,c'=>c'=c
 | k+1,c'=> ∃(c1:Cl) (t:ByteArray),dG c n ts k c1/\ts[k]?=F_ t/\fB c1 n t c' 0
theorem dG.right(hT:ay c) (hn:aV n.z):∀(k:Nat) (c':Cl),dG c n ts k c'->ay c'/\c'.ns=c.ns/\c'.ks=c.ks/\c'.ps=c.ps/\c'.now=c.now/\∀s,hit Xd.n c.xs s=Hb->hit Xd.n c'.xs s=Hb
 | 0,c',h=>by
  obtain rfl:c'=c:=h;exact⟨hT,rfl,rfl,rfl,rfl,λ_ h=>h⟩
 | k+1,c',h=>by
  obtain⟨c1,t,h1,-,h3⟩:=h;obtain⟨r1,r2,r3,r4,r5,r6⟩:=dG.right hT hn k c1 h1;obtain⟨q1,q2,q3,q4,q5,q6⟩:=h3.right r1 hn;exact⟨q1,q2.trans r2,q3.trans r3,q4.trans r4,q5.trans r5,λs hs=>q6 s (r6 s hs)⟩
theorem dG.same(hT:ay c) (hn:aV n.z):∀(k:Nat) (c1 c2:Cl),dG c n ts k c1->dG c n ts k c2->c1=c2
 | 0,_,_,h,h'=>Eq.trans h (Eq.symm h')
 | k+1,c1,c2,h,h'=>by
  obtain⟨d1,t,h1,h2,h3⟩:=h;obtain⟨d2,t',g1,g2,g3⟩:=h';obtain rfl:=dG.same hT hn k d1 d2 h1 g1;rw[h2] at g2;obtain rfl:=Fp g2;exact (h3.same (dG.right hT hn k _ h1).1 g3).1
theorem dG.less:∀(k j:Nat) (c':Cl),j<=k->dG c n ts k c'->∃c1,dG c n ts j c1
 | 0,j,c',h,r=>by
  obtain rfl:j=0:=af
  exact⟨c',r⟩
 | k+1,j,c',h,r=>by
  by_cases e:j=k+1
  ·subst e;exact⟨c',r⟩
  ·obtain⟨c1,t,r1,-,-⟩:=r;exact dG.less k j c1 af r1
def zP(c:Cl) (n:Nd) (ts:List ByteArray) (c':Cl) (e:Int):Prop:=(dG c n ts ts.length c'/\e=0)\/∃(k:Nat) (c1:Cl) (t:ByteArray),dG c n ts k c1/\ts[k]?=F_ t/\fB c1 n t c' e/\¬e=0
theorem zP.same(hT:ay c) (hn:aV n.z) (h:zP c n ts c1 e1) (h':zP c n ts c2 e2):c1=c2/\e1=e2:=by
 have gen:∀{k k':Nat} {d d' d1:Cl} {t:ByteArray} {e:Int},dG c n ts k d->ts[k]?=F_ t->fB d n t d1 e->¬e=0->dG c n ts k' d'->k'<=k:=fun {k k' d d' d1 t e} r ht hd he r'=>by
  rcases Nat.lt_or_ge k k' with hk|hk
  ·obtain⟨f,r2⟩:=dG.less k' (k+1) d' hk r';obtain⟨g,t',r3,ht',hd'⟩:=r2;obtain rfl:=dG.same hT hn k _ _ r r3;rw[ht] at ht';obtain rfl:=Fp ht';exact absurd (hd.same (dG.right hT hn k _ r).1 hd').2 he
  ·exact hk
 rcases h with ⟨a1,rfl⟩|⟨k,d,t,a1,a2,a3,a4⟩ <;> rcases h' with ⟨b1,rfl⟩|⟨k',d',t',b1,b2,b3,b4⟩
 ·exact⟨dG.same hT hn _ _ _ a1 b1,rfl⟩
 ·have h1:=gen b1 b2 b3 b4 a1;have h2:=(Fm.1 b2).1;omega
 ·have h1:=gen a1 a2 a3 a4 b1;have h2:=(Fm.1 a2).1;omega
 ·have h1:=gen b1 b2 b3 b4 a1;have h2:=gen a1 a2 a3 a4 b1;obtain rfl:k=k':=af
  obtain rfl:=dG.same hT hn k _ _ a1 b1;rw[a2] at b2;obtain rfl:=Fp b2;exact a3.same (dG.right hT hn k _ a1).1 b3
def inB(zs:List ByteArray) (t:ByteArray):Bool:=zs.any λz=>z.toList==t.toList
theorem dY:inB zs t=Hb↔InL zs t:=by
 unfold inB;rw[List.any_eq_true];constructor
 ·rintro⟨z,hz,he⟩;obtain⟨j,hj⟩:=FV hz;exact⟨j,by rw[hj,cY he]⟩
 ·rintro⟨j,hj⟩;exact⟨t,FK hj,aW rfl⟩
def re(c:Cl) (t m:ByteArray):Bool:=c.ps.any λp=>(p.d.toList==t.toList) && inB p.zs m
theorem dA {m:ByteArray} :re c t m=Hb↔∃(j:Nat) (p:Pd),c.ps[j]?=F_ p/\zG p t m:=by
 unfold re;rw[List.any_eq_true];constructor
 ·rintro⟨p,hp,he⟩;obtain⟨j,hj⟩:=FV hp;rw[FU] at he;exact⟨j,p,hj,cY he.1,dY.1 he.2⟩
 ·rintro⟨j,p,hj,h1,h2⟩;exact⟨p,FK hj,by rw[FU];exact⟨aW h1,dY.2 h2⟩⟩
def onB(c:Cl) (t:ByteArray) (v:Vd):Bool:=inB v.zs t || re c t v.m
def kN(c:Cl) (t:ByteArray) (vs:List Vd):List ByteArray:=(vs.filter (onB c t)).map Vd.n
def RT(zs:List ByteArray):Prop:=zs.Pairwise λa b=>Fx a.toList b.toList=Hb
theorem Put.mem(h:Put t zs zs') (s:ByteArray):s∈zs'↔s∈zs\/s=t:=by
 exact Cf
theorem Put.len(h:Put t zs zs'):zs'.length<=zs.length+1:=by
 exact x_
theorem Put.DZ(h:Put t zs zs') (hr:RT zs):RT zs':=by
 rcases h with ⟨_,rfl⟩|⟨k,hk,rfl,hlt,hgt⟩
 ·exact hr
 ·have h1:RT (zs.take k++zs.drop k):=by rw[List.take_append_drop];exact hr
  obtain⟨h2,h3,h4⟩:=GC.1 h1;have h5:∀a∈zs.take k,Fx a.toList t.toList=Hb:=λa ha=>by
   exact xU
  have h6:∀a∈zs.drop k,Fx t.toList a.toList=Hb:=λa ha=>by
   cases hd:zs.drop k with
   | nil=>rw[hd] at ha;cases ha
   | cons b r=>
    have hb:zs[k]?=F_ b:=by rw[<-Nat.add_zero k,<-F8,hd];rfl
    have h7:=hgt b hb;rw[hd] at ha h3
    rcases List.mem_cons.1 ha with rfl|ha
    ·exact h7
    ·exact cA _ _ _ h7 ((List.pairwise_cons.1 h3).1 a ha)
  refine GC.2 ⟨GC.2 ⟨h2,List.pairwise_singleton _ _,λa ha b hb=>?_⟩,h3,λa ha b hb=>?_⟩
  ·rw[List.mem_singleton.1 hb];exact h5 a ha
  ·rcases List.mem_append.1 ha with ha|ha
   ·exact cA _ _ _ (h5 a ha) (h6 b hb)
   ·rw[List.mem_singleton.1 ha];exact h6 b hb
def DG(t:ByteArray) (zs:List ByteArray) (w:World) (e:Ending) (w':World):Prop:=∃a' l' c' zs',e=Ha (J a' l' c')/\aD w' a' l' c' zs'/\Put t zs zs'/\Below w.heap.size w w'
theorem RT.ext:∀{xs ys:List ByteArray},RT xs->RT ys->(∀s,s∈xs↔s∈ys)->xs=ys
 | [],[],_,_,_=>rfl
 | [],b ::ys,_,_,h=>by have:=(h b).2 (GL ..);cases this
 | a ::xs,[],_,_,h=>by have:=(h a).1 (GL ..);cases this
 | a ::xs,b ::ys,hx,hy,h=>by
  obtain⟨x1,x2⟩:=List.pairwise_cons.1 hx;obtain⟨y1,y2⟩:=List.pairwise_cons.1 hy;have hab:a=b:=by
   rcases List.mem_cons.1 ((h a).1 (GL ..)) with e|ha
   ·exact e
   ·rcases List.mem_cons.1 ((h b).2 (GL ..)) with e|hb
    ·exact e.symm
    ·have h9:=cA _ _ _ (y1 a ha) (x1 b hb);rw[dP] at h9;cases h9
  subst hab;have ne:∀{l:List ByteArray},(∀s∈l,Fx a.toList s.toList=Hb)->∀s∈l,¬s=a:=λhl s hs e=>by
   have h9:=hl s hs;rw[e,dP] at h9;cases h9
  rw[RT.ext x2 y2 (λs=>⟨λhs=>(List.mem_cons.1 ((h s).1 (List.mem_cons_of_mem _ hs))).resolve_left (ne x1 s hs),λhs=>(List.mem_cons.1 ((h s).2 (List.mem_cons_of_mem _ hs))).resolve_left (ne y1 s hs)⟩)]
theorem kT(a:Option Addr) (len cap:Nat) (zs:List ByteArray) (t:ByteArray) (w:World) (hr:aD w a len cap zs) (hl:len<=64) (ht:t.size<=9223372036854775807):
  Calls Tryz.prog 118 #[J a len cap,I t] w (DG t zs w):=by
 have HR:=ae hr;have hlc:=hr.2.1;have hcm:=hr.2.2.1;have hzl:=hr.1;obtain⟨i0,hi,hz0,hz1,hz2⟩:=info_parts dI;have HI0:=ae (Fk hi (Fk hz0 (Fk hz1 hz2)));clear hi hz0 hz1 hz2;have HC:Hid (∀(j:Nat) u,(zs.map Fz)[j]?=F_ u->∃g o9,a=F_ ⟨g,o9,U⟩/\g<w.heap.size/\w.cell? ⟨g,o9+j,U⟩=F_ u):=λj u hu=>by
  exact yB
 have HZS:Hid (∀(k j:Nat) z,(zs.take k++[t]++zs.drop k)[j]?=F_ z->z.size<=9223372036854775807):=λk j z hz=>by
  exact B2
 obtain⟨HON,HW⟩:=uT;clear hr;go_enter Tryz.func118,Tryz.ntmps118;go_wp2;go_loop [5] (λi=> ∃k:Nat,k<=len/\i=GZ G6 k/\Hid (∀(j:Nat) y,j<k->zs[j]?=F_ y->Fx y.toList t.toList=Hb)) (λi=>len - (intOf i).toNat);case atStart=>exact⟨0,by omega,rfl,λj y hj=>by omega⟩
 case round=>
  obtain⟨k,hk,rfl,HE⟩:=hrel;by_cases hlt:k<len
  ·obtain⟨b,o,x,rfl,hb,hx,hc,hsz⟩:=HR.at hlt;have HX:=ae hx;clear hx hsz;have hk1:(k:Int)<len:=af
   cases hless:Fx x.toList t.toList
   ·by_cases he:x=t
    ·have HP:Hid (Put t zs zs):=He ⟨he ▸ FK HX.out,rfl⟩;have hq:=aW he;clear he;go_wp2;go_ret;exact⟨_,_,_,_,rfl,HR.out,HP.out,HW.out⟩
    have HP:Hid (Put t zs (zs.take k++[t]++zs.drop k)):=Hd ⟨k,by omega,rfl,HE.out,λy hy=>by rw[HX.out] at hy;cases hy;exact oj hless he⟩;have hq:=bH he;clear he;obtain⟨HOW,hik,hkn⟩:=rR;have hcap:¬cap=k:=af
    all_goals (
     go_wp2_with (first|(at_builtin;refine aG rfl _ _ 36 rfl w.heap.size 9 i0 (I ⟨#[]⟩) 1 16 Tryz.underlying36 HI0.1 HI0.2.1 HI0.2.2.1 HI0.2.2.2 rfl ah _ _ _ rfl (HOW.out) _ k _ ((zs.take k).map Fz) rfl ll (λj u hu=>by rw[GQ] at hu;obtain⟨g9,o9,e,hgl,h3⟩:=HC.out j u (eU hu);cases e <;> exact⟨_,rfl,by simp only[FC];exact (aj (aq w _) hgl).trans h3⟩) (HON.out _) bw af aH ?_))
     intro v5 w5 hown5 hgr5
     replace hown5:w5.ownsRow w.heap.size 9 1 v5 k ((zs.take k).map Fz):=dy
     have hb5:=(aq w (G7 #[] 9)).grown hgr5 aH (λg hg=>by simp[FX] at hg;omega);obtain⟨s1,s2,s3,rfl⟩:=aC hown5;have HO5:=ae hown5;have H5:=ae hb5;have hs5:=hb5.size;clear hown5 hgr5 hb5 HOW
     go_wp2_with (first|(at_builtin;refine aG rfl _ _ 36 rfl w.heap.size 9 i0 (I ⟨#[]⟩) 1 16 Tryz.underlying36 HI0.1 HI0.2.1 HI0.2.2.1 HI0.2.2.2 rfl ah _ _ _ rfl (HO5.alloc _) _ 1 _ [I t] rfl rfl (λj u hu=>⟨_,rfl,by rw[FC,FE,ar (heap_alloc_new w5 _)];simpa using hu⟩) dh bw af bD ?_))
     intro v6 w6 hown6 hgr6;have hb6:=(H5.alloc H5.size _).grown hgr6 bD (λg hg=>(HO5.lt g hg).1);obtain⟨r1,r2,r3,rfl⟩:=aC hown6;have HO6:=ae hown6;have H6:=ae hb6;have hs6:=hb6.size;clear hown6 hgr6 hb6
     go_wp2_with (first|(at_builtin;refine aG rfl _ _ 36 rfl w.heap.size 9 i0 (I ⟨#[]⟩) 1 16 Tryz.underlying36 HI0.1 HI0.2.1 HI0.2.2.1 HI0.2.2.2 rfl ah _ _ _ rfl (HO6.out) _ (len - k) _ ((zs.drop k).map Fz) rfl lk (λj u hu=>by first|(rw[FN af] at hu;simp at hu;done)|(rw[GS,F8] at hu;obtain⟨g9,o9,e,hgl,h3⟩:=HC.out _ u hu;cases e <;> exact⟨_,rfl,by simp only[FC,GI];exact (aj H6.out hgl).trans h3⟩)) (HON.out _) bw af af ?_))
     intro v7 w7 hown7 hgr7;have hb7:=H6.grown hgr7 af (λg hg=>(HO6.lt g hg).1)
     replace hown7:w7.ownsRow w.heap.size 9 1 v7 (len+1) ((zs.take k++[t]++zs.drop k).map Fz):=by
      have e9:k+1+(len - k)=len+1:=af
      try rw[e9] at hown7
      simpa using hown7
     obtain⟨a',p',rfl,hT⟩:=bQ.ez hown7 (HZS.out k);have HT7:=ae hT;have HB7:=ae hb7;clear hown7 hgr7 hb7 hT hik hkn
     go_wp2
     go_ret
     exact⟨_,_,_,_,rfl,HT7.row,HP.out,HB7.out⟩)
   ·exact yu
  ·obtain⟨hk1,HP⟩:=uN;obtain⟨HOW,hik,hkn⟩:=rR;rcases a with _|⟨b,o,sp⟩
   ·have hl0:len=0:=Classical.byContradiction λhne0=>by
     exact xM
    obtain rfl:k=0:=af
    subst hl0;by_cases hcap:cap=0;all_goals (
     go_wp2_with (first|(at_builtin;refine aG rfl _ _ 36 rfl w.heap.size 9 i0 (I ⟨#[]⟩) 1 16 Tryz.underlying36 HI0.1 HI0.2.1 HI0.2.2.1 HI0.2.2.2 rfl ah _ _ _ rfl (HOW.out) _ 0 _ ((zs.take 0).map Fz) rfl ll (λj u hu=>by rw[GQ] at hu;obtain⟨g9,o9,e,hgl,h3⟩:=HC.out j u (eU hu);cases e <;> exact⟨_,rfl,by simp only[FC];exact (aj (aq w _) hgl).trans h3⟩) (HON.out _) bw af aH ?_))
     intro v5 w5 hown5 hgr5
     replace hown5:w5.ownsRow w.heap.size 9 1 v5 0 ((zs.take 0).map Fz):=dy
     have hb5:=(aq w (G7 #[] 9)).grown hgr5 aH (λg hg=>by simp[FX] at hg;omega);obtain⟨s1,s2,s3,rfl⟩:=aC hown5;have HO5:=ae hown5;have H5:=ae hb5;have hs5:=hb5.size;clear hown5 hgr5 hb5 HOW
     go_wp2_with (first|(at_builtin;refine aG rfl _ _ 36 rfl w.heap.size 9 i0 (I ⟨#[]⟩) 1 16 Tryz.underlying36 HI0.1 HI0.2.1 HI0.2.2.1 HI0.2.2.2 rfl ah _ _ _ rfl (HO5.alloc _) _ 1 _ [I t] rfl rfl (λj u hu=>⟨_,rfl,by rw[FC,FE,ar (heap_alloc_new w5 _)];simpa using hu⟩) dh bw af bD ?_))
     intro v6 w6 hown6 hgr6;have hb6:=(H5.alloc H5.size _).grown hgr6 bD (λg hg=>(HO5.lt g hg).1);obtain⟨r1,r2,r3,rfl⟩:=aC hown6;have HO6:=ae hown6;have H6:=ae hb6;have hs6:=hb6.size;clear hown6 hgr6 hb6
     go_wp2_with (first|(at_builtin;refine aG rfl _ _ 36 rfl w.heap.size 9 i0 (I ⟨#[]⟩) 1 16 Tryz.underlying36 HI0.1 HI0.2.1 HI0.2.2.1 HI0.2.2.2 rfl ah _ _ _ rfl (HO6.out) _ (0 - 0) _ ((zs.drop 0).map Fz) rfl lk (λj u hu=>by first|(rw[FN af] at hu;simp at hu;done)|(rw[GS,F8] at hu;obtain⟨g9,o9,e,hgl,h3⟩:=HC.out _ u hu;cases e <;> exact⟨_,rfl,by simp only[FC,GI];exact (aj H6.out hgl).trans h3⟩)) (HON.out _) bw af af ?_))
     intro v7 w7 hown7 hgr7;have hb7:=H6.grown hgr7 af (λg hg=>(HO6.lt g hg).1)
     replace hown7:w7.ownsRow w.heap.size 9 1 v7 (0+1) ((zs.take 0++[t]++zs.drop 0).map Fz):=by
      have e9:0+1+(0 - 0)=0+1:=af
      try rw[e9] at hown7
      simpa using hown7
     obtain⟨a',p',rfl,hT⟩:=bQ.ez hown7 (HZS.out 0);have HT7:=ae hT;have HB7:=ae hb7;clear hown7 hgr7 hb7 hT hik hkn
     go_wp2
     go_ret
     exact⟨_,_,_,_,rfl,HT7.row,HP.out,HB7.out⟩)
   by_cases hcap:cap=k;all_goals (
    go_wp2_with (first|(at_builtin;refine aG rfl _ _ 36 rfl w.heap.size 9 i0 (I ⟨#[]⟩) 1 16 Tryz.underlying36 HI0.1 HI0.2.1 HI0.2.2.1 HI0.2.2.2 rfl ah _ _ _ rfl (HOW.out) _ k _ ((zs.take k).map Fz) rfl ll (λj u hu=>by rw[GQ] at hu;obtain⟨g9,o9,e,hgl,h3⟩:=HC.out j u (eU hu);cases e <;> exact⟨_,rfl,by simp only[FC];exact (aj (aq w _) hgl).trans h3⟩) (HON.out _) bw af aH ?_))
    intro v5 w5 hown5 hgr5
    replace hown5:w5.ownsRow w.heap.size 9 1 v5 k ((zs.take k).map Fz):=dy
    have hb5:=(aq w (G7 #[] 9)).grown hgr5 aH (λg hg=>by simp[FX] at hg;omega);obtain⟨s1,s2,s3,rfl⟩:=aC hown5;have HO5:=ae hown5;have H5:=ae hb5;have hs5:=hb5.size;clear hown5 hgr5 hb5 HOW
    go_wp2_with (first|(at_builtin;refine aG rfl _ _ 36 rfl w.heap.size 9 i0 (I ⟨#[]⟩) 1 16 Tryz.underlying36 HI0.1 HI0.2.1 HI0.2.2.1 HI0.2.2.2 rfl ah _ _ _ rfl (HO5.alloc _) _ 1 _ [I t] rfl rfl (λj u hu=>⟨_,rfl,by rw[FC,FE,ar (heap_alloc_new w5 _)];simpa using hu⟩) dh bw af bD ?_))
    intro v6 w6 hown6 hgr6;have hb6:=(H5.alloc H5.size _).grown hgr6 bD (λg hg=>(HO5.lt g hg).1);obtain⟨r1,r2,r3,rfl⟩:=aC hown6;have HO6:=ae hown6;have H6:=ae hb6;have hs6:=hb6.size;clear hown6 hgr6 hb6
    go_wp2_with (first|(at_builtin;refine aG rfl _ _ 36 rfl w.heap.size 9 i0 (I ⟨#[]⟩) 1 16 Tryz.underlying36 HI0.1 HI0.2.1 HI0.2.2.1 HI0.2.2.2 rfl ah _ _ _ rfl (HO6.out) _ (len - k) _ ((zs.drop k).map Fz) rfl lk (λj u hu=>by first|(rw[FN af] at hu;simp at hu;done)|(rw[GS,F8] at hu;obtain⟨g9,o9,e,hgl,h3⟩:=HC.out _ u hu;cases e <;> exact⟨_,rfl,by simp only[FC,GI];exact (aj H6.out hgl).trans h3⟩)) (HON.out _) bw af af ?_))
    intro v7 w7 hown7 hgr7;have hb7:=H6.grown hgr7 af (λg hg=>(HO6.lt g hg).1)
    replace hown7:w7.ownsRow w.heap.size 9 1 v7 (len+1) ((zs.take k++[t]++zs.drop k).map Fz):=by
     have e9:k+1+(len - k)=len+1:=af
     try rw[e9] at hown7
     simpa using hown7
    obtain⟨a',p',rfl,hT⟩:=bQ.ez hown7 (HZS.out k);have HT7:=ae hT;have HB7:=ae hb7;clear hown7 hgr7 hb7 hT hik hkn
    go_wp2
    go_ret
    exact⟨_,_,_,_,rfl,HT7.row,HP.out,HB7.out⟩)
def gB(c:Cl) (zs:List ByteArray) (s:ByteArray):Prop:=∃(j:Nat) (t:ByteArray) (v:Vd),zs[j]?=F_ t/\bh c t v/\v.n=s
theorem bh.name {v v':Vd} (hx:aJ Xd.n c.xs) (h:bh c t v) (h':bh c t v'):v.n=v'.n:=by
 exact xW
theorem gB.snoc:gB c (cs++[t]) s↔gB c cs s\/∃v,bh c t v/\v.n=s:=by
 constructor
 ·rintro⟨j,t',v,h1,h2,h3⟩;rw[List.getElem?_append] at h1;split at h1
  ·exact He ⟨j,t',v,h1,h2,h3⟩
  ·have h4:=FK h1;rw[List.mem_singleton] at h4;subst h4;exact Hd ⟨v,h2,h3⟩
 ·rintro (⟨j,t',v,h1,h2,h3⟩|⟨v,h2,h3⟩)
  ·exact⟨j,t',v,by rw[FI (Fm.1 h1).1];exact h1,h2,h3⟩
  ·exact⟨cs.length,t,v,by simp,h2,h3⟩
theorem zA {v:Vd} (hx:aJ Xd.n c.xs) (hb:bh c t v):((s∈zs\/gB c cs s)\/s=v.n)↔(s∈zs\/gB c (cs++[t]) s):=by
 rw[gB.snoc];constructor
 ·rintro ((h|h)|rfl)
  ·exact He h
  ·exact Hd (He h)
  ·exact Hd (Hd ⟨v,hb,rfl⟩)
 ·rintro (h|h|⟨v',h1,rfl⟩)
  ·exact He (He h)
  ·exact He (Hd h)
  ·exact Hd (h1.name hx hb)
theorem AD(hb:∀v,¬bh c t v):(s∈zs\/gB c cs s)↔(s∈zs\/gB c (cs++[t]) s):=by
 rw[gB.snoc];constructor
 ·rintro (h|h)
  ·exact He h
  ·exact Hd (He h)
 ·rintro (h|h|⟨v',h1,_⟩)
  ·exact He h
  ·exact Hd h
  ·exact absurd h1 (hb v')
theorem kY(d:Ad) (c:Cl) (t:ByteArray) (w:World) (hr:aE w d c.raw) (hT:ay c) {j:Nat} {v:Vd} (hv:c.vs[j]?=F_ v) (hb:bh c t v):
  Calls Tryz.prog 98 #[Hc #[J d.a1 d.l1 d.c1,J d.a2 d.l2 d.c2,J d.a3 d.l3 d.c3,J d.a4 d.l4 d.c4,J d.a5 d.l5 d.c5,GZ G6 c.now],I t] w λe w'=>e=Ha (GZ G6 j)/\Below w.heap.size w w':=by
 refine (fa d c t w hr hT.2.1.2.2.2.1.2.2 hT.2.1.2.2.1.2.2 (λj v hv e=>by have h9:=(hT.2.1.2.2.1.2.1 j v hv).1;rw[e] at h9;have h8:=h9.1;revert h8;decide)).mono ?_;rintro e w' ⟨hb2,⟨j',v',h1,h2,rfl⟩|⟨hno,rfl⟩⟩
 ·obtain⟨rfl,_⟩:=hT.2.1.2.2.1.2.2.inj h1 hv (h2.name hT.2.1.2.2.2.1.2.2 hb);exact⟨rfl,hb2⟩
 ·exact absurd hb (hno v)
theorem ni(d:Ad) (c:Cl) (t:ByteArray) (w:World) (hr:aE w d c.raw) (hT:ay c) (hno:∀v,¬bh c t v):
  Calls Tryz.prog 98 #[Hc #[J d.a1 d.l1 d.c1,J d.a2 d.l2 d.c2,J d.a3 d.l3 d.c3,J d.a4 d.l4 d.c4,J d.a5 d.l5 d.c5,GZ G6 c.now],I t] w λe w'=>e=Ha (GZ G6 (-1))/\Below w.heap.size w w':=by
 refine (fa d c t w hr hT.2.1.2.2.2.1.2.2 hT.2.1.2.2.1.2.2 (λj v hv e=>by have h9:=(hT.2.1.2.2.1.2.1 j v hv).1;rw[e] at h9;have h8:=h9.1;revert h8;decide)).mono ?_;rintro e w' ⟨hb2,⟨j',v',h1,h2,rfl⟩|⟨_,rfl⟩⟩
 ·exact absurd h2 (hno v')
 ·exact⟨rfl,hb2⟩
def DM(c:Cl) (zs cs:List ByteArray) (w:World) (e:Ending) (w':World):Prop:=∃a' l' c' zs',e=Ha (J a' l' c')/\aD w' a' l' c' zs'/\RT zs'/\(∀s,s∈zs'↔s∈zs\/gB c cs s)/\zs'.length<=zs.length+cs.length/\Below w.heap.size w w'
theorem k8(d:Ad) (c:Cl) (a:Option Addr) (len cap:Nat) (zs:List ByteArray) (p:Pd) (va:Option Addr) (vl vc:Nat) (w:World) (hr:aE w d c.raw) (hT:ay c) (hz:aD w a len cap zs) (hri:RT zs) (hp:aD w va vl vc p.zs) (hl:len+vl<=60):
  Calls Tryz.prog 147 #[Hc #[J d.a1 d.l1 d.c1,J d.a2 d.l2 d.c2,J d.a3 d.l3 d.c3,J d.a4 d.l4 d.c4,J d.a5 d.l5 d.c5,GZ G6 c.now],J a len cap,Hc #[I p.n,GZ G6 p.c,I p.z,J va vl vc,I p.d,GZ G6 p.p]] w (DM c zs p.zs w):=by
 obtain⟨a1,l1,y1,a2,l2,y2,a3,l3,y3,a4,l4,y4,a5,l5,y5⟩:=d;dsimp only;have HR:=ae hr;have HT:=ae hT;have HP:=ae hp;have hpl:=hp.1;have hzl:=hz.1;have HZ0:=ae hz;have HRI:=ae hri;have hll:c.vs.length=l3:=j5
 clear hr hT hp hz hri;go_enter Tryz.func147,Tryz.ntmps147;go_wp2;go_loopw [1,7] (λvl0 vi wr=> ∃(k:Nat) (ca:Option Addr) (cl cc:Nat) (ys:List ByteArray),k<=vl/\vi=GZ G6 k/\vl0=J ca cl cc/\Hid (aD wr ca cl cc ys/\RT ys/\(∀s,s∈ys↔s∈zs\/gB c (p.zs.take k) s)/\ys.length<=zs.length+k)/\Hid (Below ((w.alloc (G7 #[J a1 l1 y1,J a2 l2 y2,J a3 l3 y3,J a4 l4 y4,J a5 l5 y5,GZ G6 c.now] 29)).alloc (G7 #[I p.n,GZ G6 p.c,I p.z,J va vl vc,I p.d,GZ G6 p.p] 40)).heap.size ((w.alloc (G7 #[J a1 l1 y1,J a2 l2 y2,J a3 l3 y3,J a4 l4 y4,J a5 l5 y5,GZ G6 c.now] 29)).alloc (G7 #[I p.n,GZ G6 p.c,I p.z,J va vl vc,I p.d,GZ G6 p.p] 40)) wr)) (λ_ vi _=>vl - (intOf vi).toNat);case atStart=>exact⟨0,a,len,cap,zs,by omega,rfl,rfl,⟨HZ0.below (aM _ _ _),HRI.out,λs=>⟨He,λh=>h.elim id (λ⟨j,t,v,h,_⟩=>by simp at h)⟩,by omega⟩,Ft _ _⟩
 case round=>
  obtain⟨k,ca,cl,cc,ys,hk,rfl,rfl,HQ,HL⟩:=hrel;have hb0:=HL.out;obtain⟨HA0,HA1,hbx⟩:=bU hb0;have Bk:=ae HA0;have Bp:=ae HA1;have HB:=ae hbx;clear hb0 HA0 HA1 hbx;have hyl:=HQ.1.1;have hyb:=HQ.2.2.2;by_cases hlt:k<vl
  ·have hk1:(k:Int)<vl:=af
   obtain⟨b,o,t,rfl,hb,hx,hc,hsz⟩:=(HP.below HB.out).at hlt;have HX:=ae hx;clear hx hsz;have HL2:Hid (Bw wr wr):=Bw.refl _;rcases Classical.em (∃v,bh c t v) with ⟨v,hbd⟩|hno
   ·obtain⟨i9,j,x9,h91,h92,hv,h94⟩:=hbd;have hbd:bh c t v:=⟨i9,j,x9,h91,h92,hv,h94⟩;have HVJ:=ae hv;have HBD:=ae hbd;clear h91 h92 h94 hbd hv;obtain⟨k0,k1,k2,k3,k4,k5⟩:=cs6 Bk;obtain⟨p0,p1,p2,p3,p4,p5⟩:=cs6 Bp;go_wp2_with fail;clear k0 k1 k2 k3 k4 k5 p0 p1 p2 p3 p4 p5;have Gk:=Bk;have Gp:=Bp;have HW:=HB;obtain⟨k0,k1,k2,k3,k4,k5⟩:=sl6 Gk;obtain⟨p0,p1,p2,p3,p4,p5⟩:=sl6 Gp;have tc:=λq:Wd wr=>(q.cell hb).trans hc;have hne0:=Wd.ne wr;have HC0:=ae (λq:Wd wr=>kY ⟨a1,l1,y1,a2,l2,y2,a3,l3,y3,a4,l4,y4,a5,l5,y5⟩ c t q.w (HR.below (HW.trans (q.b.mono HW.size))) HT.out HVJ.out HBD.out);go_wp2_with fail;refine ag au au ?_;repeat (go_big_quiet_step (first|(go_at_call 98;exact Calls.wide (HC0.out _))|fail))
    refine wpQuiet_nil ?_;rintro _ ⟨q1,rfl⟩;obtain⟨HB1,Ck⟩:=eK;have Cp:=upK Gp q1.b;have CHL2:=ae ((HL2.out).below q1.b);clear hne0 HW HB HC0 k0 k1 k2 k3 k4 k5 p0 p1 p2 p3 p4 p5 tc Gk Gp Bk Bp HL2 hb hc;have HB:=HB1;clear HB1;have HL2:=CHL2;clear CHL2;have Bk:=Ck;clear Ck;have Bp:=Cp;clear Cp;have hv:=HVJ.out;have hj3:j<l3:=by have:=(Fm.1 hv).1;omega
    have hj1:(0:Int)<=j:=af
    have hj2:(j:Int)<l3:=af
    obtain⟨b3,o3,y,rfl,hb3,hy,hat⟩:=bM (HR.v.below HB.out) hj3;rw[hv] at hy;obtain rfl:=Fp hy;obtain⟨ya,yl,yc,-,hz0,-,-,-,hc0,-,-,-,-,-,-,-⟩:=aP hat;clear hv hy hat;obtain⟨k0,k1,k2,k3,k4,k5⟩:=cs6 Bk;obtain⟨p0,p1,p2,p3,p4,p5⟩:=cs6 Bp;go_wp2_with fail;refine (kT ca cl cc ys v.n _ (HQ.1.below HL2.out) af hz0).mono ?_;rintro e w2 ⟨sa,sl,sc,zs2,rfl,htx,hput,hb2⟩;clear k0 k1 k2 k3 k4 k5 p0 p1 p2 p3 p4 p5;replace Bk:=upK Bk hb2;replace Bp:=upK Bp hb2;replace HL2:=ae (HL2.below hb2);replace HB:=upB HB hb2;clear hb2;have HTX:=ae htx;have HPU:=ae hput;clear htx hput hc0 hz0 hb3;obtain⟨k0,k1,k2,k3,k4,k5⟩:=cs6 Bk;obtain⟨p0,p1,p2,p3,p4,p5⟩:=cs6 Bp;go_wp2;refine⟨⟨k+1,sa,sl,sc,zs2,by omega,by go_num,rfl,⟨HTX.out,HPU.DZ HQ.2.1,λs=>?_,by have h9:=HPU.len;omega⟩,HL.trans (HL2.out.mono HL.size)⟩,by simp[intOf];omega⟩;rw[HPU.mem,HQ.2.2.1,FZ,HX.out,Option.toList_some];exact zA HT.2.1.2.2.2.1.2.2 HBD.out
   ·have HNO:Hid (∀v,¬bh c t v):=λv h=>hno ⟨v,h⟩;clear hno;obtain⟨k0,k1,k2,k3,k4,k5⟩:=cs6 Bk;obtain⟨p0,p1,p2,p3,p4,p5⟩:=cs6 Bp;go_wp2_with fail;clear k0 k1 k2 k3 k4 k5 p0 p1 p2 p3 p4 p5;have Gk:=Bk;have Gp:=Bp;have HW:=HB;obtain⟨k0,k1,k2,k3,k4,k5⟩:=sl6 Gk;obtain⟨p0,p1,p2,p3,p4,p5⟩:=sl6 Gp;have tc:=λq:Wd wr=>(q.cell hb).trans hc;have hne0:=Wd.ne wr;have HC0:=ae (λq:Wd wr=>ni ⟨a1,l1,y1,a2,l2,y2,a3,l3,y3,a4,l4,y4,a5,l5,y5⟩ c t q.w (HR.below (HW.trans (q.b.mono HW.size))) HT.out HNO.out);go_wp2_with fail;refine ag au au ?_;repeat (go_big_quiet_step (first|(go_at_call 98;exact Calls.wide (HC0.out _))|fail))
    refine wpQuiet_nil ?_;rintro _ ⟨q1,rfl⟩;obtain⟨HB1,Ck⟩:=eK;have Cp:=upK Gp q1.b;have CHL2:=ae ((HL2.out).below q1.b);clear hne0 HW HB HC0 k0 k1 k2 k3 k4 k5 p0 p1 p2 p3 p4 p5 tc Gk Gp Bk Bp HL2 hb hc;have HB:=HB1;clear HB1;have HL2:=CHL2;clear CHL2;have Bk:=Ck;clear Ck;have Bp:=Cp;clear Cp;obtain⟨k0,k1,k2,k3,k4,k5⟩:=cs6 Bk;obtain⟨p0,p1,p2,p3,p4,p5⟩:=cs6 Bp;go_wp2;refine⟨⟨k+1,ca,cl,cc,ys,by omega,by go_num,rfl,⟨HQ.1.below HL2.out,HQ.2.1,λs=>?_,by omega⟩,HL.trans (HL2.out.mono HL.size)⟩,by simp[intOf];omega⟩;rw[HQ.2.2.1,FZ,HX.out,Option.toList_some];exact AD HNO.out
  have hk1:¬(k:Int)<vl:=af
  have HQ2:=HQ;rw[FT (show p.zs.length<=k by omega)] at HQ2;obtain⟨k0,k1,k2,k3,k4,k5⟩:=cs6 Bk;obtain⟨p0,p1,p2,p3,p4,p5⟩:=cs6 Bp;go_wp2;go_ret;exact⟨_,_,_,ys,rfl,HQ2.1,HQ2.2.1,HQ2.2.2.1,by have:=HQ2.2.2.2;omega,HB.out⟩
def PBs(c:Cl) (t:ByteArray) (k:Nat) (s:ByteArray):Prop:=∃(j:Nat) (p:Pd),j<k/\c.ps[j]?=F_ p/\p.d=t/\gB c p.zs s
def VBs(c:Cl) (t:ByteArray) (k:Nat) (s:ByteArray):Prop:=∃(j:Nat) (v:Vd),j<k/\c.vs[j]?=F_ v/\InL v.zs t/\v.n=s
theorem PBs.yes {p:Pd} (hp:c.ps[k]?=F_ p) (hd:p.d=t):PBs c t (k+1) s↔PBs c t k s\/gB c p.zs s:=by
 constructor
 ·rintro⟨j,q,h1,h2,h3,h4⟩;by_cases e:j=k
  ·subst e;rw[hp] at h2;obtain rfl:=Fp h2;exact Hd h4
  ·exact He ⟨j,q,by omega,h2,h3,h4⟩
 ·rintro (⟨j,q,h1,h2,h3,h4⟩|h)
  ·exact⟨j,q,by omega,h2,h3,h4⟩
  ·exact⟨k,p,by omega,hp,hd,h⟩
theorem PBs.no {p:Pd} (hp:c.ps[k]?=F_ p) (hd:¬p.d=t):PBs c t (k+1) s↔PBs c t k s:=by
 exact yH
theorem VBs.yes {v:Vd} (hp:c.vs[k]?=F_ v) (hd:InL v.zs t):VBs c t (k+1) s↔VBs c t k s\/s=v.n:=by
 constructor
 ·rintro⟨j,q,h1,h2,h3,h4⟩;by_cases e:j=k
  ·subst e;rw[hp] at h2;obtain rfl:=Fp h2;exact Hd h4.symm
  ·exact He ⟨j,q,by omega,h2,h3,h4⟩
 ·rintro (⟨j,q,h1,h2,h3,h4⟩|h)
  ·exact⟨j,q,by omega,h2,h3,h4⟩
  ·exact⟨k,v,by omega,hp,hd,h.symm⟩
theorem VBs.no {v:Vd} (hp:c.vs[k]?=F_ v) (hd:¬InL v.zs t):VBs c t (k+1) s↔VBs c t k s:=by
 exact yH
def AdF(c:Cl) (zs cs:List ByteArray):Fact:=λv w=> ∃a' l' c' zs',v=J a' l' c'/\aD w a' l' c' zs'/\RT zs'/\(∀s,s∈zs'↔s∈zs\/gB c cs s)/\zs'.length<=zs.length+cs.length
theorem AdF.mono:Fact.ck (AdF c zs cs):=by
 rintro v w w' ⟨a',l',c',zs',h1,h2,h3⟩ hb;exact⟨a',l',c',zs',h1,h2.below hb,h3⟩
def DL(c:Cl) (t:ByteArray) (w:World) (e:Ending) (w':World):Prop:=∃a' l' c' zs',e=Ha (J a' l' c')/\aD w' a' l' c' zs'/\RT zs'/\(∀s,s∈zs'↔PBs c t c.ps.length s\/VBs c t c.vs.length s)/\Below w.heap.size w w'
theorem sS(d:Ad) (c:Cl) (t:ByteArray) (w:World) (hr:aE w d c.raw) (hT:ay c):
  Calls Tryz.prog 148 #[Hc #[J d.a1 d.l1 d.c1,J d.a2 d.l2 d.c2,J d.a3 d.l3 d.c3,J d.a4 d.l4 d.c4,J d.a5 d.l5 d.c5,GZ G6 c.now],I t] w (DL c t w):=by
 obtain⟨a1,l1,y1,a2,l2,y2,a3,l3,y3,a4,l4,y4,a5,l5,y5⟩:=d;dsimp only;have HR:=ae hr;have hl2:c.ks.length=l2:=by simpa using (show (c.ks.map kdF).length=l2 from hr.k.1)
 have hl3:c.vs.length=l3:=j5
 have hm3:l3<=9223372036854775807:=FA hr.v.2.1 hr.v.2.2.1;obtain⟨hl5,hm5⟩:=jx;clear hr;have HT:=ae hT;clear hT;have h58:c.ps.length<=8:=by have:=HT.sm.p;omega
 have h38:c.vs.length<=8:=by have:=HT.sm.v;omega
 go_enter Tryz.func148,Tryz.ntmps148;go_wp2;go_loopw [5,6] (λvo vi wr=> ∃(k:Nat) (ca:Option Addr) (cl cc:Nat) (ys:List ByteArray),k<=l5/\vi=GZ G6 k/\vo=J ca cl cc/\Hid (aD wr ca cl cc ys/\RT ys/\(∀s,s∈ys↔PBs c t k s)/\ys.length<=3*k)/\Hid (Below (w.heap.size+1) (w.alloc (G7 #[J a1 l1 y1,J a2 l2 y2,J a3 l3 y3,J a4 l4 y4,J a5 l5 y5,GZ G6 c.now] 29)) wr)) (λ_ vi _=>l5 - (intOf vi).toNat);case atStart=>exact⟨0,_,0,0,[],by omega,rfl,rfl,⟨⟨rfl,Fq _,by omega,λj x hx=>by simp at hx,He rfl⟩,List.Pairwise.nil,λs=>⟨λh=>by simp at h,λ⟨j,p,h,_⟩=>by omega⟩,by simp⟩,by first|exact Ft _ _|exact (aq _ _).mono aH⟩
 case round=>
  obtain⟨k,ca,cl,cc,ys,hk,rfl,rfl,HQ,HL⟩:=hrel;obtain⟨Bk,HB⟩:=Bl;have hyl:=HQ.1.1;have hyb:=HQ.2.2.2;by_cases hlt:k<l5
  ·obtain⟨b,o,x,rfl,hb,hx,hat⟩:=bN (HR.p.below HB.out) hlt;obtain⟨va,vl,vc,hvr,z0,z2,z4,c0,c1,c2,c3,c4,c5⟩:=aR hat;have HXx:=ae hx;have HTx:=ae hvr;have HZx0:=ae z0;clear hat hx z0 z2 z4 hvr;have hbw:=hb;clear hb;have hk1:(k:Int)<l5:=af
   have HL2:Hid (Bw wr wr):=Bw.refl _;by_cases he:x.d=t
   ·have hq:=aW he;have HHE:=ae he;clear he;obtain⟨k0,k1,k2,k3,k4,k5⟩:=cs6 Bk;go_wp2_with fail;have hv3:vl<=3:=by have h9:(x.zs.length:Int)<=3:=(HT.2.1.2.2.2.2.2.1 k x HXx.out).2.2.2.1.1;have h8:x.zs.length=vl:=HTx.1;omega
    have HCS:=ae (Fk c0 (Fk c1 (Fk c2 (Fk c3 (Fk c4 c5)))));have HBW:=ae hbw;clear c0 c1 c2 c3 c4 c5 hbw;clear k0 k1 k2 k3 k4 k5;rename_i K0 hK0;refine aQ au rfl rfl au ?_;refine' Grow.stepC _ rfl ?_ ?_;rotate_left 1
    ·exact pw
    refine' Grow.stepC _ rfl ?_ ?_;rotate_left 1
    ·exact iZ
    refine' Grow.stepC _ rfl ?_ ?_;rotate_left 1
    ·exact iX
    refine' Grow.stepC _ rfl ?_ ?_;rotate_left 1
    ·refine Obl.plain rfl ?_;intro ac wg K hsz hW hf hK;clear hsz;have e26:=hf 26 ah;simp[ai,Fo] at e26;exact fM
    refine' Grow.stepC _ rfl ?_ ?_;rotate_left 1
    ·exact i_
    refine' Grow.stepC _ rfl ?_ ?_;rotate_left 1
    ·refine Obl.plain rfl ?_;intro ac wg K hsz hW hf hK;clear hsz;have e27:=hf 27 ah;simp[ai,Fo] at e27;have e28:=hf 28 ah;simp[ai,Fo] at e28;clear hf;have hk1:(k:Int)<l5:=af
     exact aO
    refine' Grow.stepC _ rfl ?_ ?_;rotate_left 1
    ·refine Obl.plain rfl ?_;intro ac wg K hsz hW hf hK;clear hsz;have e29:=hf 29 ah;simp[ai,Fo] at e29;clear hf;obtain⟨d0,d1,d2,d3,d4,d5⟩:=HCS.out;replace d0:=(aj hW HBW.out).trans d0;replace d1:=(aj hW HBW.out).trans d1;replace d2:=(aj hW HBW.out).trans d2;replace d3:=(aj hW HBW.out).trans d3;replace d4:=(aj hW HBW.out).trans d4;replace d5:=(aj hW HBW.out).trans d5;exact aO
    refine Grow.step (AdF c ys x.zs) rfl (AdF.mono) ?_ ?_
    ·refine Obl.plain rfl ?_;intro ac wg K hsz hW hf hK;clear hsz;have e24:=hf 24 ah;simp[ai,Fo] at e24;have e25:=hf 25 ah;simp[ai,Fo] at e25;have e30:=hf 30 ah;simp[ai,Fo] at e30;clear hf;go_simp;refine (k8 ⟨a1,l1,y1,a2,l2,y2,a3,l3,y3,a4,l4,y4,(F_ ⟨b,o,U⟩),l5,y5⟩ c ca cl cc ys x va vl vc _ (HR.below (HB.trans (hW.mono HB.size))) HT.out (HQ.1.below hW) HQ.2.1 (HTx.below hW) af).mono ?_;rintro e w6 ⟨sa,sl,sc,zs2,rfl,htx,hri2,hmm2,hl2,hb6⟩;exact hK _ _ hb6 ⟨sa,sl,sc,zs2,rfl,htx,hri2,hmm2,hl2⟩
    refine Grow.done ?_;intro q w1 hW hf;simp only[FH] at hf;obtain⟨⟨sa,sl,sc,zs2,h31,htx,hri2,hmm2,hl2⟩,-⟩:=hf;have hb2:=hW;intro K hK;rw[if_pos cQ];simp only[aN,F7,Act.put,FF,FL,FM,h31];simp only[List.getLast];go_simp;refine hK _ _ ?_;refine hK0 _ _ ?_;clear hK hK0 K K0;replace Bk:=upK Bk hb2;replace HL2:=ae (HL2.below hb2);replace HB:=upB HB hb2;clear hb2;clear hW HCS HBW;have HTX:=ae (Fk htx (Fk hri2 hmm2));have hxz:=HTx.1;clear htx hri2 hmm2;obtain⟨k0,k1,k2,k3,k4,k5⟩:=cs6 Bk;go_wp2;refine⟨⟨k+1,sa,sl,sc,zs2,by omega,by go_num,rfl,⟨HTX.1,HTX.2.1,λs=>?_,by omega⟩,HL.trans (HL2.out.mono (by have h8:=HL.size;rw[cB] at h8;exact h8))⟩,by simp[intOf];omega⟩;rw[HTX.2.2,HQ.2.2.1,PBs.yes HXx.out HHE.out]
   have hq:=bH he;have HHE:=ae he;clear he;obtain⟨k0,k1,k2,k3,k4,k5⟩:=cs6 Bk;go_wp2;refine⟨⟨k+1,ca,cl,cc,ys,by omega,by go_num,rfl,⟨HQ.1,HQ.2.1,λs=>?_,by omega⟩,HL.out⟩,by simp[intOf];omega⟩;rw[HQ.2.2.1,PBs.no HXx.out HHE.out]
  have hkl:k=l5:=af
  have hk1:¬(k:Int)<l5:=af
  clear hlt HL;obtain⟨W1,hW1⟩:∃W1,W1=wr:=⟨_,rfl⟩;subst hW1;obtain⟨k0,k1,k2,k3,k4,k5⟩:=cs6 Bk;go_wp2;clear k0 k1 k2 k3 k4 k5;go_loopw [5,7] (λvo vi wr=> ∃(m2:Nat) (ca:Option Addr) (cl cc:Nat) (ys:List ByteArray),m2<=l3/\vi=GZ G6 m2/\vo=J ca cl cc/\Hid (aD wr ca cl cc ys/\RT ys/\(∀s,s∈ys↔PBs c t k s\/VBs c t m2 s)/\ys.length<=3*k+m2)/\Hid (Below W1.heap.size W1 wr)) (λ_ vi _=>l3 - (intOf vi).toNat);case atStart=>exact⟨0,_,_,_,ys,by omega,rfl,rfl,⟨HQ.1,HQ.2.1,λs=>by rw[HQ.2.2.1];exact⟨He,λh=>h.elim id (λ⟨j,p,h,_⟩=>by omega)⟩,by omega⟩,Ft _ _⟩
  case round=>
   clear HQ hyl hyb;obtain⟨m2,ca,cl,cc,ys,hmm2,rfl,rfl,HQ,HL⟩:=hrel;replace Bk:=ae ((HL.block _ (aa Bk.out)).trans Bk.out);replace HB:=ae (HB.trans (HL.mono HB.size));have hyl:=HQ.1.1;have hyb:=HQ.2.2.2;by_cases hlt:m2<l3
   ·obtain⟨b,o,x,rfl,hb,hx,hat⟩:=bM (HR.v.below HB.out) hlt;obtain⟨va,vl,vc,hvr,z0,z2,z3,z5,c0,c1,c2,c3,c4,c5,c6,c7⟩:=aP hat;have HXx:=ae hx;have HTx:=ae hvr;have HZx0:=ae z0;clear hat hx z0 z2 z3 z5 hvr;have hbw:=hb;clear hb;have hk3:(m2:Int)<l3:=af
    have HL2:Hid (Bw wr wr):=Bw.refl _;obtain⟨k0,k1,k2,k3,k4,k5⟩:=cs6 Bk;go_wp2_with fail;refine (bX va vl vc x.zs t _ HTx.out).mono ?_;rintro e w1 ⟨r,rfl,hh,hb2⟩;have hc0:=(aj hb2 hbw).trans c0;clear c0 c1 c2 c3 c4 c5 c6 c7 hbw;clear k0 k1 k2 k3 k4 k5;replace Bk:=upK Bk hb2;replace HL2:=ae (HL2.below hb2);replace HB:=upB HB hb2;clear hb2;cases r
    ·have HHN:Hid (¬InL x.zs t):=λh=>(by have h9:=hh.2 h;cases h9);clear hh;obtain⟨k0,k1,k2,k3,k4,k5⟩:=cs6 Bk;go_wp2;refine⟨⟨m2+1,ca,cl,cc,ys,by omega,by go_num,rfl,⟨HQ.1.below HL2.out,HQ.2.1,λs=>?_,by omega⟩,HL.trans (HL2.out.mono HL.size)⟩,by simp[intOf];omega⟩;rw[HQ.2.2.1,VBs.no HXx.out HHN.out]
    have HHN:Hid (InL x.zs t):=hh.1 bT;clear hh;obtain⟨k0,k1,k2,k3,k4,k5⟩:=cs6 Bk;go_wp2_with fail;refine (kT ca cl cc ys x.n _ (HQ.1.below HL2.out) af HZx0.out).mono ?_;rintro e w2 ⟨sa,sl,sc,zs2,rfl,htx,hput,hb2⟩;clear k0 k1 k2 k3 k4 k5;replace Bk:=upK Bk hb2;replace HL2:=ae (HL2.below hb2);replace HB:=upB HB hb2;clear hb2;have HTX:=ae htx;have HPU:=ae hput;clear htx hput hc0;obtain⟨k0,k1,k2,k3,k4,k5⟩:=cs6 Bk;go_wp2;refine⟨⟨m2+1,sa,sl,sc,zs2,by omega,by go_num,rfl,⟨HTX.out,HPU.DZ HQ.2.1,λs=>?_,by have h9:=HPU.len;omega⟩,HL.trans (HL2.out.mono HL.size)⟩,by simp[intOf];omega⟩;rw[HPU.mem,HQ.2.2.1,VBs.yes HXx.out HHN.out,or_assoc]
   have hk3:¬(m2:Int)<l3:=af
   have hkl2:m2=l3:=af
   obtain⟨k0,k1,k2,k3,k4,k5⟩:=cs6 Bk;go_wp2;go_ret;exact⟨_,_,_,ys,rfl,HQ.1,HQ.2.1,by rw[hl5,hl3,<-hkl,<-hkl2];exact HQ.2.2.1,HB.out⟩
theorem aJ.rt(h:aJ nm xs):RT (xs.map nm):=by
 exact yr
theorem kN.rt(h:aJ Vd.n c.vs):RT (kN c t c.vs):=List.Pairwise.sublist (List.filter_sublist.map _) h.rt
theorem im(h:aV x):¬x=⟨#[]⟩:=λe=>by
 rw[e] at h;have h8:=h.1;revert h8;decide
theorem zq(hT:ay c) (hr:RT zs) (hm:∀s,s∈zs↔PBs c t c.ps.length s\/VBs c t c.vs.length s):zs=kN c t c.vs:=by
 have hv:=hT.2.1.2.2.1.2.2;refine hr.ext (kN.rt hv) (λs=>?_);rw[hm];unfold kN;rw[List.mem_map];constructor
 ·rintro (⟨j,p,_,hp,hd,k,cl,v,hk,hb,rfl⟩|⟨j,v,_,h2,h3,rfl⟩)
  ·obtain⟨i,jv,x,h1,h2,h3,h4⟩:=hb;have hne:¬x.v=⟨#[]⟩:=by rw[<-h4];exact im (hT.2.1.2.2.1.2.1 jv v h3).1
   obtain⟨i',j',x',v',k1,k2,k3,k4,k5,k6,_⟩:=(hT.2.2.1.2 i x h1).2.resolve_left hne;obtain⟨_,rfl⟩:=hv.inj k3 h3 (k4.trans h4.symm);refine⟨v',List.mem_filter.2 ⟨FK h3,?_⟩,rfl⟩;unfold onB;rw[Bool.or_eq_true];refine Hd (dA.2 ⟨j,p,hp,hd,k,?_⟩);rw[hk,k6,h2]
  ·exact xO
 ·rintro⟨v,h1,rfl⟩;obtain⟨h2,h3⟩:=List.mem_filter.1 h1;obtain⟨jv,hj⟩:=FV h2;unfold onB at h3;rw[Bool.or_eq_true] at h3;rcases h3 with h3|h3
  ·exact Hd ⟨jv,v,(Fm.1 hj).1,hj,dY.1 h3,rfl⟩
  ·obtain⟨j,p,hp,hd,k,hk⟩:=dA.1 h3;have hz:=(hT.2.1.2.2.2.2.2.1 j p hp).2.2.2.1.2;have hne:=im (hz k v.m hk).1;obtain⟨i',j',x',v',k1,k2,k3,k4,k5,k6,_⟩:=(hT.2.2.1.1 jv v hj).2.resolve_left hne;exact He ⟨j,p,(Fm.1 hp).1,hp,hd,k,v.m,v,hk,⟨i',jv,x',k1,k2,hj,k5.symm⟩,rfl⟩
def onP(p:Pd) (s:ByteArray):Pd:=⟨p.n,p.c,p.z,p.zs,s,1⟩
def plC(c:Cl) (i:Nat) (p:Pd) (s:ByteArray):Cl:=⟨c.ns,c.ks,c.vs,c.xs,c.ps.set i (onP p s),c.now⟩
theorem kB(hT:ay c) (hz:∀(k:Nat) z,zs[k]?=F_ z->aV z):gB c zs s↔∃(j:Nat) (v:Vd),c.vs[j]?=F_ v/\v.n=s/\InL zs v.m:=by
 have hv:=hT.2.1.2.2.1.2.2;constructor
 ·rintro⟨k,cl,v,hk,⟨i,jv,x,h1,h2,h3,h4⟩,rfl⟩;have hne:¬x.v=⟨#[]⟩:=by rw[<-h4];exact im (hT.2.1.2.2.1.2.1 jv v h3).1
  obtain⟨i',j',x',v',k1,k2,k3,k4,k5,k6,_⟩:=(hT.2.2.1.2 i x h1).2.resolve_left hne;obtain⟨_,rfl⟩:=hv.inj k3 h3 (k4.trans h4.symm);exact⟨jv,v',h3,rfl,k,by rw[hk,k6,h2]⟩
 ·rintro⟨jv,v,hj,rfl,k,hk⟩;have hne:=im (hz k v.m hk);obtain⟨i',j',x',v',k1,k2,k3,k4,k5,k6,_⟩:=(hT.2.2.1.1 jv v hj).2.resolve_left hne;exact⟨k,v.m,v,hk,⟨i',jv,x',k1,k2,hj,k5.symm⟩,rfl⟩
theorem Ai(hT:ay c):PBs c t c.ps.length s↔∃(j:Nat) (v:Vd),c.vs[j]?=F_ v/\v.n=s/\∃(k:Nat) (p:Pd),c.ps[k]?=F_ p/\zG p t v.m:=by
 constructor
 ·rintro⟨j,p,_,hp,hd,hb⟩;obtain⟨jv,v,h1,h2,h3⟩:=(kB hT (λk z hk=>((hT.2.1.2.2.2.2.2.1 j p hp).2.2.2.1.2 k z hk).1)).1 hb;exact⟨jv,v,h1,h2,j,p,hp,hd,h3⟩
 ·rintro⟨jv,v,h1,h2,j,p,hp,hd,h3⟩;exact⟨j,p,(Fm.1 hp).1,hp,hd,(kB hT (λk z hk=>((hT.2.1.2.2.2.2.2.1 j p hp).2.2.2.1.2 k z hk).1)).2 ⟨jv,v,h1,h2,h3⟩⟩
theorem th {p:Pd} (hT:ay c) (hp:c.ps[i]?=F_ p) (hd:¬p.d=s) (hr:RT zs) (hm:∀t,t∈zs↔(PBs c s c.ps.length t\/VBs c s c.vs.length t)\/gB c p.zs t):zs=kN (plC c i p s) s c.vs:=by
 have hv:=hT.2.1.2.2.1.2.2;refine hr.ext (List.Pairwise.sublist (List.filter_sublist.map _) hv.rt) (λt=>?_);rw[hm,Ai hT,kB hT (λk z hk=>((hT.2.1.2.2.2.2.2.1 i p hp).2.2.2.1.2 k z hk).1)];unfold kN;rw[List.mem_map];constructor
 ·rintro ((⟨j,v,h1,rfl,k,q,hq,hw⟩|⟨j,v,_,h2,h3,rfl⟩)|⟨j,v,h1,rfl,h3⟩)
  ·refine⟨v,List.mem_filter.2 ⟨FK h1,?_⟩,rfl⟩;unfold onB;rw[Bool.or_eq_true];refine Hd (dA.2 ⟨k,q,cW (λe=>?_) hq,hw⟩);subst e;rw[hp] at hq;obtain rfl:=Fp hq;exact hd hw.1
  ·exact xO
  ·refine⟨v,List.mem_filter.2 ⟨FK h1,?_⟩,rfl⟩;unfold onB;rw[Bool.or_eq_true];exact Hd (dA.2 ⟨i,onP p s,fY hp,rfl,h3⟩)
 ·rintro⟨v,h1,rfl⟩;obtain⟨h2,h3⟩:=List.mem_filter.1 h1;obtain⟨jv,hj⟩:=FV h2;unfold onB at h3;rw[Bool.or_eq_true] at h3;rcases h3 with h3|h3
  ·exact He (Hd ⟨jv,v,(Fm.1 hj).1,hj,dY.1 h3,rfl⟩)
  ·obtain⟨k,q,hq,hw⟩:=dA.1 h3;rcases c_ hp hq with ⟨-,rfl⟩|⟨-,hq⟩
   ·exact Hd ⟨jv,v,hj,rfl,hw.2⟩
   ·exact He (He ⟨jv,v,hj,rfl,k,q,hq,hw⟩)
def zO(c:Cl) (n:Nd):Prop:=n.d=Hb\/n.u<=c.now
def zF(p:Pd) (n:Nd):Prop:=¬p.z=⟨#[]⟩/\¬p.z=n.z
def AP(c:Cl) (p:Pd) (n:Nd):Prop:=n.c - cpuOf n.n c.ps<p.c
def mx(c:Cl) (i:Nat) (p:Pd) (n:Nd):Prop:=n.s<((kN (plC c i p n.n) n.n c.vs).length:Int)
def iI(c:Cl) (i:Nat) (p:Pd) (n:Nd) (c':Cl) (e:Int):Prop:=
 (zO c n/\e=11)\/(¬zO c n/\((zF p n/\e=8)\/(¬zF p n/\((AP c p n/\e=9)\/(¬AP c p n/\∃c1 e1,zP c n p.zs c1 e1/\
  ((¬e1=0/\e=e1)\/(e1=0/\((mx c1 i p n/\e=9)\/(¬mx c1 i p n/\e=0/\c'=plC c1 i p n.n)))))))))
theorem iI.same {p:Pd} (hT:ay c) (hn:aV n.z) (h:iI c i p n c1 e1) (h':iI c i p n c2 e2):e1=e2/\(e1=0->c1=c2):=by
 rcases h with ⟨a1,rfl⟩|⟨a1,⟨a2,rfl⟩|⟨a2,⟨a3,rfl⟩|⟨a3,d1,f1,a4,a5⟩⟩⟩ <;> rcases h' with ⟨b1,rfl⟩|⟨b1,⟨b2,rfl⟩|⟨b2,⟨b3,rfl⟩|⟨b3,d2,f2,b4,b5⟩⟩⟩
 all_goals first
  | exact⟨rfl,λe=>absurd e ah⟩
  | exact absurd a1 b1
  | exact absurd b1 a1
  | exact absurd a2 b2
  | exact absurd b2 a2
  | exact absurd a3 b3
  | exact absurd b3 a3
  | skip
 obtain⟨rfl,rfl⟩:=a4.same hT hn b4;rcases a5 with ⟨a5,rfl⟩|⟨a5,⟨a6,rfl⟩|⟨a6,rfl,rfl⟩⟩ <;> rcases b5 with ⟨b5,rfl⟩|⟨b5,⟨b6,rfl⟩|⟨b6,rfl,rfl⟩⟩
 all_goals first
  | exact⟨rfl,λe=>absurd e a5⟩
  | exact absurd a5 b5
  | exact absurd b5 a5
  | exact⟨rfl,λe=>absurd e ah⟩
  | exact absurd a6 b6
  | exact absurd b6 a6
  | exact⟨rfl,λ_=>rfl⟩
def frN(c:Cl) (n:Nd):Int:=n.c - cpuOf n.n c.ps
def kP(c:Cl) (i:Nat) (p:Pd) (n:Nd):Prop:=∃c',iI c i p n c' 0
def mC(c:Cl) (i:Nat) (p:Pd):Prop:=∀(j:Nat) n,c.ns[j]?=F_ n->¬kP c i p n
def AU(c:Cl) (i:Nat) (p:Pd) (b:Nat) (n:Nd):Prop:=c.ns[b]?=F_ n/\kP c i p n/\∀(j:Nat) m,c.ns[j]?=F_ m->kP c i p m->frN c m<frN c n\/(frN c m=frN c n/\b<=j)
theorem kP.EG {p:Pd} (h:kP c i p n):p.c<=frN c n:=by
 obtain⟨c',h⟩:=h;rcases h with ⟨_,h⟩|⟨_,⟨_,h⟩|⟨_,⟨_,h⟩|⟨h,_⟩⟩⟩
 ·exact absurd h ah
 ·exact absurd h ah
 ·exact absurd h ah
 ·unfold AP at h;unfold frN;omega
def eG(c:Cl) (i:Nat) (p:Pd) (k:Nat) (best most:Int):Prop:=
 (best= -1/\most= -1/\∀(j:Nat) n,j<k->c.ns[j]?=F_ n->¬kP c i p n)\/
 ∃(b:Nat) (n:Nd),best=b/\b<k/\most=frN c n/\c.ns[b]?=F_ n/\kP c i p n/\∀(j:Nat) m,j<k->c.ns[j]?=F_ m->kP c i p m->frN c m<frN c n\/(frN c m=frN c n/\b<=j)
theorem eG.zero {p:Pd} :eG c i p 0 (-1) (-1):=He ⟨rfl,rfl,λ_ _ h=>absurd h (by omega)⟩
theorem eG.pass {p:Pd} (h:eG c i p k best most) (hn:c.ns[k]?=F_ n) (hp:0<=p.c) (hf:frN c n<=most):eG c i p (k+1) best most:=by
 rcases h with ⟨h1,h2,h3⟩|⟨b,m,h1,h2,h3,h4,h5,h6⟩
 ·refine He ⟨h1,h2,λj x hj hx hF=>?_⟩;by_cases e:j=k
  ·subst e;rw[hn] at hx;obtain rfl:=Fp hx;have:=hF.EG;omega
  ·exact h3 j x af hx hF
 ·refine Hd ⟨b,m,h1,by omega,h3,h4,h5,λj x hj hx hF=>?_⟩;by_cases e:j=k
  ·subst e;rw[hn] at hx;obtain rfl:=Fp hx;omega
  ·exact h6 j x af hx hF
theorem eG.no {p:Pd} (h:eG c i p k best most) (hn:c.ns[k]?=F_ n) (hf:¬kP c i p n):eG c i p (k+1) best most:=by
 rcases h with ⟨h1,h2,h3⟩|⟨b,m,h1,h2,h3,h4,h5,h6⟩
 ·refine He ⟨h1,h2,λj x hj hx hF=>?_⟩;by_cases e:j=k
  ·subst e;rw[hn] at hx;obtain rfl:=Fp hx;exact hf hF
  ·exact h3 j x af hx hF
 ·refine Hd ⟨b,m,h1,by omega,h3,h4,h5,λj x hj hx hF=>?_⟩;by_cases e:j=k
  ·subst e;rw[hn] at hx;obtain rfl:=Fp hx;exact absurd hF hf
  ·exact h6 j x af hx hF
theorem eG.take {p:Pd} (h:eG c i p k best most) (hn:c.ns[k]?=F_ n) (hf:¬frN c n<=most) (hF:kP c i p n):eG c i p (k+1) k (frN c n):=by
 refine Hd ⟨k,n,rfl,by omega,rfl,hn,hF,λj x hj hx hG=>?_⟩;by_cases e:j=k
 ·subst e;rw[hn] at hx;obtain rfl:=Fp hx;exact Hd ⟨rfl,by omega⟩
 ·rcases h with ⟨_,_,h3⟩|⟨b,m,_,h2,h3,h4,h5,h6⟩
  ·exact absurd hG (h3 j x af hx)
  ·have:=h6 j x af hx hG;exact He af
theorem eG.done {p:Pd} (h:eG c i p c.ns.length best most):(best= -1/\mC c i p)\/∃(b:Nat) (n:Nd),best=b/\AU c i p b n:=by
 rcases h with ⟨h1,_,h3⟩|⟨b,n,h1,_,_,h4,h5,h6⟩
 ·exact He ⟨h1,λj n hn=>h3 j n (Fm.1 hn).1 hn⟩
 ·exact Hd ⟨b,n,h1,h4,h5,λj m hm=>h6 j m (Fm.1 hm).1 hm⟩
def oB(c:Cl) (t:ByteArray):Nat->Prop
 | 0=>8000<t.size
 | 1=>¬8000<t.size/\¬ay c
 | 2=>¬8000<t.size/\ay c/\hit Pd.n c.ps t=G_
 | 7=>¬8000<t.size/\ay c/\∃x,c.ps[pl Pd.n c.ps t]?=F_ x/\x.n=t/\x.p=0/\mC c (pl Pd.n c.ps t) x
 | 8=>¬8000<t.size/\ay c/\∃x,c.ps[pl Pd.n c.ps t]?=F_ x/\x.n=t/\¬x.p=0
 | _=>False
def Fb(R:Cl->Nat->Pd->Nd->Cl->Prop) (c:Cl) (t:ByteArray) (o:Co):Prop:=(∃i,oB c t i/\o=co0 (bF i))\/(¬8000<t.size/\ay c/\∃x b n c',c.ps[pl Pd.n c.ps t]?=F_ x/\x.n=t/\x.p=0/\AU c (pl Pd.n c.ps t) x b n/\R c (pl Pd.n c.ps t) x n c'/\o=⟨c',n.n,0⟩)
def fA:Cl->ByteArray->Co->Prop:=Fb λc i p n c'=>iI c i p n c' 0
theorem eI(many most:Nat) (w:World):Calls Tryz.prog 104 #[G8 Hb,GZ G6 many,GZ G6 most] w λe w'=>e=Ha (GZ G6 7)/\Below w.heap.size w w':=by
 exact pR
theorem fj(many most:Nat) (hm:most<=many) (w:World):Calls Tryz.prog 104 #[G8 G_,GZ G6 many,GZ G6 most] w λe w'=>e=Ha (GZ G6 9)/\Below w.heap.size w w':=by
 exact pR
theorem gZ(many most:Nat) (hm:many<most) (w:World):Calls Tryz.prog 104 #[G8 G_,GZ G6 many,GZ G6 most] w λe w'=>e=Ha (GZ G6 0)/\Below w.heap.size w w':=by
 exact pR
theorem cV.below {c:Cr} (h:cV w d c S) (hb:Below w.heap.size w w'):cV w' d c S:=⟨h.n.below hb,h.k.below hb,h.v.below hb,h.x.below hb,h.p.below hb⟩
theorem cV.bP {c:Cr} (h:cV w d c S) {b:Nat} {cs:Array Value} (hb:w.heap[b]?=F_ (G7 cs 33 (0,0))) (hk:∀k,¬k=b->w'.heap[k]?=w.heap[k]?):cV w' d c S:=
 ⟨(h.n.dv hb ah ah).aB (λk _ s=>hk k s.2) (λ_ _ s=>s.1),(h.k.dv hb ah ah).aB (λk _ s=>hk k s.2) (λ_ _ s=>s.1),(h.v.dv hb ah ah).aB (λk _ s=>hk k s.2) (λ_ _ s=>s.1),(h.x.dv hb ah ah).aB (λk _ s=>hk k s.2) (λ_ _ s=>s.1),(h.p.dv hb ah ah).aB (λk _ s=>hk k s.2) (λ_ _ s=>s.1)⟩
theorem C0 {w4:World} {v4:Value} {base n hh:Nat} {xs:List Vd} {x:Vd} {va:Option Addr} {vl vc:Nat} {vss:List (List Value)} {H:Nat->Nat->Nat} {Q Q2:Nat->Prop} (hV:aX w Q 8 (xs.map vdF) vss H) (hxl:xs.length=n) (hj:j=pl Vd.n xs x.n) (hbs:w.heap.size<=base) (hB4:Below w.heap.size w w4)
  (hxf:∀(i:Nat) f,(vdF x)[i]?=F_ f->∃v,[I x.n,GZ G6 x.c,I x.z,I x.k,G8 x.x,I x.m,G8 x.y,J va vl vc][i]?=F_ v/\f.Fr w hh Q2 v) (hq:∀k,Q k->Q2 k->False) (ho4:w4.ownsRow base 95 8 v4 (n+1) (aY j [I x.n,GZ G6 x.c,I x.z,I x.k,G8 x.x,I x.m,G8 x.y,J va vl vc] vss).flatten):
  ∃a' c',v4=J a' (n+1) c'/\aA w4 a' (n+1) c' 8 95 ((aY (pl Vd.n xs x.n) x xs).map vdF) (λk=>(Q k\/Q2 k)\/w.heap.size<=k):=by
 obtain⟨hjn,hV4⟩:=uS;obtain⟨H4,hV5⟩:=hV4.ins (p:=j) (r:=vdF x) (vs:=[I x.n,GZ G6 x.c,I x.z,I x.k,G8 x.x,I x.m,G8 x.y,J va vl vc]) (hh:=λ_=>hh) rfl rfl (λi f hf=>by
   obtain⟨v,h1,h2⟩:=hxf i f hf
   exact⟨v,h1,h2.aB (λcu _ q=>hB4.block _ (aa q)) (λ_ s=>He (Hd s))⟩) (λi zs h hz k r i2 zs2 hr2 hz2 hne e=>by
  obtain⟨v,_,h2⟩:=hxf i _ h;obtain⟨_,_,_,_,_,_,_,_,h3⟩:=h2
  have hkv:k<vss.length:=by rw[hV.len];exact (Fm.1 hr2).1
  obtain⟨v',_,h5⟩:=hV.cell k r _ hr2 (Fu hkv) i2 _ hz2;obtain⟨_,_,_,_,_,_,_,_,h6⟩:=h5
  rcases h3 with h3|⟨_,h3,_⟩
  ·exact hz h3
  ·rcases h6 with h6|⟨_,h6,_⟩
   ·exact hne h6
   ·rw[e] at h6
    exact hq _ h6 h3) (λi i2 zs zs2 h _ h2 _=>by
  rcases i with _|_|_|_|_|_|_|_|i <;> simp[vdF] at h <;> rcases i2 with _|_|_|_|_|_|_|_|i2 <;> simp[vdF] at h2 <;> rfl) lg
 have h45:aX w4 (λk=>(Q k\/Q2 k)\/w.heap.size<=k) 8 ((aY j x xs).map vdF) (aY j [I x.n,GZ G6 x.c,I x.z,I x.k,G8 x.x,I x.m,G8 x.y,J va vl vc] vss) H4:=by rw[fg];exact hV5
 have hle:((aY j x xs).map vdF).length=n+1:=by rw[FB,dd af,hxl]
 exact wG
theorem jW(g:Option Addr) (l n:Nat) (vs:List Vd) (x:Vd) (va:Option Addr) (vl vc hh:Nat) (Q Q2:Nat->Prop) (w:World) (ho:aA w g l n 8 95 (vs.map vdF) Q) (hl8:l<=8) (hxf:∀(i:Nat) f,(vdF x)[i]?=F_ f->∃v,[I x.n,GZ G6 x.c,I x.z,I x.k,G8 x.x,I x.m,G8 x.y,J va vl vc][i]?=F_ v/\f.Fr w hh Q2 v) (hq:∀k,Q k->Q2 k->False):
  Calls Tryz.prog 105 #[J g l n,Hc #[I x.n,GZ G6 x.c,I x.z,I x.k,G8 x.x,I x.m,G8 x.y,J va vl vc]] w λe w'=> ∃a' c',e=Ha (J a' (l+1) c')/\aA w' a' (l+1) c' 8 95 ((aY (pl Vd.n vs x.n) x vs).map vdF) (λk=>(Q k\/Q2 k)\/w.heap.size<=k)/\Below w.heap.size w w':=by
 have hll:vs.length=l:=k_
 have hln:=ho.2.1;have hnm:=ho.2.2.1;have HR:=ae ho.row;obtain⟨vss,H,hV,hcell⟩:=ho.gq;have hvl:vss.length=l:=by rw[hV.len,FB,hll]
 have HC:Hid (∀(j:Nat) u,vss.flatten[j]?=F_ u->∃b,g=F_ ⟨b,0,U⟩/\w.cell? ⟨b,j,U⟩=F_ u):=λj u hj=>by
  obtain⟨b,e,_,h3⟩:=hcell j u hj;exact⟨b,e,h3⟩
 have HVA:=ae hV.all;have HV1:=ae hV.one;have HFIN:Hid (∀(w4:World) v4 base k,k=pl Vd.n vs x.n->w.heap.size<=base->Below w.heap.size w w4->w4.ownsRow base 95 8 v4 (l+1) (aY k [I x.n,GZ G6 x.c,I x.z,I x.k,G8 x.x,I x.m,G8 x.y,J va vl vc] vss).flatten->∃a' c',v4=J a' (l+1) c'/\aA w4 a' (l+1) c' 8 95 ((aY (pl Vd.n vs x.n) x vs).map vdF) (λk=>(Q k\/Q2 k)\/w.heap.size<=k)):=λw4 v4 base k hk hbs hB4 ho4=>C0 hV hll hk hbs hB4 hxf hq ho4;obtain⟨i5,hi5',hz0,hz1,hz2⟩:=info_parts mj;have HI0:=ae (Fk hi5' (Fk hz0 (Fk hz1 hz2)));clear hi5' hz0 hz1 hz2 hV hcell ho hxf hq;go_enter Tryz.func105,Tryz.ntmps105;go_wp2;go_loopw [5] (λvi wr=> ∃k:Nat,k<=l/\vi=GZ G6 k/\Hid (∀(j:Nat) y,j<k->vs[j]?=F_ y->Fx y.n.toList x.n.toList=Hb)/\Hid (Below (w.heap.size+1) (w.alloc (G7 #[I x.n,GZ G6 x.c,I x.z,I x.k,G8 x.x,I x.m,G8 x.y,J va vl vc] 95)) wr)) (λvi _=>l - (intOf vi).toNat);case atStart=>exact⟨0,by omega,rfl,λj y hj=>by omega,Ft _ _⟩
 case round=>
  obtain⟨k,hk,rfl,HE,HL⟩:=hrel;have hLs:w.heap.size+1<=wr.heap.size:=by have:=HL.size;simpa using this
  have HB:=ae ((aq w (G7 (vov x va vl vc) 95)).trans (HL.mono af));have Bx:=ae ((HL.block w.heap.size af).trans (heap_alloc_new w (G7 (vov x va vl vc) 95)));by_cases hlt:k<l
  ·obtain⟨b,o,y,rfl,hb,hx,hat⟩:=bM (HR.below HB.out) hlt;obtain⟨ya,yl,yc,-,-,-,-,-,hc0,-,-,-,-,-,-,-⟩:=aP hat;have HXy:=ae hx;have hbw:=hb;have hk1:(k:Int)<l:=af
   have hk2:decide ((k:Int)<l)=Hb:=by simp;omega
   clear hb hat hx;cases hless:Fx y.n.toList x.n.toList
   ·have Gx:Hid (wr.heap[w.heap.size]?=F_ (G7 (vov x va vl vc) 95 (0,0))):=Bx.out;have HW:=HB;obtain⟨x0,yn,hne0⟩:=lp;go_wp2_with fail;refine ag au au ?_;repeat (go_big_quiet_step (first|fail))
    refine wpQuiet_nil ?_;rintro _ ⟨q2,rfl⟩;have HB1:=upB HW q2.b;have Cx:=upK Gx q2.b;clear hne0 HW HB x0 yn Gx Bx hc0 hbw;have HB:=HB1;clear HB1;have Bx:=Cx;clear Cx;have HPL:Hid (k=pl Vd.n vs x.n):=(lA HE.out HXy.out hless).symm;have HCQ:Hid (∀(j:Nat) u,vss.flatten[j]?=F_ u->∃b9,(F_ ⟨b,o,U⟩:Option Addr)=F_ ⟨b9,0,U⟩/\b9<q2.w.heap.size/\q2.w.cell? ⟨b9,j,U⟩=F_ u):=λj u hj=>by
     exact rV
    obtain⟨HOW,hik,hkn⟩:=Bf;have hcap:¬n=k:=af
    all_goals (
     go_wp2_with (first|(at_builtin;refine aw rfl _ _ 25 rfl q2.w.heap.size 95 i5 (Hc #[I ⟨#[]⟩,GZ G6 0,I ⟨#[]⟩,I ⟨#[]⟩,G8 G_,I ⟨#[]⟩,G8 G_,J U 0 0]) 8 112 Tryz.underlying25 HI0.1 HI0.2.1 HI0.2.2.1 HI0.2.2.2 rfl ah _ _ _ rfl (HOW.out) _ k _ (vss.take k).flatten rfl (bA HVA.out af) (λj u hu=>by obtain⟨g,e,hgl,h3⟩:=HCQ.out _ _ (ct hu);cases e <;> exact⟨_,rfl,by simp only[FC,FE];exact (aj (aq q2.w _) hgl).trans h3⟩) (aF HV1.out k).1 bw af aH ?_))
     intro v5 w5 hown5 hgr5
     replace hown5:w5.ownsRow q2.w.heap.size 95 8 v5 k (vss.take k).flatten:=dy
     have hb5:=(aq q2.w (G7 #[] 95)).grown hgr5 aH (λg hg=>by simp[FX] at hg;omega);obtain⟨s1,s2,s3,rfl⟩:=aC hown5;have HO5:=ae hown5;have H5:=ae hb5;have hs6:=hb5.size;have Bx5:=upK Bx hb5;obtain⟨x0,x1,x2,x3,x4,x5,x6,x7⟩:=cs8 Bx5;clear hown5 hgr5 hb5 HOW
     go_wp2_with (first|(at_builtin;refine aw rfl _ _ 25 rfl q2.w.heap.size 95 i5 (Hc #[I ⟨#[]⟩,GZ G6 0,I ⟨#[]⟩,I ⟨#[]⟩,G8 G_,I ⟨#[]⟩,G8 G_,J U 0 0]) 8 112 Tryz.underlying25 HI0.1 HI0.2.1 HI0.2.2.1 HI0.2.2.2 rfl ah _ _ _ rfl (HO5.alloc _) _ 1 _ [I x.n,GZ G6 x.c,I x.z,I x.k,G8 x.x,I x.m,G8 x.y,J va vl vc] rfl rfl (λj u hu=>⟨_,rfl,by rw[FC,FE,ar (heap_alloc_new w5 _)];simpa using hu⟩) dh bw af bD ?_))
     intro v6 w6 hown6 hgr6;have hb6:=(H5.alloc H5.size _).grown hgr6 bD (λg hg=>(HO5.lt g hg).1);obtain⟨r1,r2,r3,rfl⟩:=aC hown6;have HO6:=ae hown6;have H6:=ae hb6;have hs7:=hb6.size;clear hown6 hgr6 hb6 x0 x1 x2 x3 x4 x5 x6 x7
     go_wp2_with (first|(at_builtin;refine aw rfl _ _ 25 rfl q2.w.heap.size 95 i5 (Hc #[I ⟨#[]⟩,GZ G6 0,I ⟨#[]⟩,I ⟨#[]⟩,G8 G_,I ⟨#[]⟩,G8 G_,J U 0 0]) 8 112 Tryz.underlying25 HI0.1 HI0.2.1 HI0.2.2.1 HI0.2.2.2 rfl ah _ _ _ rfl (HO6.out) _ (l - k) _ (vss.drop k).flatten rfl hY (λj u hu=>by first|(rw[FN af] at hu;simp at hu;done)|(obtain⟨g,e,hgl,h3⟩:=HCQ.out _ _ (cN HVA.out af hu);cases e <;> exact⟨_,rfl,by simp only[FC,FE];exact (aj H6.out hgl).trans h3⟩)) (aF HV1.out k).2 bw af af ?_))
     intro v7 w7 hown7 hgr7;have hb7:=H6.grown hgr7 af (λg hg=>(HO6.lt g hg).1)
     replace hown7:w7.ownsRow q2.w.heap.size 95 8 v7 (l+1) (aY k [I x.n,GZ G6 x.c,I x.z,I x.k,G8 x.x,I x.m,G8 x.y,J va vl vc] vss).flatten:=by
      have e9:k+1+(l - k)=l+1:=af
      try rw[e9] at hown7
      simpa[aY] using hown7
     have HB7:=upB HB hb7;obtain⟨a',c',rfl,hR⟩:=HFIN.out w7 v7 q2.w.heap.size k HPL.out HB.size HB7.out hown7;have HR7:=ae hR;clear hown7 hgr7 hb7 hR hik hkn hcap
     go_wp2
     go_ret
     exact⟨a',c',rfl,HR7.out,HB7.out⟩)
   ·have Gx:Hid (wr.heap[w.heap.size]?=F_ (G7 (vov x va vl vc) 95 (0,0))):=Bx.out;have HW:=HB;obtain⟨x0,yn,hne0⟩:=lp;go_wp2_with fail;refine ag au au ?_;repeat (go_big_quiet_step (first|fail))
    refine wpQuiet_nil ?_;rintro _ ⟨q2,rfl⟩;have HB1:=upB HW q2.b;have Cx:=upK Gx q2.b;clear hne0 HW HB x0 yn Gx Bx hc0 hbw;have HB:=HB1;clear HB1;have Bx:=Cx;clear Cx;exact Cj
  ·have hk1:¬(k:Int)<l:=af
   have hk2:decide ((k:Int)<l)=G_:=by simp;omega
   have Gx:=Bx;have HW:=HB;have x0:=λq:Wd wr=>q.slot (o:=0) Gx.out rfl;have hne0:=Wd.ne wr;go_wp2_with fail;refine ag au au ?_;repeat (go_big_quiet_step (first|fail))
   refine wpQuiet_nil ?_;rintro _ ⟨q2,rfl⟩;have HB1:=upB HW q2.b;have Cx:=upK Gx q2.b;clear hne0 HW HB x0 Gx Bx;have HB:=HB1;clear HB1;have Bx:=Cx;clear Cx;have HPL:Hid (k=pl Vd.n vs x.n):=by show k=_;rw[fp (nm:=Vd.n) (xs:=vs) (t:=x.n) (λj y hy=>HE.out j y h_ hy)];omega
   have HCQ:Hid (∀(j:Nat) u,vss.flatten[j]?=F_ u->∃b9,g=F_ ⟨b9,0,U⟩/\b9<q2.w.heap.size/\q2.w.cell? ⟨b9,j,U⟩=F_ u):=λj u hj=>by
    exact rV
   obtain⟨HOW,hik,hkn⟩:=Bf;rcases g with _|⟨b2,f2,sp⟩
   ·have hl0:l=0:=Classical.byContradiction λhne0=>by
     exact rY
    obtain rfl:k=0:=af
    subst hl0;by_cases hcap:n=0;all_goals (
     go_wp2_with (first|(at_builtin;refine aw rfl _ _ 25 rfl q2.w.heap.size 95 i5 (Hc #[I ⟨#[]⟩,GZ G6 0,I ⟨#[]⟩,I ⟨#[]⟩,G8 G_,I ⟨#[]⟩,G8 G_,J U 0 0]) 8 112 Tryz.underlying25 HI0.1 HI0.2.1 HI0.2.2.1 HI0.2.2.2 rfl ah _ _ _ rfl (HOW.out) _ 0 _ (vss.take 0).flatten rfl (bA HVA.out af) (λj u hu=>by obtain⟨g,e,hgl,h3⟩:=HCQ.out _ _ (ct hu);cases e <;> exact⟨_,rfl,by simp only[FC,FE];exact (aj (aq q2.w _) hgl).trans h3⟩) (aF HV1.out 0).1 bw af aH ?_))
     intro v5 w5 hown5 hgr5
     replace hown5:w5.ownsRow q2.w.heap.size 95 8 v5 0 (vss.take 0).flatten:=dy
     have hb5:=(aq q2.w (G7 #[] 95)).grown hgr5 aH (λg hg=>by simp[FX] at hg;omega);obtain⟨s1,s2,s3,rfl⟩:=aC hown5;have HO5:=ae hown5;have H5:=ae hb5;have hs6:=hb5.size;have Bx5:=upK Bx hb5;obtain⟨x0,x1,x2,x3,x4,x5,x6,x7⟩:=cs8 Bx5;clear hown5 hgr5 hb5 HOW
     go_wp2_with (first|(at_builtin;refine aw rfl _ _ 25 rfl q2.w.heap.size 95 i5 (Hc #[I ⟨#[]⟩,GZ G6 0,I ⟨#[]⟩,I ⟨#[]⟩,G8 G_,I ⟨#[]⟩,G8 G_,J U 0 0]) 8 112 Tryz.underlying25 HI0.1 HI0.2.1 HI0.2.2.1 HI0.2.2.2 rfl ah _ _ _ rfl (HO5.alloc _) _ 1 _ [I x.n,GZ G6 x.c,I x.z,I x.k,G8 x.x,I x.m,G8 x.y,J va vl vc] rfl rfl (λj u hu=>⟨_,rfl,by rw[FC,FE,ar (heap_alloc_new w5 _)];simpa using hu⟩) dh bw af bD ?_))
     intro v6 w6 hown6 hgr6;have hb6:=(H5.alloc H5.size _).grown hgr6 bD (λg hg=>(HO5.lt g hg).1);obtain⟨r1,r2,r3,rfl⟩:=aC hown6;have HO6:=ae hown6;have H6:=ae hb6;have hs7:=hb6.size;clear hown6 hgr6 hb6 x0 x1 x2 x3 x4 x5 x6 x7
     go_wp2_with (first|(at_builtin;refine aw rfl _ _ 25 rfl q2.w.heap.size 95 i5 (Hc #[I ⟨#[]⟩,GZ G6 0,I ⟨#[]⟩,I ⟨#[]⟩,G8 G_,I ⟨#[]⟩,G8 G_,J U 0 0]) 8 112 Tryz.underlying25 HI0.1 HI0.2.1 HI0.2.2.1 HI0.2.2.2 rfl ah _ _ _ rfl (HO6.out) _ (0 - 0) _ (vss.drop 0).flatten rfl hY (λj u hu=>by first|(rw[FN af] at hu;simp at hu;done)|(obtain⟨g,e,hgl,h3⟩:=HCQ.out _ _ (cN HVA.out af hu);cases e <;> exact⟨_,rfl,by simp only[FC,FE];exact (aj H6.out hgl).trans h3⟩)) (aF HV1.out 0).2 bw af af ?_))
     intro v7 w7 hown7 hgr7;have hb7:=H6.grown hgr7 af (λg hg=>(HO6.lt g hg).1)
     replace hown7:w7.ownsRow q2.w.heap.size 95 8 v7 (1) (aY 0 [I x.n,GZ G6 x.c,I x.z,I x.k,G8 x.x,I x.m,G8 x.y,J va vl vc] vss).flatten:=by
      have e9:0+1+(0 - 0)=1:=af
      try rw[e9] at hown7
      simpa[aY] using hown7
     have HB7:=upB HB hb7;obtain⟨a',c',rfl,hR⟩:=HFIN.out w7 v7 q2.w.heap.size 0 HPL.out HB.size HB7.out hown7;have HR7:=ae hR;clear hown7 hgr7 hb7 hR hik hkn hcap
     go_wp2
     go_ret
     exact⟨a',c',rfl,HR7.out,HB7.out⟩)
   by_cases hcap:n=k;all_goals (
    go_wp2_with (first|(at_builtin;refine aw rfl _ _ 25 rfl q2.w.heap.size 95 i5 (Hc #[I ⟨#[]⟩,GZ G6 0,I ⟨#[]⟩,I ⟨#[]⟩,G8 G_,I ⟨#[]⟩,G8 G_,J U 0 0]) 8 112 Tryz.underlying25 HI0.1 HI0.2.1 HI0.2.2.1 HI0.2.2.2 rfl ah _ _ _ rfl (HOW.out) _ k _ (vss.take k).flatten rfl (bA HVA.out af) (λj u hu=>by obtain⟨g,e,hgl,h3⟩:=HCQ.out _ _ (ct hu);cases e <;> exact⟨_,rfl,by simp only[FC,FE];exact (aj (aq q2.w _) hgl).trans h3⟩) (aF HV1.out k).1 bw af aH ?_))
    intro v5 w5 hown5 hgr5
    replace hown5:w5.ownsRow q2.w.heap.size 95 8 v5 k (vss.take k).flatten:=dy
    have hb5:=(aq q2.w (G7 #[] 95)).grown hgr5 aH (λg hg=>by simp[FX] at hg;omega);obtain⟨s1,s2,s3,rfl⟩:=aC hown5;have HO5:=ae hown5;have H5:=ae hb5;have hs6:=hb5.size;have Bx5:=upK Bx hb5;obtain⟨x0,x1,x2,x3,x4,x5,x6,x7⟩:=cs8 Bx5;clear hown5 hgr5 hb5 HOW
    go_wp2_with (first|(at_builtin;refine aw rfl _ _ 25 rfl q2.w.heap.size 95 i5 (Hc #[I ⟨#[]⟩,GZ G6 0,I ⟨#[]⟩,I ⟨#[]⟩,G8 G_,I ⟨#[]⟩,G8 G_,J U 0 0]) 8 112 Tryz.underlying25 HI0.1 HI0.2.1 HI0.2.2.1 HI0.2.2.2 rfl ah _ _ _ rfl (HO5.alloc _) _ 1 _ [I x.n,GZ G6 x.c,I x.z,I x.k,G8 x.x,I x.m,G8 x.y,J va vl vc] rfl rfl (λj u hu=>⟨_,rfl,by rw[FC,FE,ar (heap_alloc_new w5 _)];simpa using hu⟩) dh bw af bD ?_))
    intro v6 w6 hown6 hgr6;have hb6:=(H5.alloc H5.size _).grown hgr6 bD (λg hg=>(HO5.lt g hg).1);obtain⟨r1,r2,r3,rfl⟩:=aC hown6;have HO6:=ae hown6;have H6:=ae hb6;have hs7:=hb6.size;clear hown6 hgr6 hb6 x0 x1 x2 x3 x4 x5 x6 x7
    go_wp2_with (first|(at_builtin;refine aw rfl _ _ 25 rfl q2.w.heap.size 95 i5 (Hc #[I ⟨#[]⟩,GZ G6 0,I ⟨#[]⟩,I ⟨#[]⟩,G8 G_,I ⟨#[]⟩,G8 G_,J U 0 0]) 8 112 Tryz.underlying25 HI0.1 HI0.2.1 HI0.2.2.1 HI0.2.2.2 rfl ah _ _ _ rfl (HO6.out) _ (l - k) _ (vss.drop k).flatten rfl hY (λj u hu=>by first|(rw[FN af] at hu;simp at hu;done)|(obtain⟨g,e,hgl,h3⟩:=HCQ.out _ _ (cN HVA.out af hu);cases e <;> exact⟨_,rfl,by simp only[FC,FE];exact (aj H6.out hgl).trans h3⟩)) (aF HV1.out k).2 bw af af ?_))
    intro v7 w7 hown7 hgr7;have hb7:=H6.grown hgr7 af (λg hg=>(HO6.lt g hg).1)
    replace hown7:w7.ownsRow q2.w.heap.size 95 8 v7 (l+1) (aY k [I x.n,GZ G6 x.c,I x.z,I x.k,G8 x.x,I x.m,G8 x.y,J va vl vc] vss).flatten:=by
     have e9:k+1+(l - k)=l+1:=af
     try rw[e9] at hown7
     simpa[aY] using hown7
    have HB7:=upB HB hb7;obtain⟨a',c',rfl,hR⟩:=HFIN.out w7 v7 q2.w.heap.size k HPL.out HB.size HB7.out hown7;have HR7:=ae hR;clear hown7 hgr7 hb7 hR hik hkn hcap
    go_wp2
    go_ret
    exact⟨a',c',rfl,HR7.out,HB7.out⟩)
end Rc
namespace Gs
section
variable {SR:World->World->Prop} {t4:Tmp} {Ψ:Fact} {P:Program} {ops:Array Oper} {Q:Exit->Act->World->Prop} {W:World} {a0:Act} {back:Option Oper}
theorem fz(hs:listed.size=ops.size) (hlt:∀(j:Nat) o,ops[j]?=F_ o->∀e∈o.after,F9 .any e=Hb->e.on<j) (hr:Ga .any ops listed=[]):∀i,i<ops.size->listed.getD i G_=Hb:=by
 intro i;induction i using Nat.strongRecOn with
 | _ i ih=>
  intro hi
  cases hb:listed.getD i G_ with
  | true=>rfl
  | false=>
   have ho:ops[i]?=F_ ops[i]:=Array.getElem?_eq_getElem hi;have hm:i∈Ga .any ops listed:=mem_ready.2 ⟨by rw[<-cM af];exact hb,_,ho,λe he hbe=>ih e.on (hlt i _ ho e he hbe) (Nat.lt_trans (hlt i _ ho e he hbe) hi)⟩;rw[hr] at hm
   cases hm
end
end Gs
namespace Gu
def waits(front:List Oper) (i:Nat):Nat->Array Edge->Bool
 | 0,after=>after.any λe=>F9 .any e && e.on==i
 | f+1,after=>after.any λe=>F9 .any e && (e.on==i || match front[e.on]? with|F_ p=>waits front i f p.after|U=>G_)
theorem jT(hc:∀(j:Nat) (o:Oper),front[j]?=F_ o->listed.getD j G_=Hb->∀e∈o.after,F9 .any e=Hb->listed.getD e.on G_=Hb):∀(f:Nat) (after:Array Edge),waits front i f after=Hb->(∀e∈after,F9 .any e=Hb->listed.getD e.on G_=Hb)->listed.getD i G_=Hb
 | 0,after,h,ha=>by
  obtain⟨k,hk,hx⟩:=Array.any_eq_true.1 h;simp only[FU,beq_iff_eq] at hx;have:=ha _ (Array.getElem_mem hk) hx.1
  rwa [hx.2] at this
 | f+1,after,h,ha=>by
  obtain⟨k,hk,hx⟩:=Array.any_eq_true.1 h;simp only[FU,Bool.or_eq_true,beq_iff_eq] at hx;have h1:=ha _ (Array.getElem_mem hk) hx.1
  rcases hx.2 with h2|h2
  ·rwa [h2] at h1
  ·split at h2
   ·next p hp=>exact jT hc f p.after h2 (λe he hb=>hc _ p hp h1 e he hb)
   ·cases h2
def se(P:Program) (ops:Array Oper) (Q:Exit->Act->World->Prop) (s t:Oper) (a:Act) (w:World):Prop:=
 ∀K:Act->World->Prop,(∀a' w',(∀K':Act->World->Prop,(∀a w,Q .normal a w->K' a w)->if F5 t (yielded ops a'.tmps)=Hb then t.wp P a' w' K' Q else K' (a'.put t.dst undef) w')->K a' w')->if F5 s (yielded ops a.tmps)=Hb then s.wp P a w K Q else K (a.put s.dst undef) w
def Fin(P:Program) (ops:Array Oper) (Q:Exit->Act->World->Prop) (W:World) (a0:Act) (s t:Oper) (known:List (Tmp×Fact)):Prop:=
 ∀(x:Tmp->Value) (w:World),Below W.heap.size W w->(∀p∈known,p.2 (x p.1) w)->se P ops Q s t (aN a0 known x) w
def Grow(P:Program) (ops:Array Oper) (Q:Exit->Act->World->Prop) (W:World) (a0:Act) (s t:Oper):List Oper->List (Tmp×Fact)->Prop
 | [],known=>Fin P ops Q W a0 s t known
 | o ::rest,known=> ∃φ:Fact,φ.ck/\Obl P ops Q W a0 known o φ/\Grow P ops Q W a0 s t rest (kn o.dst φ known)
section
variable {P:Program} {ops:Array Oper} {Q:Exit->Act->World->Prop} {W:World} {a0:Act} {s t:Oper}
theorem Grow.step {d:Tmp} (φ:Fact) (hd:o.dst=F_ d) (hφ:φ.ck) (ho:Obl P ops Q W a0 known o φ)
  (h:Grow P ops Q W a0 s t rest ((d,φ) ::known)):Grow P ops Q W a0 s t (o ::rest) known:=⟨φ,hφ,ho,(by rw[hd];exact h)⟩
theorem Grow.stepC {d:Tmp} (c:Value) (hd:o.dst=F_ d) (ho:Obl P ops Q W a0 known o (λv _=>v=c))
  (h:Grow P ops Q W a0 s t rest ((d,λv _=>v=c) ::known)):Grow P ops Q W a0 s t (o ::rest) known:=Grow.step _ hd (Fact.cy c) ho h
theorem Grow.done(h:Fin P ops Q W a0 s t known):Grow P ops Q W a0 s t [] known:=h
theorem Grow.spec:∀(l:List Oper) (known:List (Tmp×Fact)),Grow P ops Q W a0 s t l known->∃φs:List Fact,φs.length=l.length/\
  (∀(i:Nat) (o:Oper) (φ:Fact),l[i]?=F_ o->φs[i]?=F_ φ->φ.ck/\Obl P ops Q W a0 (knAll known (l.take i) (φs.take i)) o φ)/\Fin P ops Q W a0 s t (knAll known l φs)
 | [],known,h=>⟨[],rfl,λi o φ h=>by simp at h,by rw[cD];exact h⟩
 | o ::l,known,h=>by
  exact u7
def growB(n:Nat) (front:List Oper) (s t:Oper):Bool:=
 let ops:=(front++[s,t]).toArray
 decide ((front.filterMap (·.dst)).Nodup) && front.all (λo=>match o.dst with|F_ d=>decide (d<n)|U=>Hb) &&
 (Gm front.length).all (λj=>match front[j]? with
  | some o=>(o.looksAt ops).all (λd=>(Gm front.length).all λi=>match front[i]? with
    | some p=>p.dst !=F_ d || (decide (i<j) && o.after.any λe=>e.on==i && F9 .any e)
    | none=>Hb)
  | none=>Hb) &&
 (Gm ops.size).all (λj=>match ops[j]? with|F_ o=>o.after.all (λe=> !F9 .any e || decide (e.on<j))|U=>Hb) &&
 (Gm front.length).all (λi=>waits front i 12 s.after) && t.after.any (λe=>F9 .any e && e.on==front.length)
theorem dE {n:Nat} (h:growB n front s t=Hb):
  (front.filterMap (·.dst)).Nodup/\(∀o∈front,∀d,o.dst=F_ d->d<n)/\
  (∀(j:Nat) (o:Oper),front[j]?=F_ o->∀d∈o.looksAt (front++[s,t]).toArray,∀(i:Nat) (p:Oper),front[i]?=F_ p->p.dst=F_ d->i<j/\∃e∈o.after,e.on=i/\F9 .any e=Hb)/\
  (∀(j:Nat) o,(front++[s,t]).toArray[j]?=F_ o->∀e∈o.after,F9 .any e=Hb->e.on<j)/\
  (∀i,i<front.length->waits front i 12 s.after=Hb)/\∃e∈t.after,F9 .any e=Hb/\e.on=front.length:=by
 unfold growB at h;simp only[FU,decide_eq_true_eq] at h;obtain⟨⟨⟨⟨⟨h1,h2⟩,h3⟩,h4⟩,h5⟩,h6⟩:=h;refine⟨h1,?_,?_,?_,?_,?_⟩
 ·intro o ho d hd;have:=List.all_eq_true.1 h2 o ho;rw[hd] at this;simpa using this
 ·intro j o ho d hd i p hp hpd;have hj:j<front.length:=(Fm.1 ho).1;have hi:i<front.length:=(Fm.1 hp).1;have:=List.all_eq_true.1 h3 j (List.mem_range.2 hj);rw[ho] at this;have:=List.all_eq_true.1 this d hd;have:=List.all_eq_true.1 this i (List.mem_range.2 hi);rw[hp] at this;simp only[hpd,bne_self_eq_false,Bool.false_or,FU,decide_eq_true_eq] at this;exact wH
 ·intro j o ho e he hbe;have hj:j<(front++[s,t]).toArray.size:=(FJ.1 ho).1;have:=List.all_eq_true.1 h4 j (List.mem_range.2 hj);rw[ho] at this;have:=Array.all_eq_true.1 this;obtain⟨k,hk,rfl⟩:=Array.mem_iff_getElem.1 he;have h9:=this k hk;rw[hbe] at h9;simpa using h9
 ·intro i hi;exact List.all_eq_true.1 h5 i (List.mem_range.2 hi)
 ·obtain⟨k,hk,hx⟩:=Array.any_eq_true.1 h6;simp only[FU,beq_iff_eq] at hx;exact⟨_,Array.getElem_mem hk,hx.1,hx.2⟩
theorem Fin.last {a:Act} (hf:Fin P ops Q W a0 s t (knAll [] front φs)) (hlen:φs.length=front.length) (hin:∀o∈front,∀d,o.dst=F_ d->d<a0.tmps.size)
  (h:At front φs W a0 listed a w) (hall:∀i,i<front.length->listed.getD i G_=Hb):se P ops Q s t a w:=by
 have h9:∃x,a=aN a0 (knAll [] front φs) x/\∀p∈knAll [] front φs,p.2 (x p.1) w:=Go.Proofs.YtiplhgedmjoliaaGreatDoor.Fin.last (P:=P) (ops:=ops) (Q:=λ_ a' w'=> ∃x,a'=aN a0 (knAll [] front φs) x/\∀p∈knAll [] front φs,p.2 (x p.1) w') (back:=U) (λx _ _ h2=>⟨x,rfl,h2⟩) hlen hin h hall;obtain⟨x,e,h2⟩:=h9;have h3:=hf x w h.below h2;rw[<-e] at h3;exact h3
theorem oU {a:Act} (ho:ops[j]?=F_ o) (h1:if F5 o (yielded ops a.tmps)=Hb then o.wp P a w (wpAny P .any ops Q fuel (listed.setIfInBounds j Hb)) Q else wpAny P .any ops Q fuel (listed.setIfInBounds j Hb) (a.put o.dst undef) w):wpOp P ops Q j (wpAny P .any ops Q fuel (listed.setIfInBounds j Hb)) a w:=by
 unfold wpOp;rw[ho];simp only;split
 ·rename_i hw;rw[if_pos hw] at h1;exact He h1
 ·rename_i hw;rw[if_neg hw] at h1;exact h1
theorem qd(hz:listed.size=ops.size) (hall:∀i,i<ops.size->listed.getD i G_=Hb):Ga .any ops listed=[]:=by
 cases hr:Ga .any ops listed with
 | nil=>rfl
 | cons j js=>
  have hm:j∈Ga .any ops listed:=by rw[hr];simp
  obtain⟨h1,o,ho,-⟩:=mem_ready.1 hm;have hj:=(FJ.1 ho).1;rw[<-cM af,hall j hj] at h1
  cases h1
theorem Az {a:Act} (hz:listed.size=ops.size) (hall:∀i,i<ops.size->listed.getD i G_=Hb) (hq:Q .normal a w):wpAny P .any ops Q fuel listed a w:=by
 have hr:=qd hz hall;cases fuel with
 | zero=>exact⟨hr,hq⟩
 | succ fuel=>exact⟨λ_=>hq,λi hi=>by rw[hr] at hi;cases hi⟩
theorem de(hops:ops=(front++[s,t]).toArray) (hB:growB a0.tmps.size front s t=Hb) (hlen:φs.length=front.length)
  (hs:∀(i:Nat) (o:Oper) (φ:Fact),front[i]?=F_ o->φs[i]?=F_ φ->φ.ck/\Obl P ops Q W a0 (knAll [] (front.take i) (φs.take i)) o φ) (hf:Fin P ops Q W a0 s t (knAll [] front φs)):
  ∀(fuel:Nat) (listed:Array Bool) (a:Act) (w:World),listed.size=ops.size->listed.toList.count G_<=fuel->listed.getD front.length G_=G_->listed.getD (front.length+1) G_=G_->Gt.Ac front φs W a0 listed a w->wpAny P .any ops Q fuel listed a w:=by
 obtain⟨hn,hin,hdep,hlt,hwait,e2,he2,hb2,hon2⟩:=dE hB;rw[<-hops] at hdep hlt;have hsz:ops.size=front.length+2:=by rw[hops];simp
 have hos:ops[front.length]?=F_ s:=by rw[hops];simp
 have hot:ops[front.length+1]?=F_ t:=by rw[hops];simp
 intro fuel;induction fuel with
 | zero=>
  intro listed a w hz hc hb hb' h;have h9:=fN (by omega:listed.toList.count G_=0) front.length af;rw[hb] at h9
  cases h9
 | succ fuel ih=>
  intro listed a w hz hc hb hb' h;refine⟨λhr=>?_,λj hj=>?_⟩
  ·have h9:=Gs.fz hz hlt hr front.length af;rw[hb] at h9
   cases h9
  obtain⟨hun,o,ho,hall⟩:=mem_ready.1 hj;have hjs:j<ops.size:=(FJ.1 ho).1;have hcs:=count_set (listed:=listed) (i:=j) af hun
  by_cases hjf:j<front.length
  ·have hof:front[j]?=F_ o:=by rw[hops] at ho;simpa[FI hjf] using ho
   have hφ:φs[j]?=F_ (φs[j]'(by omega)):=Fu _;obtain⟨hm,hob⟩:=hs j o _ hof hφ
   have hfacts:∀t∈o.looksAt ops,ai a0 (knAll [] (front.take j) (φs.take j)) a w t:=by
    intro t ht;unfold ai
    cases hk:(knAll [] (front.take j) (φs.take j)).lookup t with
    | some φ=>
     rcases cR _ _ _ hk with ⟨i,p,h1,h2,h3⟩|h1
     ·have hij:i<j:=by have:=(Fm.1 h1).1;simp at this;omega
      rw[FQ,if_pos hij] at h1 h3;obtain⟨-,e,he,hon,hbi⟩:=hdep j o hof t ht i p h1 h2;have hl:=hall e he hbi;rw[hon] at hl;exact h.old.known i p φ h1 h3 t h2 hl
     ·simp at h1
    | none=>
     refine h.old.other t (λi p hp hd=>?_)
     exfalso
     obtain⟨hij,-⟩:=hdep j o hof t ht i p hp hd;have hi:=(Fm.1 hp).1;exact (cS _ _ _ hk).2 i p (φs[i]'(by omega)) rG rK hd
   have hkeep:∀i,¬j=i->listed.getD i G_=G_->(listed.setIfInBounds j Hb).getD i G_=G_:=λi e h2=>by
    simpa[FD,Array.getElem?_setIfInBounds,e] using h2
   exact oU ho (hob a w _ h.old.size h.old.below hfacts (λv w' hbw hv=>ih _ _ _ (by simpa using hz) af (hkeep _ af hb) (hkeep _ af hb') ⟨h.old.step hn hin (λi o φ h1 h2=>(hs i o φ h1 h2).1) hof hφ af hbw hv,λj' o' ho' hl e he hbe=>(by
     by_cases ej:j=j'
     ·subst ej;obtain rfl:o=o':=Fp (hof.symm.trans ho');exact Gs.DU (hall e he hbe)
     ·exact Gs.DU (h.cl j' o' ho' (Gs.DN ej hl) e he hbe))⟩))
  ·by_cases hj1:j=front.length
   ·subst hj1;obtain rfl:s=o:=Fp (hos.symm.trans ho);have hfl:=λi hi=>jT h.cl 12 s.after (hwait i hi) (λe he hbe=>hall e he hbe);refine oU ho (Fin.last hf hlen hin h.old hfl _ (λa' w' ht=>?_))
    have hz2:(listed.setIfInBounds front.length Hb).size=ops.size:=by simpa using hz
    have hl2:∀i,i<front.length+1->(listed.setIfInBounds front.length Hb).getD i G_=Hb:=λi hi=>by
     by_cases e:front.length=i
     ·subst e
      simp[FD,show front.length<listed.size from by omega]
     ·exact Gs.DU (hfl i af)
    have hu2:(listed.setIfInBounds front.length Hb).getD (front.length+1) G_=G_:=by
     have e:¬front.length=front.length+1:=af
     simpa[FD,Array.getElem?_setIfInBounds,e] using hb'
    cases fuel with
    | zero=>
     have h9:=fN (by omega:(listed.setIfInBounds front.length Hb).toList.count G_=0) (front.length+1) af;rw[hu2] at h9
     cases h9
    | succ fuel=>
     refine⟨λhr=>?_,λi hi=>?_⟩
     ·have h9:=Gs.fz hz2 hlt hr (front.length+1) af;rw[hu2] at h9
      cases h9
     ·obtain⟨hun2,o2,ho2,-⟩:=mem_ready.1 hi;have his:i<ops.size:=(FJ.1 ho2).1
      have hie:i=front.length+1:=Classical.byContradiction λe=>by
       have h9:=hl2 i af;rw[cM af] at h9;rw[h9] at hun2
       cases hun2
      subst hie;obtain rfl:t=o2:=Fp (hot.symm.trans ho2);refine oU ho2 (ht _ (λa3 w3 hq=>Az (by simpa using hz2) (λi hi=>?_) hq))
      by_cases e:front.length+1=i
      ·subst e
       simp[FD,show front.length+1<listed.size from by omega]
      ·exact Gs.DU (hl2 i af)
   ·obtain rfl:j=front.length+1:=af
    obtain rfl:t=o:=Fp (hot.symm.trans ho);have h9:=hall e2 he2 hb2;rw[hon2,cM af] at h9;rw[cM af] at hb;rw[hb] at h9
    cases h9
end
theorem oD {P:Program} {id:Nat} {Q:Exit->Act->World->Prop} {a0:Act} {W:World} {l:List Oper} {s t:Oper} (hm:P.follows .mixedOrders=Hb) (hfr:l.dropLast.dropLast=front) (hss:l.dropLast.getLast?=F_ s) (htt:l.getLast?=F_ t) (hB:growB a0.tmps.size front s t=Hb)
  (h:Grow P l.toArray Q W a0 s t front []):(Code.region id l.toArray Hb).wp P Q a0 W:=by
 have hl:l=front++[s,t]:=by
  obtain⟨l',rfl⟩:=List.getLast?_eq_some_iff.1 htt;rw[List.dropLast_concat] at hfr hss;obtain⟨l2,rfl⟩:=List.getLast?_eq_some_iff.1 hss;rw[List.dropLast_concat] at hfr;rw[<-hfr];simp
 obtain⟨φs,hlen,hs,hfi⟩:=Grow.spec _ _ h;refine wp_region_any hm (de (by rw[hl]) hB hlen hs hfi _ _ _ _ aH ?_ ?_ ?_ ⟨⟨rfl,rfl,(Ft _ _).drew,λi o φ h1 h2 d hd hx=>?_,λd _=>rfl⟩,λj o h1 hx=>?_⟩)
 ·exact lW
 ·exact bK _ _
 ·exact bK _ _
 ·rw[bK] at hx;cases hx
 ·rw[bK] at hx;cases hx
end Gu
namespace Rc
def tL(sv:Vd->Bool) (vs:List Vd):Fact:=λv _=> ∃r:Int,v=GZ G6 r/\cZ sv vs vs.length r
theorem tL.mono(sv:Vd->Bool) (vs:List Vd):Fact.ck (tL sv vs):=λ_ _ _ h _=>h
theorem aA.C5 {l:Nat} {rs:List (List Fv)} {r:List Fv} {old:Fv} (hO:aA wr (F_ ⟨g,0,U⟩) l cp m T rs S) (hb:Below wr.heap.size wr wz) (hj:rs[j]?=F_ r) (hi:r[i]?=F_ old) (t:ByteArray) (ht:t.size<=9223372036854775807):aA (wz.setCell ⟨g,j*m+i,U⟩ (I t)) (F_ ⟨g,0,U⟩) l cp m T (rs.set j (r.set i (.s t))) S:=by
 obtain⟨g',e,hS⟩:=(hO.below hb).st (aL.refl S wz) hj;cases e;obtain⟨⟨cur2,H2,h3,_⟩,_,_⟩:=hS.zZ hi t ht;exact⟨by rw[List.length_set];exact hO.1,hO.2.1,hO.2.2.1,Hd ⟨g,cur2,H2,rfl,h3⟩⟩
theorem aA.En {l:Nat} {rs:List (List Fv)} {r:List Fv} {old:Fv} (hO:aA wr (F_ ⟨g,0,U⟩) l cp m T rs S) (hb:Below wr.heap.size wr wz) (hj:rs[j]?=F_ r) (hi:r[i]?=F_ old):(∃v,wz.cell? ⟨g,j*m+i,U⟩=F_ v)/\wz.frozen? ⟨g,j*m+i,U⟩=G_:=by
 obtain⟨g',e,hS⟩:=(hO.below hb).st (aL.refl S wz) hj;cases e;exact⟨hS.cell hi,hS.kM _⟩
theorem aA.Ee {l:Nat} {rs:List (List Fv)} {r:List Fv} (hO:aA w a l cp m T rs S) (hj:rs[j]?=F_ r):∃g cur,a=F_ ⟨g,0,U⟩/\S g/\g<w.heap.size/\w.heap[g]?=F_ (G7 cur T (0,0)):=by
 obtain⟨g',e,hS⟩:=hO.st (aL.refl S w) hj;obtain⟨⟨cur,H,h1,_⟩,_⟩:=hS;exact⟨g',cur,e,h1.inS,aa h1.blk,h1.blk⟩
theorem aA.bP {l:Nat} {T':TypeId} {rs:List (List Fv)} {cur:Array Value} (h:aA w a l cp m T rs S) (hb:Below w.heap.size w wz) (hg:w.heap[g]?=F_ (G7 cur T' (0,0))) (h1:¬T'=T) (h2:¬T'=9):aA (wz.setCell ⟨g,i,U⟩ v) a l cp m T rs S:=
 (h.dv hg h1 h2).aB (λk hk s=>(Fl _ _ _ _ s.2).trans (hb.block k hk)) (λ_ _ s=>s.1)
def AT(B:Nat):Fact:=λv w=> ∃b,v=Hf (F_ ⟨b,0,U⟩)/\B<=b/\w.heap[b]?=F_ (G7 #[I ⟨#[]⟩,G8 G_,G8 G_,I ⟨#[]⟩] 92 (0,0))
theorem AT.mono(B:Nat):Fact.ck (AT B):=by
 exact lr
def tI(W:World) (S:Nat->Prop) (vs:List Vd):Fact:=λv w=> ∃a l cp,v=J a l cp/\aA w a l cp 8 95 (vs.map vdF) (λk=>S k\/W.heap.size<=k)
theorem tI.mono(W:World) (S:Nat->Prop) (vs:List Vd):Fact.ck (tI W S vs):=by
 rintro v w w' ⟨a,l,cp,h1,h2⟩ hb;exact⟨a,l,cp,h1,h2.below hb⟩
def Es(c:Cl) (i:Nat) (x:Xd) (kc:Kd) (t:ByteArray) (S:Nat->Prop) (b:Nat) (a1:Option Addr) (l1 y1:Nat) (a2:Option Addr) (l2 y2:Nat) (a3:Option Addr) (l3 y3:Nat) (a4:Option Addr) (l4 y4:Nat) (a5:Option Addr) (l5 y5:Nat) (w:World) (e:Ending) (w':World):Prop:=
 (∃(j:Nat) (u:Vd),eN (svV x.z x.k x.x t) c.vs=F_ u/\c.vs[j]?=F_ u/\e=Ha (Hg #[I u.n,GZ G6 0])/\w'.heap[b]?=F_ (G7 (clo6 a1 l1 y1 a2 l2 y2 a3 l3 y3 a4 l4 y4 a5 l5 y5 c.now) 29 (0,0))/\cV w' ⟨a1,l1,y1,a2,l2,y2,a3,l3,y3,a4,l4,y4,a5,l5,y5⟩ (fh c i j x u).raw S/\aL S w w')\/
 (eN (svV x.z x.k x.x t) c.vs=U/\((∃p:Int,¬p=0/\((¬jK x kc t/\p=6)\/(jK x kc t/\hit Vd.n c.vs (aS++x.n)=Hb/\p=7)\/(jK x kc t/\hit Vd.n c.vs (aS++x.n)=G_/\¬c.vs.length<8/\p=9))/\e=Ha (Hg #[I ⟨#[]⟩,GZ G6 p])/\Below w.heap.size w w')\/
  (jK x kc t/\hit Vd.n c.vs (aS++x.n)=G_/\c.vs.length<8/\e=Ha (Hg #[I (aS++x.n),GZ G6 0])/\∃(q3:Option Addr) (m3 z3:Nat),w'.heap[b]?=F_ (G7 (clo6 a1 l1 y1 a2 l2 y2 q3 m3 z3 a4 l4 y4 a5 l5 y5 c.now) 29 (0,0))/\cV w' ⟨a1,l1,y1,a2,l2,y2,q3,m3,z3,a4,l4,y4,a5,l5,y5⟩ (dV c i x (cH t kc.z)).raw (λk=>S k\/w.heap.size<=k)/\aL (λk=>S k\/k=b) w w')))
theorem mZ(c:Cl) (i:Nat) (x:Xd) (jk:Nat) (kc:Kd) (t:ByteArray) (S:Nat->Prop) (b:Nat) (a1:Option Addr) (l1 y1:Nat) (a2:Option Addr) (l2 y2:Nat) (a3:Option Addr) (l3 y3:Nat) (a4:Option Addr) (l4 y4:Nat) (a5:Option Addr) (l5 y5:Nat) (w:World) (hb:w.heap[b]?=F_ (G7 #[J a1 l1 y1,J a2 l2 y2,J a3 l3 y3,J a4 l4 y4,J a5 l5 y5,GZ G6 c.now] 29 (0,0))) (hO:cV w ⟨a1,l1,y1,a2,l2,y2,a3,l3,y3,a4,l4,y4,a5,l5,y5⟩ c.raw S) (hS:∀k,S k->k<w.heap.size/\¬k=b) (hT:ay c) (hx:c.xs[i]?=F_ x) (hk:c.ks[jk]?=F_ kc) (hkn:kc.n=x.k) (hxv:x.v=⟨#[]⟩) (ht:t=⟨#[]⟩\/aV t):
  Calls Tryz.prog 112 #[Hf (F_ ⟨b,0,U⟩),GZ G6 i,I t] w (Es c i x kc t S b a1 l1 y1 a2 l2 y2 a3 l3 y3 a4 l4 y4 a5 l5 y5 w):=by
 have HO:=ae hO;have HS:=ae hS;have HT:=ae hT;have HX:=ae hx;have HK:=ae (Fk hk hkn);have HXV:=ae hxv;have HTZ:=ae ht;have Bc:=ae hb;have hl4:c.xs.length=l4:=by have h6:(c.xs.map xdF).length=l4:=hO.x.1;rw[FB] at h6;exact h6
 have hl3:c.vs.length=l3:=by have h6:(c.vs.map vdF).length=l3:=hO.v.1;rw[FB] at h6;exact h6
 have hl2:c.ks.length=l2:=by have h6:(c.ks.map kdF).length=l2:=hO.k.1;rw[FB] at h6;exact h6
 obtain⟨hi4,hii,hi0⟩:=uw;obtain⟨gx,hgx,hSx⟩:=hO.x.st (aL.refl S w) (i:=i) (r:=xdF x) (show (c.xs.map xdF)[i]?=F_ (xdF x) by rw[FG,hx];rfl);have hgx':a4=F_ ⟨gx,0,U⟩:=hgx;subst hgx';have hgxS:S gx/\gx<w.heap.size:=by obtain⟨⟨cur,H,h1,_⟩,_⟩:=hSx;exact⟨h1.inS,aa h1.blk⟩
 obtain⟨b4,o4,x',e4,hb4,hx4,hat⟩:=dM hO.x.row hi4;cases e4;rw[hx] at hx4;obtain rfl:=Fp hx4;obtain⟨zx0,zx2,zx4,c0,c1,c2,c3,c4⟩:=bS hat;rw[FE] at c0 c1 c2 c3 c4;have HC:=ae (Fk c0 (Fk c1 (Fk c2 (Fk c3 c4))));have HZX:=ae (Fk zx0 (Fk zx2 zx4));have HSX:=ae hSx;have hgb:¬gx=b:=(hS gx hgxS.1).2;have HGS:=ae hgxS.1;have hgl:gx<w.heap.size:=hgxS.2;have hbl:b<w.heap.size:=aa hb;have HB:=ae (Ft w.heap.size w);obtain⟨k0,k1,k2,k3,k4,k5⟩:=cs6 hb;clear hO hS hT hx hk hkn hxv ht hSx hgx hgxS hat hx4 hb4 zx0 zx2 zx4;go_enter Tryz.func112,Tryz.ntmps112;go_wp2_with fail;clear k0 k1 k2 k3 k4 k5 c0 c1 c2 c3 c4;obtain⟨W,hW0⟩:∃W,W=(w.alloc (G7 (xov x) 97)):=⟨_,rfl⟩;have BcW:=ae ((Fy w (G7 (xov x) 97) _ hbl).trans hb);have BxW:=ae (heap_alloc_new w (G7 (xov x) 97));have HBW:=ae (aq w (G7 (xov x) 97));have hws:W.heap.size=w.heap.size+1:=by rw[hW0];exact cB _ _
 rw[<-hW0] at BcW BxW HBW ⊢;clear hW0 hb;rename_i K0 hK0;refine ba (back:=U) au (List.append_nil _).symm au ?_;refine' Grow.stepC _ rfl ?_ ?_;rotate_left 1
 ·exact jd
 refine' Grow.stepC _ rfl ?_ ?_;rotate_left 1
 ·refine Obl.plain rfl ?_;intro ac wg K hsz hW hf hK;clear hsz;have e21:=hf 21 ah;simp[ai,Fo] at e21;clear hf;exact aO
 refine' Grow.stepC _ rfl ?_ ?_;rotate_left 1
 ·refine Obl.plain rfl ?_;intro ac wg K hsz hW hf hK;clear hsz;have e22:=hf 22 ah;simp[ai,Fo] at e22;clear hf;exact aO
 refine' Grow.stepC _ rfl ?_ ?_;rotate_left 1
 ·refine Obl.plain rfl ?_;intro ac wg K hsz hW hf hK;clear hsz;have e23:=hf 23 ah;simp[ai,Fo] at e23;exact pD
 refine' Grow.stepC _ rfl ?_ ?_;rotate_left 1
 ·refine Obl.plain rfl ?_;intro ac wg K hsz hW hf hK;clear hsz;have e8:=hf 8 ah;simp[ai,Fo] at e8;clear hf;obtain⟨x0,x1,x2,x3,x4⟩:=cs5 ((hW.block _ (aa BxW.out)).trans BxW.out);exact aO
 refine' Grow.stepC _ rfl ?_ ?_;rotate_left 1
 ·exact iX
 refine Grow.step (tL (svV x.z x.k x.x t) c.vs) rfl (tL.mono _ _) ?_ ?_
 ·refine Obl.plain rfl ?_;intro ac wg K hsz hW hf hK;clear hsz;have e24:=hf 24 ah;simp[ai,Fo] at e24;have e25:=hf 25 ah;simp[ai,Fo] at e25;have e26:=hf 26 ah;simp[ai,Fo] at e26;clear hf;go_simp;refine (oQ a3 l3 y3 c.vs x.n x.z x.k x.x x.v t _ (DP (HO.v.row.below (HBW.trans (hW.mono HBW.size))))).mono ?_;rintro e w6 ⟨r,rfl,hr6,hb6⟩;exact hK _ _ hb6 ⟨r,rfl,by rw[hl3];exact hr6⟩
 refine Grow.step (tL (svV x.z x.k x.x t) c.vs) rfl (tL.mono _ _) ?_ ?_
 ·refine Obl.plain rfl ?_;intro ac wg K hsz hW hf hK;clear hsz;have e27:=hf 27 ah;simp[ai,Fo] at e27;obtain⟨r,e27,hr6⟩:=e27;clear hf;go_simp;exact hK _ _ (Ft _ _) ⟨r,rfl,hr6⟩
 refine Grow.done ?_;intro q wz hW hf;simp only[FH] at hf;obtain⟨h9,h27,h26,h25,h24,h23,h22,h21,-⟩:=hf;obtain⟨r,hv9,hbest⟩:=h9;obtain⟨r2,hv27,-⟩:=h27;have HWZ:=ae hW;clear hW;refine hK0 _ _ ?_;simp only[aN,F7,Act.put,FF,FL,FM,h26,h25,h24,h23,h22,h21,hv9,hv27];clear hK0;have Bc2:=upK BcW HWZ.out;have Bx2:=upK BxW HWZ.out;have HB2:=ae (HBW.trans (HWZ.mono HBW.size));have hw2:w.heap.size+1<=wz.heap.size:=by have:=HWZ.size;omega
 clear BcW BxW HBW HWZ;rcases hbest with ⟨rfl,hnone⟩|⟨j,u,rfl,hjl,hju,hsome⟩;rotate_left
 ·rw[List.take_length] at hsome;have HJU:=ae hju;have HSO:=ae hsome;have hj3:(j:Int)<l3:=af
  have hj0:¬(j:Int)<0:=af
  have hjr:(c.vs.map vdF)[j]?=F_ (vdF u):=by rw[FG,hju];rfl
  have hir:(c.xs.map xdF)[i]?=F_ (xdF x):=by rw[FG,HX.out];rfl
  have HJR:=ae hjr;have HIR:=ae hir;obtain⟨gv,curv,hgv,hgvS,hgvl,hgvb⟩:=aA.Ee HO.v hjr;have hgv':a3=F_ ⟨gv,0,U⟩:=hgv;subst hgv';obtain⟨gx2,curx,hgx2,-,-,hgxb⟩:=aA.Ee HO.x hir;cases hgx2;have HVB:=ae hgvb;have HXB:=ae hgxb;have hvb:¬gv=b:=(HS.out gv hgvS).2;have HVS:=ae hgvS;have hxz:x.n.size<=9223372036854775807:=HZX.1;have huz:u.n.size<=9223372036854775807:=by have h1:=(HT.2.1.2.2.1.2.1 j u hju).1.2.1;omega
  clear hju hsome hjr hir hgv hgvS hgvb hgxb;go_wp2_with fail;rename_i K0 hK0;refine Gt.aQ au rfl rfl au ?_;refine' Grow.stepC _ rfl ?_ ?_;rotate_left 1
  ·exact jd
  refine' Grow.stepC _ rfl ?_ ?_;rotate_left 1
  ·refine Obl.plain rfl ?_;intro ac wg K hsz hW hf hK;clear hsz;have e30:=hf 30 ah;simp[ai,Fo] at e30;clear hf;exact aO
  refine' Grow.stepC _ rfl ?_ ?_;rotate_left 1
  ·refine Obl.plain rfl ?_;intro ac wg K hsz hW hf hK;clear hsz;have e31:=hf 31 ah;simp[ai,Fo] at e31;clear hf;exact aO
  refine' Grow.stepC _ rfl ?_ ?_;rotate_left 1
  ·refine Obl.plain rfl ?_;intro ac wg K hsz hW hf hK;clear hsz;have e32:=hf 32 ah;simp[ai,Fo] at e32;exact pI
  refine' Grow.stepC _ rfl ?_ ?_;rotate_left 1
  ·exact lT
  refine' Grow.stepC _ rfl ?_ ?_;rotate_left 1
  ·exact iY
  refine' Grow.stepC _ rfl ?_ ?_;rotate_left 1
  ·refine Obl.plain rfl ?_;intro ac wg K hsz hW hf hK;clear hsz;have e35:=hf 35 ah;simp[ai,Fo] at e35;exact vT
  refine' Grow.stepC _ rfl ?_ ?_;rotate_left 1
  ·refine Obl.plain rfl ?_;intro ac wg K hsz hW hf hK;clear hsz;have e33:=hf 33 ah;simp[ai,Fo] at e33;have e34:=hf 34 ah;simp[ai,Fo] at e34;clear hf;exact aO
  refine' Grow.stepC _ rfl ?_ ?_;rotate_left 1
  ·refine Obl.plain rfl ?_;intro ac wg K hsz hW hf hK;clear hsz;exact pG
  refine Grow.done ?_;intro q wy hW hf;simp only[FH] at hf;obtain⟨h38,h37,h36,h35,h34,h33,h32,h31,h30,-⟩:=hf;have HWY:=upB HB2 hW;have Bc3:=upK Bc2 hW;obtain⟨⟨v9,hcz⟩,hfz⟩:=aA.En HO.v HWY.out HJR.out (i:=5) rfl;intro K hK;rw[if_pos cQ];simp only[aN,F7,Act.put,FF,FL,FM,h38,h37,h36,h35,h34,h33,h32,h31,h30];simp only[List.getLast];go_simp;refine hK _ _ ?_;refine hK0 _ _ ?_;clear hK hK0 K K0;have hV5:=aA.C5 HO.v HWY.out HJR.out (i:=5) rfl x.n hxz;have f1:=aA.bP (i:=j*8+5) (v:=I x.n) HO.n HWY.out HVB.out ah ah;have f2:=aA.bP (i:=j*8+5) (v:=I x.n) HO.k HWY.out HVB.out ah ah;have f4:=aA.bP (i:=j*8+5) (v:=I x.n) HO.x HWY.out HVB.out ah ah;have f5:=aA.bP (i:=j*8+5) (v:=I x.n) HO.p HWY.out HVB.out ah ah;have hK5:aL S w (wy.setCell ⟨gv,j*8+5,U⟩ (I x.n)):=(aL.dq HWY.out).set HVS.out;have hB5:(wy.setCell ⟨gv,j*8+5,U⟩ (I x.n)).heap[b]?=_:=(Fl _ _ _ _ (show b≠gv from λe=>hvb e.symm)).trans Bc3.out;have hx5:(wy.setCell ⟨gv,j*8+5,U⟩ (I x.n)).heap[gx]?=F_ (G7 curx 97 (0,0)):=(Fl _ _ _ _ (show gx≠gv from λe=>by have h1:=HXB.out;have h2:=HVB.out;rw[e,h2] at h1;simp at h1)).trans ((HWY.block _ (aa HXB.out)).trans HXB.out);obtain⟨cur5,hv5b⟩:∃cur5,(wy.setCell ⟨gv,j*8+5,U⟩ (I x.n)).heap[gv]?=F_ (G7 cur5 95 (0,0)):=⟨_,az ((HWY.block _ (aa HVB.out)).trans HVB.out) _⟩;clear hcz hfz;obtain⟨W5,hW5⟩:∃W5,W5=wy.setCell ⟨gv,j*8+5,U⟩ (I x.n):=⟨_,rfl⟩;rw[<-hW5] at hV5 f1 f2 f4 f5 hK5 hB5 hx5 hv5b ⊢;have HV5:=ae hV5;have HF5:=ae (Fk f1 (Fk f2 (Fk f4 f5)));have HK5:=ae hK5;have Bc5:=ae hB5;have HX5:=ae hx5;have HVB5:=ae hv5b;have hjl5:j<l3:=af
  obtain⟨b5,o5,v5,e5,hbl5,hx5',hat5⟩:=bM (xs:=c.vs.set j (bdV u x.n)) (by rw[List.map_set];exact hV5.row) hjl5;cases e5;rw[dL hjl,if_pos rfl] at hx5';obtain rfl:=Fp hx5';obtain⟨va5,vl5,vc5,-,-,-,-,-,cn5,-,-,-,-,-,-,-⟩:=aP hat5;rw[FE] at cn5;have HCN5:Hid (W5.cell? ⟨gv,j*8,U⟩=F_ (I u.n)):=cn5;clear hW5 hV5 f1 f2 f4 f5 hK5 hB5 hx5 hat5 cn5 hbl5 hx5' hv5b;go_wp2_with fail;rename_i K0 hK0;refine Gt.aQ au rfl rfl au ?_;refine' Grow.stepC _ rfl ?_ ?_;rotate_left 1
  ·exact jd
  refine' Grow.stepC _ rfl ?_ ?_;rotate_left 1
  ·refine Obl.plain rfl ?_;intro ac wg K hsz hW hf hK;clear hsz;have e39:=hf 39 ah;simp[ai,Fo] at e39;clear hf;exact aO
  refine' Grow.stepC _ rfl ?_ ?_;rotate_left 1
  ·exact wD
  refine' Grow.stepC _ rfl ?_ ?_;rotate_left 1
  ·refine Obl.plain rfl ?_;intro ac wg K hsz hW hf hK;clear hsz;have e41:=hf 41 ah;simp[ai,Fo] at e41;exact vX
  refine' Grow.stepC _ rfl ?_ ?_;rotate_left 1
  ·exact jc
  refine' Grow.stepC _ rfl ?_ ?_;rotate_left 1
  ·exact jd
  refine' Grow.stepC _ rfl ?_ ?_;rotate_left 1
  ·exact wC
  refine' Grow.stepC _ rfl ?_ ?_;rotate_left 1
  ·refine Obl.plain rfl ?_;intro ac wg K hsz hW hf hK;clear hsz;have e45:=hf 45 ah;simp[ai,Fo] at e45;clear hf;exact aO
  refine' Grow.stepC _ rfl ?_ ?_;rotate_left 1
  ·refine Obl.plain rfl ?_;intro ac wg K hsz hW hf hK;clear hsz;have e46:=hf 46 ah;simp[ai,Fo] at e46;exact vX
  refine' Grow.stepC _ rfl ?_ ?_;rotate_left 1
  ·exact lT
  refine' Grow.stepC _ rfl ?_ ?_;rotate_left 1
  ·refine Obl.plain rfl ?_;intro ac wg K hsz hW hf hK;clear hsz;have e47:=hf 47 ah;simp[ai,Fo] at e47;have e48:=hf 48 ah;simp[ai,Fo] at e48;clear hf;exact aO
  refine' Grow.stepC _ rfl ?_ ?_;rotate_left 1
  ·refine Obl.plain rfl ?_;intro ac wg K hsz hW hf hK;clear hsz;have e49:=hf 49 ah;simp[ai,Fo] at e49;clear hf;exact aO
  refine' Grow.stepC _ rfl ?_ ?_;rotate_left 1
  ·refine Obl.plain rfl ?_;intro ac wg K hsz hW hf hK;clear hsz;have e50:=hf 50 ah;simp[ai,Fo] at e50;clear hf;have c7:=(aj hW (aa HVB5.out)).trans HCN5.out;exact aO
  refine' Grow.stepC _ rfl ?_ ?_;rotate_left 1
  ·refine Obl.plain rfl ?_;intro ac wg K hsz hW hf hK;clear hsz;have e42:=hf 42 ah;simp[ai,Fo] at e42;have e43:=hf 43 ah;simp[ai,Fo] at e43;clear hf;exact aO
  refine' Grow.stepC _ rfl ?_ ?_;rotate_left 1
  ·refine Obl.plain rfl ?_;intro ac wg K hsz hW hf hK;clear hsz;have e52:=hf 52 ah;simp[ai,Fo] at e52;clear hf;exact aO
  refine Grow.done ?_;intro q wx hW hf;simp only[FH] at hf;obtain⟨h53,h52,h51,h50,h49,h48,h47,h46,h45,h44,h43,h42,h41,h40,h39,-⟩:=hf;have HWX:=ae hW;have Bc6:=upK Bc5 hW;obtain⟨⟨v9,hcz⟩,hfz⟩:=aA.En HF5.2.2.1 hW HIR.out (i:=4) rfl;intro K hK;rw[if_pos cQ];simp only[aN,F7,Act.put,FF,FL,FM,h53,h52,h51,h50,h49,h48,h47,h46,h45,h44,h43,h42,h41,h40,h39];simp only[List.getLast];go_simp;refine hK _ _ ?_;refine hK0 _ _ ?_;clear hK hK0 K K0;have hX6:=aA.C5 HF5.2.2.1 HWX.out HIR.out (i:=4) rfl u.n huz;have f1:=aA.bP (i:=i*5+4) (v:=I u.n) HF5.1 HWX.out HX5.out ah ah;have f2:=aA.bP (i:=i*5+4) (v:=I u.n) HF5.2.1 HWX.out HX5.out ah ah;have f3:=aA.bP (i:=i*5+4) (v:=I u.n) HV5.out HWX.out HX5.out ah ah;have f5:=aA.bP (i:=i*5+4) (v:=I u.n) HF5.2.2.2 HWX.out HX5.out ah ah;have hK6:aL S w (wx.setCell ⟨gx,i*5+4,U⟩ (I u.n)):=(HK5.below HWX.out).set HGS.out;have hB6:(wx.setCell ⟨gx,i*5+4,U⟩ (I u.n)).heap[b]?=_:=(Fl _ _ _ _ (show b≠gx from λe=>hgb e.symm)).trans Bc6.out;have hc6:(wx.setCell ⟨gx,i*5+4,U⟩ (I u.n)).cell? ⟨gv,j*8,U⟩=F_ (I u.n):=by
   have h9:=(aj HWX.out (aa HVB5.out)).trans HCN5.out;have hne:¬gv=gx:=λe=>by have h1:=HX5.out;have h2:=HVB5.out;rw[<-e,h2] at h1;simp at h1
   have e9:(wx.setCell ⟨gx,i*5+4,U⟩ (I u.n)).heap[gv]?=wx.heap[gv]?:=Fl _ _ _ _ hne;simp only[Gc,e9] at h9 ⊢;exact h9
  clear hcz hfz;obtain⟨W6,hW6⟩:∃W6,W6=wx.setCell ⟨gx,i*5+4,U⟩ (I u.n):=⟨_,rfl⟩;rw[<-hW6] at hX6 f1 f2 f3 f5 hK6 hB6 hc6 ⊢;have HA6:Hid (cV W6 ⟨a1,l1,y1,a2,l2,y2,F_ ⟨gv,0,U⟩,l3,y3,F_ ⟨gx,0,U⟩,l4,y4,a5,l5,y5⟩ (fh c i j x u).raw S):=⟨f1,f2,by show aA _ _ _ _ _ _ ((c.vs.set j (bdV u x.n)).map vdF) _;rw[List.map_set];exact f3,by show aA _ _ _ _ _ _ ((c.xs.set i (bdX x u.n)).map xdF) _;rw[List.map_set];exact hX6,f5⟩;have HK6:=ae hK6;have HB6:=ae hB6;clear hW6 hX6 f1 f2 f3 f5 hK6;obtain⟨k0,k1,k2,k3,k4,k5⟩:=cs6 hB6;clear hB6;go_wp2;exact bodyPost_ret (v:=Hg #[I u.n,GZ G6 0]) (by simp[results,Tryz.results112,go_sem, *]) rfl (He ⟨j,u,HSO.out,HJU.out,rfl,HB6.out,HA6.out,HK6.out⟩)
 rw[List.take_length] at hnone;have HNO:=ae hnone;have hkr:(c.ks.map kdF)[jk]?=F_ (kdF kc):=by rw[FG,HK.1];rfl
 have hir:(c.xs.map xdF)[i]?=F_ (xdF x):=by rw[FG,HX.out];rfl
 have HIR:=ae hir;have hjk:jk<l2:=by have:=(Fm.1 HK.1).1;omega
 have hj2:(jk:Int)<l2:=af
 have hj0:¬(jk:Int)<0:=af
 obtain⟨gk,curk,hgk,-,hgkl,-⟩:=aA.Ee HO.k hkr;have hgk':a2=F_ ⟨gk,0,U⟩:=hgk;subst hgk';obtain⟨gx2,curx,hgx2,-,-,hgxb⟩:=aA.Ee HO.x hir;cases hgx2;have HXB:=ae hgxb;obtain⟨b2,o2,y',e2,hb2,hx2,hat⟩:=fD HO.k.row hjk;cases e2;rw[HK.1] at hx2;obtain rfl:=Fp hx2;obtain⟨zk0,zk3,d0,d1,d2,d3⟩:=cU hat;rw[FE] at d0 d1 d2 d3;have HKC:=ae (Fk d0 (Fk d1 (Fk d2 d3)));have HZK:=ae (Fk zk0 zk3);have HRK:=ae HO.k.row;have HGK:=ae hgkl;clear hnone hkr hir hgk hgxb hat hx2 hb2 zk0 zk3 d0 d1 d2 d3;go_wp2_with fail;rename_i K0 hK0;refine aQ au rfl rfl au ?_;refine' Grow.stepC _ rfl ?_ ?_;rotate_left 1
 ·exact jd
 refine' Grow.stepC _ rfl ?_ ?_;rotate_left 1
 ·refine Obl.plain rfl ?_;intro ac wg K hsz hW hf hK;clear hsz;have e62:=hf 62 ah;simp[ai,Fo] at e62;clear hf;exact aO
 refine' Grow.stepC _ rfl ?_ ?_;rotate_left 1
 ·refine Obl.plain rfl ?_;intro ac wg K hsz hW hf hK;clear hsz;have e63:=hf 63 ah;simp[ai,Fo] at e63;clear hf;exact aO
 refine' Grow.stepC _ rfl ?_ ?_;rotate_left 1
 ·refine Obl.plain rfl ?_;intro ac wg K hsz hW hf hK;clear hsz;have e64:=hf 64 ah;simp[ai,Fo] at e64;exact pI
 refine' Grow.stepC _ rfl ?_ ?_;rotate_left 1
 ·exact jd
 refine' Grow.stepC _ rfl ?_ ?_;rotate_left 1
 ·refine Obl.plain rfl ?_;intro ac wg K hsz hW hf hK;clear hsz;have e66:=hf 66 ah;simp[ai,Fo] at e66;clear hf;exact aO
 refine' Grow.stepC _ rfl ?_ ?_;rotate_left 1
 ·refine Obl.plain rfl ?_;intro ac wg K hsz hW hf hK;clear hsz;have e67:=hf 67 ah;simp[ai,Fo] at e67;exact pI
 refine' Grow.stepC _ rfl ?_ ?_;rotate_left 1
 ·exact iY
 refine' Grow.stepC _ rfl ?_ ?_;rotate_left 1
 ·refine Obl.plain rfl ?_;intro ac wg K hsz hW hf hK;clear hsz;have e69:=hf 69 ah;simp[ai,Fo] at e69;exact vT
 refine Grow.step (λv _=>v=GZ G6 jk) rfl (Fact.cy _) ?_ ?_
 ·refine Obl.plain rfl ?_;intro ac wg K hsz hW hf hK;clear hsz;have e68:=hf 68 ah;simp[ai,Fo] at e68;have e70:=hf 70 ah;simp[ai,Fo] at e70;clear hf;go_simp;refine (dm ⟨a1,l1,y1,F_ ⟨gk,0,U⟩,l2,y2,a3,l3,y3,F_ ⟨gx,0,U⟩,l4,y4,a5,l5,y5⟩ c.now c.ks x.k _ (HRK.below (HB2.trans (hW.mono HB2.size))) HT.2.1.2.1.2.2 HK.1 HK.2).mono ?_;rintro e w6 ⟨rfl,hb6⟩;exact hK _ _ hb6 rfl
 refine' Grow.stepC _ rfl ?_ ?_;rotate_left 1
 ·refine Obl.plain rfl ?_;intro ac wg K hsz hW hf hK;clear hsz;have e65:=hf 65 ah;simp[ai,Fo] at e65;have e71:=hf 71 ah;simp[ai,Fo] at e71;clear hf;exact aO
 refine' Grow.stepC _ rfl ?_ ?_;rotate_left 1
 ·refine Obl.plain rfl ?_;intro ac wg K hsz hW hf hK;clear hsz;have e72:=hf 72 ah;simp[ai,Fo] at e72;clear hf;obtain⟨d0,d1,d2,d3⟩:=HKC.out;have hbg:=HB2.trans (hW.mono HB2.size);replace d0:=(aj hbg HGK.out).trans d0;replace d1:=(aj hbg HGK.out).trans d1;replace d2:=(aj hbg HGK.out).trans d2;replace d3:=(aj hbg HGK.out).trans d3;exact aO
 refine Grow.step (AT wz.heap.size) rfl (AT.mono _) ?_ ?_
 ·exact jy
 refine Grow.done ?_;intro q wy hW hf;simp only[FH] at hf;obtain⟨⟨b9,h10,hb9,hg9⟩,h73,h72,h71,h70,h69,h68,h67,h66,h65,h64,h63,h62,-⟩:=hf;have g0:=hg9;have g1:(wy.setCell ⟨b9,0,U⟩ (I kc.n)).heap[b9]?=F_ (G7 #[I kc.n,G8 G_,G8 G_,I ⟨#[]⟩] 92 (0,0)):=az g0 _;have g2:((wy.setCell ⟨b9,0,U⟩ (I kc.n)).setCell ⟨b9,1,U⟩ (G8 kc.x)).heap[b9]?=F_ (G7 #[I kc.n,G8 kc.x,G8 G_,I ⟨#[]⟩] 92 (0,0)):=az g1 _;have g3:(((wy.setCell ⟨b9,0,U⟩ (I kc.n)).setCell ⟨b9,1,U⟩ (G8 kc.x)).setCell ⟨b9,2,U⟩ (G8 kc.y)).heap[b9]?=F_ (G7 #[I kc.n,G8 kc.x,G8 kc.y,I ⟨#[]⟩] 92 (0,0)):=az g2 _;have g4:((((wy.setCell ⟨b9,0,U⟩ (I kc.n)).setCell ⟨b9,1,U⟩ (G8 kc.x)).setCell ⟨b9,2,U⟩ (G8 kc.y)).setCell ⟨b9,3,U⟩ (I kc.z)).heap[b9]?=F_ (G7 #[I kc.n,G8 kc.x,G8 kc.y,I kc.z] 92 (0,0)):=az g3 _;obtain⟨t0,t1,t2,t3⟩:=cs4 hg9;have f0:=al hg9 0;have f1:=al hg9 1;have f2:=al hg9 2;have f3:=al hg9 3;have Bn:=ae g4;have HWX:Hid (Below wz.heap.size wz ((((wy.setCell ⟨b9,0,U⟩ (I kc.n)).setCell ⟨b9,1,U⟩ (G8 kc.x)).setCell ⟨b9,2,U⟩ (G8 kc.y)).setCell ⟨b9,3,U⟩ (I kc.z))):=ak hb9 (ak hb9 (ak hb9 (ak hb9 (hW))));clear g0 g1 g2 g3 g4 hg9;intro K hK;rw[if_pos cQ];simp only[aN,F7,Act.put,FF,FL,FM,h10,h73,h72,h71,h70,h69,h68,h67,h66,h65,h64,h63,h62];simp only[List.getLast];go_simp;refine hK _ _ ?_;refine hK0 _ _ ?_;clear hK hK0 K K0;generalize ((((wy.setCell ⟨b9,0,U⟩ (I kc.n)).setCell ⟨b9,1,U⟩ (G8 kc.x)).setCell ⟨b9,2,U⟩ (G8 kc.y)).setCell ⟨b9,3,U⟩ (I kc.z))=X3 at Bn HWX ⊢;clear t0 t1 t2 t3 f0 f1 f2 f3;have HB3:=ae (HB2.trans (HWX.mono HB2.size));have Bc3:=upK Bc2 HWX.out;have Bx3:=upK Bx2 HWX.out;have hb9':w.heap.size<b9:=af
 clear hW HWX HB2 Bc2 Bx2;by_cases hte:t=⟨#[]⟩
 ·have hq:=cC hte;have HZO:Hid (cH t kc.z=kc.z):=by show cH _ _=_;unfold cH;rw[if_pos hte]
  clear hte;have hzn:¬kc.z=⟨#[]⟩->aV kc.z:=λh=>((HT.2.1.2.1.2.1 jk kc HK.1).2.resolve_left h);obtain⟨x0,x1,x2,x3,x4⟩:=cs5 Bx3;obtain⟨n0,n1,n2,n3⟩:=cs4 Bn;have hxl:=aa Bx3.out;have hnl:=aa Bn.out;go_wp2_with fail;clear x0 x1 x2 x3 x4 n0 n1 n2 n3;by_cases hm:oA x.n x.k x.v kc.n kc.z kc.z;rotate_left
  ·refine (tY x.n x.z x.k x.x x.v kc.n kc.x kc.y kc.z kc.z _ HZX.1 hm).mono ?_;exact vy
  refine (ri x.n x.z x.k x.x x.v kc.n kc.x kc.y kc.z kc.z _ hm).mono ?_;rintro e w5 ⟨rfl,hb⟩;have HM:=ae hm;have HB5:=upB HB3 hb;have Bc5:=upK Bc3 hb;clear hb hm Bc3 Bx3 Bn hxl hnl;by_cases hz:kc.z=⟨#[]⟩
  ·have HNM:Hid (¬jK x kc t):=λh=>h.1 (by rw[HZO.out];exact hz);have hq2:=cC hz;clear hz;exact uY
  have HMV:Hid (jK x kc t):=⟨by rw[HZO.out];exact hz,by rw[HZO.out];exact HM.out⟩;have hzno:=hzn hz;have HZN:=ae hzno;have hq2:=bg hz;clear hz hzno hzn;go_wp2_with fail;clear hq2;obtain⟨W,hW0⟩:∃W,W=w5.alloc (G7 #[I (aS++x.n),GZ G6 x.z,I kc.z,I x.k,G8 x.x,I x.n,G8 G_,J U 0 0] 95):=⟨_,rfl⟩;have BcW:=ae ((Fy w5 (G7 #[I (aS++x.n),GZ G6 x.z,I kc.z,I x.k,G8 x.x,I x.n,G8 G_,J U 0 0] 95) _ (aa Bc5.out)).trans Bc5.out);have BvW:=ae (heap_alloc_new w5 (G7 #[I (aS++x.n),GZ G6 x.z,I kc.z,I x.k,G8 x.x,I x.n,G8 G_,J U 0 0] 95));have HBW:=ae (HB5.trans ((aq w5 (G7 #[I (aS++x.n),GZ G6 x.z,I kc.z,I x.k,G8 x.x,I x.n,G8 G_,J U 0 0] 95)).mono HB5.size));have hw5:w.heap.size<=w5.heap.size:=HB5.size;rw[<-hW0] at BcW BvW HBW ⊢;clear hW0 Bc5 HB5;cases hh:hit Vd.n c.vs (aS++x.n);rotate_left
  ·exact vS
  have HH:=ae hh;clear hh;by_cases h8:l3<8;rotate_left
  ·exact vR
  rename_i K0 hK0;refine ba (back:=U) au (List.append_nil _).symm au ?_;refine' Grow.stepC _ rfl ?_ ?_;rotate_left 1
  ·exact eP
  refine' Grow.stepC _ rfl ?_ ?_;rotate_left 1
  ·exact vM
  refine' Grow.stepC _ rfl ?_ ?_;rotate_left 1
  ·exact vh
  refine' Grow.stepC _ rfl ?_ ?_;rotate_left 1
  ·exact pC
  refine' Grow.stepC _ rfl ?_ ?_;rotate_left 1
  ·exact vQ
  refine Grow.step (λv _=>v=GZ G6 (-1)) rfl (Fact.cy _) ?_ ?_
  ·exact xL
  refine' Grow.stepC (G8 G_) rfl ?_ ?_
  ·exact vN
  refine' Grow.stepC _ rfl ?_ ?_;rotate_left 1
  ·exact eP
  refine' Grow.stepC _ rfl ?_ ?_;rotate_left 1
  ·exact vL
  refine' Grow.stepC _ rfl ?_ ?_;rotate_left 1
  ·exact vK
  refine' Grow.stepC _ rfl ?_ ?_;rotate_left 1
  ·exact vj
  refine' Grow.stepC (GZ G6 l3) rfl ?_ ?_
  ·exact vO
  refine Grow.step (λv _=>v=GZ G6 0) rfl (Fact.cy _) ?_ ?_
  ·exact BX
  refine' Grow.stepC _ rfl ?_ ?_;rotate_left 1
  ·exact vP
  refine Grow.done ?_;intro q wy hW hf;simp only[FH] at hf;obtain⟨h13,h103,h102,h101,h100,h99,h98,h97,h96,h95,h94,h93,h92,h91,-⟩:=hf;have HWY:=ae hW;clear hW;refine hK0 _ _ ?_;simp only[aN,F7,Act.put,FF,FL,FM,h13,h103,h102,h101,h100,h99,h98,h97,h96,h95,h94,h93,h92,h91];clear hK0;have Bc6:=upK BcW HWY.out;have Bv6:=upK BvW HWY.out;have HB6:=ae (HBW.trans (HWY.mono HBW.size));have hw6:w5.heap.size<wy.heap.size:=aa Bv6.out;clear HBW HWY BcW BvW;go_wp2_with fail;obtain⟨hxo,hZ1,hZ2,hZ0⟩:=Bm;have hZ3:kc.z.size<=9223372036854775807:=by have h1:=HZN.2.1;omega
  clear hxo;rename_i K0 hK0;refine Gt.aQ au rfl rfl au ?_;refine' Grow.stepC _ rfl ?_ ?_;rotate_left 1
  ·exact eP
  refine' Grow.stepC _ rfl ?_ ?_;rotate_left 1
  ·exact eP
  refine' Grow.stepC _ rfl ?_ ?_;rotate_left 1
  ·exact vt
  refine' Grow.stepC _ rfl ?_ ?_;rotate_left 1
  ·exact vu
  refine' Grow.stepC _ rfl ?_ ?_;rotate_left 1
  ·exact vB
  refine' Grow.stepC _ rfl ?_ ?_;rotate_left 1
  ·exact vC
  refine Grow.step (tI w S (dV c i x kc.z).vs) rfl (tI.mono _ _ _) ?_ ?_
  ·refine Obl.plain rfl ?_;intro ac wg K hsz hW hf hK;clear hsz;have e111:=hf 111 ah;simp[ai,Fo] at e111;have e112:=hf 112 ah;simp[ai,Fo] at e112;clear hf;go_simp;refine (jW a3 l3 y3 c.vs (mkV x kc.z) U 0 0 0 S (λ_=>False) _ (HO.v.below (HB6.trans (hW.mono HB6.size))) af (λq f hf=>?_) (λ_ _ h=>h)).mono ?_
   ·exact Cb
   exact vD
  refine' Grow.stepC _ rfl ?_ ?_;rotate_left 1
  ·exact vv
  refine' Grow.stepC _ rfl ?_ ?_;rotate_left 1
  ·exact vx
  refine Grow.done ?_;intro q wx hW hf;simp only[FH] at hf;obtain⟨h115,h114,h113,h112,h111,h110,h109,h108,h107,-⟩:=hf;obtain⟨q3,m3,z3,hv113,ho7⟩:=h113;have HO7:=ae ho7;have HWX:=upB HB6 hW;have Bc7:=upK Bc6 hW;have Bv7:=upK Bv6 hW;obtain⟨k0,k1,k2,k3,k4,k5⟩:=cs6 Bc7;have hfz:=al Bc7.out 2;have hbl7:=aa Bc7.out;clear ho7 hW;intro K hK;rw[if_pos cQ];simp only[aN,F7,Act.put,FF,FL,FM,h115,h114,h112,h111,h110,h109,h108,h107,hv113];simp only[List.getLast];go_simp;refine hK _ _ ?_;refine hK0 _ _ ?_;clear hK hK0 K K0;clear k0 k1 k2 k3 k4 k5 hfz;have hnb:∀k,(S k\/w.heap.size<=k)->¬k=b:=λk h=>by
   rcases h with h|h
   ·exact (HS.out k h).2
   ·omega
  obtain⟨kp,f1,f2,f4,f5,f3,hB8⟩:=BM;have hv8:(wx.setCell ⟨b,2,U⟩ (J q3 m3 z3)).heap[w5.heap.size]?=F_ (G7 #[I (aS++x.n),GZ G6 x.z,I kc.z,I x.k,G8 x.x,I x.n,G8 G_,J U 0 0] 95 (0,0)):=(Fl _ _ _ _ (show w5.heap.size≠b by omega)).trans Bv7.out;exact xj
 ·have hq:=bg hte;have HZO:Hid (cH t kc.z=t):=by show cH _ _=_;unfold cH;rw[if_neg hte]
  clear hte;have hzn:¬t=⟨#[]⟩->aV t:=λh=>HTZ.resolve_left h;obtain⟨x0,x1,x2,x3,x4⟩:=cs5 Bx3;obtain⟨n0,n1,n2,n3⟩:=cs4 Bn;have hxl:=aa Bx3.out;have hnl:=aa Bn.out;go_wp2_with fail;clear x0 x1 x2 x3 x4 n0 n1 n2 n3;by_cases hm:oA x.n x.k x.v kc.n kc.z t;rotate_left
  ·refine (tY x.n x.z x.k x.x x.v kc.n kc.x kc.y kc.z t _ HZX.1 hm).mono ?_;exact vy
  refine (ri x.n x.z x.k x.x x.v kc.n kc.x kc.y kc.z t _ hm).mono ?_;rintro e w5 ⟨rfl,hb⟩;have HM:=ae hm;have HB5:=upB HB3 hb;have Bc5:=upK Bc3 hb;clear hb hm Bc3 Bx3 Bn hxl hnl;by_cases hz:t=⟨#[]⟩
  ·have HNM:Hid (¬jK x kc t):=λh=>h.1 (by rw[HZO.out];exact hz);clear hq;have hq2:=cC hz;clear hz;exact uY
  have HMV:Hid (jK x kc t):=⟨by rw[HZO.out];exact hz,by rw[HZO.out];exact HM.out⟩;have hzno:=hzn hz;have HZN:=ae hzno;clear hq;have hq2:=bg hz;clear hz hzno hzn;go_wp2_with fail;clear hq2;obtain⟨W,hW0⟩:∃W,W=w5.alloc (G7 #[I (aS++x.n),GZ G6 x.z,I t,I x.k,G8 x.x,I x.n,G8 G_,J U 0 0] 95):=⟨_,rfl⟩;have BcW:=ae ((Fy w5 (G7 #[I (aS++x.n),GZ G6 x.z,I t,I x.k,G8 x.x,I x.n,G8 G_,J U 0 0] 95) _ (aa Bc5.out)).trans Bc5.out);have BvW:=ae (heap_alloc_new w5 (G7 #[I (aS++x.n),GZ G6 x.z,I t,I x.k,G8 x.x,I x.n,G8 G_,J U 0 0] 95));have HBW:=ae (HB5.trans ((aq w5 (G7 #[I (aS++x.n),GZ G6 x.z,I t,I x.k,G8 x.x,I x.n,G8 G_,J U 0 0] 95)).mono HB5.size));have hw5:w.heap.size<=w5.heap.size:=HB5.size;rw[<-hW0] at BcW BvW HBW ⊢;clear hW0 Bc5 HB5;cases hh:hit Vd.n c.vs (aS++x.n);rotate_left
  ·exact vS
  have HH:=ae hh;clear hh;by_cases h8:l3<8;rotate_left
  ·exact vR
  rename_i K0 hK0;refine ba (back:=U) au (List.append_nil _).symm au ?_;refine' Grow.stepC _ rfl ?_ ?_;rotate_left 1
  ·exact eP
  refine' Grow.stepC _ rfl ?_ ?_;rotate_left 1
  ·exact vM
  refine' Grow.stepC _ rfl ?_ ?_;rotate_left 1
  ·exact vh
  refine' Grow.stepC _ rfl ?_ ?_;rotate_left 1
  ·exact pC
  refine' Grow.stepC _ rfl ?_ ?_;rotate_left 1
  ·exact vQ
  refine Grow.step (λv _=>v=GZ G6 (-1)) rfl (Fact.cy _) ?_ ?_
  ·exact xL
  refine' Grow.stepC (G8 G_) rfl ?_ ?_
  ·exact vN
  refine' Grow.stepC _ rfl ?_ ?_;rotate_left 1
  ·exact eP
  refine' Grow.stepC _ rfl ?_ ?_;rotate_left 1
  ·exact vL
  refine' Grow.stepC _ rfl ?_ ?_;rotate_left 1
  ·exact vK
  refine' Grow.stepC _ rfl ?_ ?_;rotate_left 1
  ·exact vj
  refine' Grow.stepC (GZ G6 l3) rfl ?_ ?_
  ·exact vO
  refine Grow.step (λv _=>v=GZ G6 0) rfl (Fact.cy _) ?_ ?_
  ·exact BX
  refine' Grow.stepC _ rfl ?_ ?_;rotate_left 1
  ·exact vP
  refine Grow.done ?_;intro q wy hW hf;simp only[FH] at hf;obtain⟨h13,h103,h102,h101,h100,h99,h98,h97,h96,h95,h94,h93,h92,h91,-⟩:=hf;have HWY:=ae hW;clear hW;refine hK0 _ _ ?_;simp only[aN,F7,Act.put,FF,FL,FM,h13,h103,h102,h101,h100,h99,h98,h97,h96,h95,h94,h93,h92,h91];clear hK0;have Bc6:=upK BcW HWY.out;have Bv6:=upK BvW HWY.out;have HB6:=ae (HBW.trans (HWY.mono HBW.size));have hw6:w5.heap.size<wy.heap.size:=aa Bv6.out;clear HBW HWY BcW BvW;go_wp2_with fail;obtain⟨hxo,hZ1,hZ2,hZ0⟩:=Bm;have hZ3:t.size<=9223372036854775807:=by have h1:=HZN.2.1;omega
  clear hxo;rename_i K0 hK0;refine Gt.aQ au rfl rfl au ?_;refine' Grow.stepC _ rfl ?_ ?_;rotate_left 1
  ·exact eP
  refine' Grow.stepC _ rfl ?_ ?_;rotate_left 1
  ·exact eP
  refine' Grow.stepC _ rfl ?_ ?_;rotate_left 1
  ·exact vt
  refine' Grow.stepC _ rfl ?_ ?_;rotate_left 1
  ·exact vu
  refine' Grow.stepC _ rfl ?_ ?_;rotate_left 1
  ·exact vB
  refine' Grow.stepC _ rfl ?_ ?_;rotate_left 1
  ·exact vC
  refine Grow.step (tI w S (dV c i x t).vs) rfl (tI.mono _ _ _) ?_ ?_
  ·refine Obl.plain rfl ?_;intro ac wg K hsz hW hf hK;clear hsz;have e111:=hf 111 ah;simp[ai,Fo] at e111;have e112:=hf 112 ah;simp[ai,Fo] at e112;clear hf;go_simp;refine (jW a3 l3 y3 c.vs (mkV x t) U 0 0 0 S (λ_=>False) _ (HO.v.below (HB6.trans (hW.mono HB6.size))) af (λq f hf=>?_) (λ_ _ h=>h)).mono ?_
   ·exact Cb
   exact vD
  refine' Grow.stepC _ rfl ?_ ?_;rotate_left 1
  ·exact vv
  refine' Grow.stepC _ rfl ?_ ?_;rotate_left 1
  ·exact vx
  refine Grow.done ?_;intro q wx hW hf;simp only[FH] at hf;obtain⟨h115,h114,h113,h112,h111,h110,h109,h108,h107,-⟩:=hf;obtain⟨q3,m3,z3,hv113,ho7⟩:=h113;have HO7:=ae ho7;have HWX:=upB HB6 hW;have Bc7:=upK Bc6 hW;have Bv7:=upK Bv6 hW;obtain⟨k0,k1,k2,k3,k4,k5⟩:=cs6 Bc7;have hfz:=al Bc7.out 2;have hbl7:=aa Bc7.out;clear ho7 hW;intro K hK;rw[if_pos cQ];simp only[aN,F7,Act.put,FF,FL,FM,h115,h114,h112,h111,h110,h109,h108,h107,hv113];simp only[List.getLast];go_simp;refine hK _ _ ?_;refine hK0 _ _ ?_;clear hK hK0 K K0;clear k0 k1 k2 k3 k4 k5 hfz;have hnb:∀k,(S k\/w.heap.size<=k)->¬k=b:=λk h=>by
   rcases h with h|h
   ·exact (HS.out k h).2
   ·omega
  obtain⟨kp,f1,f2,f4,f5,f3,hB8⟩:=BM;have hv8:(wx.setCell ⟨b,2,U⟩ (J q3 m3 z3)).heap[w5.heap.size]?=F_ (G7 #[I (aS++x.n),GZ G6 x.z,I t,I x.k,G8 x.x,I x.n,G8 G_,J U 0 0] 95 (0,0)):=(Fl _ _ _ _ (show w5.heap.size≠b by omega)).trans Bv7.out;exact xj
def OtP(p:Pd) (t m:ByteArray):Prop:=¬p.d=⟨#[]⟩/\¬p.d=t/\InL p.zs m
theorem iO(d:Ad) (c:Cl) (m s:ByteArray) (w:World) (hr:aE w d c.raw):
  Calls Tryz.prog 159 #[Hc #[J d.a1 d.l1 d.c1,J d.a2 d.l2 d.c2,J d.a3 d.l3 d.c3,J d.a4 d.l4 d.c4,J d.a5 d.l5 d.c5,GZ G6 c.now],I m,I s] w (av (∃(j:Nat) (p:Pd),c.ps[j]?=F_ p/\OtP p s m) w):=by
 obtain⟨a1,l1,y1,a2,l2,y2,a3,l3,y3,a4,l4,y4,a5,l5,y5⟩:=d;dsimp only;have HR:=ae hr.p;obtain⟨hl5,hm5⟩:=jx;clear hr;go_enter Tryz.func159,Tryz.ntmps159;go_wp2;go_loopw [7] (λi wr=> ∃k:Nat,k<=l5/\i=GZ G6 k/\Hid (∀(j:Nat) (p:Pd),j<k->c.ps[j]?=F_ p->¬OtP p s m)/\Hid (Below w.heap.size w wr)/\Hid (wr.heap[w.heap.size]?=F_ (G7 (clo6 a1 l1 y1 a2 l2 y2 a3 l3 y3 a4 l4 y4 a5 l5 y5 c.now) 29 (0,0)))) (λi _=>l5 - (intOf i).toNat);case atStart=>exact⟨0,by omega,rfl,λ_ _ h=>absurd h af,aq _ _,heap_alloc_new _ _⟩
 case round=>
  obtain⟨k,hk,rfl,HE,HB,Bk⟩:=hrel;have ltk:=aa Bk.out;by_cases hlt:k<l5
  ·have hlt2:(k:Int)<(l5:Int):=af
   obtain⟨b,o,p,rfl,hb,hx,hat⟩:=bN (HR.below HB.out) hlt;obtain⟨va,vl,vc,hvr,z0,z2,z4,c0,c1,c2,c3,c4,c5⟩:=aR hat;have HX:=ae hx;have HV:=ae hvr;have k4:=ck4 Bk;clear hat hx hvr z0 z2 z4;by_cases h0:p.d=⟨#[]⟩
   ·have hq:=cC h0;have H0:=ae h0;clear h0;go_wp2;refine⟨⟨k+1,by omega,by go_num,λj z hj hz=>?_,HB.alloc HB.size _,(Fy _ _ _ ltk).trans Bk.out⟩,by simp[intOf];omega⟩;by_cases e:j=k
    ·subst e;rw[HX.out] at hz;obtain rfl:=Fp hz;exact λh=>h.1 H0.out
    ·exact HE.out j z af hz
   have hq0:=bg h0;have H0:=ae h0;clear h0;by_cases h1:p.d=s
   ·have hq:=aW h1;have H1:=ae h1;clear h1;go_wp2;refine⟨⟨k+1,by omega,by go_num,λj z hj hz=>?_,HB.alloc HB.size _,(Fy _ _ _ ltk).trans Bk.out⟩,by simp[intOf];omega⟩;by_cases e:j=k
    ·subst e;rw[HX.out] at hz;obtain rfl:=Fp hz;exact λh=>h.2.1 H1.out
    ·exact HE.out j z af hz
   have hq:=bH h1;have H1:=ae h1;clear h1;go_wp2_with fail;refine (bX va vl vc p.zs m _ (HV.below (aq _ _))).mono ?_;rintro e w1 ⟨r,rfl,hi,hb1⟩;obtain⟨HA0,hbx⟩:=aT hb1;have HI:=ae hi;have HB1:=upB HB hbx;have Bk1:=ae ((hbx.block _ ltk).trans Bk.out);clear hi hb1 hbx HA0 c0 c1 c2 c3 c4 c5 k4;cases r
   ·go_wp2;refine⟨⟨k+1,by omega,by go_num,λj z hj hz=>?_,HB1.out,Bk1.out⟩,by simp[intOf];omega⟩;by_cases e:j=k
    ·subst e;rw[HX.out] at hz;obtain rfl:=Fp hz;exact λh=>by have:=HI.2 h.2.2;cases this
    ·exact HE.out j z af hz
   ·go_wp2;go_ret;exact av.t ⟨k,p,HX.out,H0.out,H1.out,HI.1 bT⟩ HB1.out
  ·obtain rfl:l5=k:=af
   have k4:=ck4 Bk;go_wp2;go_ret;exact av.f (λ⟨j,p,hj,hp⟩=>HE.out j p nB hj hp) HB.out
theorem kA(w:World) (o p q r:Obj):Below w.heap.size w ((((w.alloc o).alloc p).alloc q).alloc r):=(cI w o p q).alloc (by simp;omega) r
theorem zW(sv:Vd->Bool) (acc:Option Vd) (v:Vd):stepB sv acc v=F_ v\/stepB sv acc v=acc:=by
 unfold stepB;exact (Decidable.em _).elim (λh=>He (if_pos h)) (λh=>Hd (if_neg h))
theorem so(sv:Vd->Bool) {u:Vd} :∀(vs:List Vd) (acc:Option Vd),vs.foldl (stepB sv) acc=F_ u->acc=F_ u\/u∈vs
 | [],acc,h=>He h
 | v ::vs,acc,h=>by
  have h2:=zW sv acc v;rcases so sv vs (stepB sv acc v) h with h1|h1
  ·rcases h2 with h2|h2
   ·rw[h2] at h1;exact Hd (by rw[Fp h1];exact GL ..)
   ·rw[h2] at h1;exact He h1
  ·exact Hd (List.mem_cons_of_mem _ h1)
theorem zy {sv:Vd->Bool} {vs:List Vd} {u:Vd} (h:eN sv vs=F_ u):∃j:Nat,vs[j]?=F_ u:=by
 rcases so sv vs U h with h1|h1
 ·cases h1
 ·exact FV h1
end Rc
end Go.Proofs.YtiplhgedmjoliaaGreatDoor
