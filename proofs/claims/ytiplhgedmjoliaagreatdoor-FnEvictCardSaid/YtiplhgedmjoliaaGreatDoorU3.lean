import Derived.Test.YtiplhgedmjoliaaGreatDoorU2
import Derived.Test.YtiplhgedmjoliaaGreatDoorRows
import Derived.WalkKit
import Derived.WalkSpells
import Derived.OwnWalk
import Derived.Outline
import Derived.Laws.Cover1
import Derived.Lib.BufferWrite
import Derived.Laws.CopyOwn
import Derived.Deep.QuietTactic
import Derived.BigQuiet
import Derived.WalkSmall
import Derived.Laws.AppendOwn
import Derived.Laws.AppendOwnNone
import Derived.Deep.AppendLies
import Derived.Deep.RegionWith
import Derived.LaidEql
import Derived.Stop.Asserts
import Derived.RowKitTokens
/-
 What NameRight of the program and of the specification answer: yes just where a text is a name: 1 to 20 bytes, the first a lower letter, the others lower letters, digits or '_'; at every text.
-/
set_option maxRecDepth 100000
set_option maxHeartbeats 12800000
open Bool renaming false→G_,true→Hb
open Go.Ending renaming returned→Ha
open Go.IntKind renaming i64→G6
open Go.Obj renaming cells→G7
open Go.Value renaming string→I,slice→J,int→GZ,bool→G8,agg→Hc,pointer→Hf,tuple→Hg
open Option renaming none→U,some→F_
open Or renaming inr→Hd,inl→He
open And renaming intro→Fk
open Array renaming getElem?_push_size→Fs, getD_eq_getD_getElem?→FD, getElem?_eq_some_iff→FJ
open Bool renaming and_eq_true→FU, eq_false_or_eq_true→Gq
open Go.Addr renaming add_lit→FC
open Go.Calls renaming quiet_of_same→FP
open Go.Lib renaming toList_data→GM
open Go.Op renaming bytesLess→Fx
open Go.RowKit.Below renaming heap_setCell→Fl, refl→Ft, heap_alloc→Fy, alloc→GF
open Go.Value renaming string→Fz, ownBlock→FX
open Go.World renaming setCell→Gb, cell?→Gc, ownsRow_nil→Gj
open List renaming getElem?_eq_some_iff→Fm, lookup→Fo, getElem?_eq_getElem→Fu, length_map→FB, setIfInBounds_toArray→FF, getElem?_map→FG, forall_mem_cons→FH, getElem?_append_left→FI, mem_of_getElem?→FK, set_cons_zero→FL, set_cons_succ→FM, drop_eq_nil_of_le→FN, getElem?_take→FQ, take_of_length_le→FT, getElem?_of_mem→FV, length_take→FW, take_add_one→FZ, foldr→F7, getElem?_eq_none→Gh, not_mem_nil→Gl
open Nat renaming le_refl→Fq, lt_of_lt_of_le→Fw, le_trans→FA, zero_add→FE, le_succ→FO, zero_le→FY, le_of_lt→Gz
open Option renaming map_eq_some_iff→FR
open Option.some renaming inj→Fp
open Prod.mk renaming injEq→GU
namespace Go.Proofs.YtiplhgedmjoliaaGreatDoor
variable {p:Prop}
namespace Mk
end Mk
open Go.RowKit Mk Go.Extern.Stop Go.Stop Go.Extern
variable {α β:Type} {E:Nat->Addr} {H:Nat->Nat->Nat} {P f:Nat->Nat} {S:Nat->Prop} {c:Rc.Cr} {d:Rc.Ad} {k:Nat} {vss:List (List Value)} {w w':World} {xs ys:List α}
theorem fb(h:p:=by rcases s with s|s <;> omega):p:=h
theorem ur(h:p:=by simp[results,Tryz.results154,go_sem, *]):p:=h
theorem CL(h:p:=by
 obtain⟨k0,k1,k2,k3,k4,k5⟩:=cs6 Bk;obtain⟨p0,p1,p2,p3,p4,p5⟩:=cs6 Bp;have ltp_1:=aa Bp.out;go_wp2;go_loopw [35] (λi wr=> ∃k:Nat,k<=pl/\i=GZ G6 k/\Hid (∀(j:Nat) t,j<k->p.zs[j]?=F_ t->∃v,bh c t v/\v.z=n.z)/\Hid (Below w.heap.size w wr)/\Hid (wr.heap[w.heap.size]?=F_ (G7 (clv d c.now) 29 (0,0)))/\Hid (wr.heap[w1.heap.size]?=F_ (G7 (nov n va vl vc) 38 (0,0)))) (λi _=>pl - (intOf i).toNat);case atStart=>exact⟨0,by omega,rfl,λ_ _ h=>absurd h af,HB.alloc HB.size _,(Fy _ _ _ (aa Bk.out)).trans Bk.out,Fs⟩
 case round=>
  obtain⟨k,hk,rfl,HQ,HB,Bk,Bn⟩:=hrel;by_cases hlt:k<pl
  ·obtain⟨b,o,t,rfl,hb,hx,hc,hsz⟩:=(HP.below HB.out).at hlt;have HXt:=ae hx;clear hx hsz;obtain⟨k0,k1,k2,k3,k4,k5⟩:=cs6 Bk;obtain⟨n0,n1,n2,n3,n4,n5,n6⟩:=cs7 Bn;go_wp2_with fail;refine (sh d c t w _ HR.out HB.out HX.out HV.out HNE.out).mono ?_;rintro e w2 ⟨hb2,hf⟩;clear k0 k1 k2 k3 k4 k5 n0 n1 n2 n3 n4 n5 n6;replace Bk:=upK Bk hb2;replace Bn:=upK Bn hb2;replace HB:=upB HB hb2;clear hb2;clear hb hc;rcases hf with ⟨v,xa,xl,xc,hbd,rfl,z0,z2,hxr⟩|⟨hbd,rfl⟩;rotate_left
   ·exact wT
   have HD:=ae hbd;clear hbd hxr z0 z2;by_cases hz2:v.z=n.z
   ·have q3:=aW hz2;have HZ2:=ae hz2;clear hz2;obtain⟨k0,k1,k2,k3,k4,k5⟩:=cs6 Bk;obtain⟨n0,n1,n2,n3,n4,n5,n6⟩:=cs7 Bn;have ltn_1:=aa Bn.out;go_wp2_with fail;refine⟨⟨k+1,by omega,by go_num,λj s hj hs=>?_,(HB.alloc HB.size _),(Fy _ _ _ (aa Bk.out)).trans Bk.out,(Fy _ _ _ (aa Bn.out)).trans Bn.out⟩,by simp[intOf];omega⟩;by_cases e:j=k
    ·subst e;rw[HXt.out] at hs;obtain rfl:=Fp hs;exact⟨v,HD.out,HZ2.out⟩
    ·exact HQ.out j s af hs
   ·have q3:=bH hz2;have HZ2:=ae hz2;clear hz2;obtain⟨k0,k1,k2,k3,k4,k5⟩:=cs6 Bk;obtain⟨n0,n1,n2,n3,n4,n5,n6⟩:=cs7 Bn;have ltn_1:=aa Bn.out;go_wp2;go_ret;refine av.f (λ⟨i,m,e1,e2,e3,e4⟩=>?_) (HB.alloc HB.size _);obtain⟨_,rfl⟩:=HN.inj e1 HX1.out (e2.trans HN1.symm);obtain⟨v',e5,e6⟩:=e4 k t HXt.out;obtain rfl:=bh.inj HX.out HV.out HD.out e5;exact HZ2.out e6
  ·exact wI):p:=h
theorem nY(h:p:=by
 go_wp2_with fail;refine⟨⟨k+1,x.n,by omega,rfl,by go_num,λh=>absurd h af,λz _ hz=>?_,λj z hj hz=>?_,λj z u hj hz hu=>?_,HB4.out⟩,by simp[intOf];omega⟩
 ·rw[Nat.add_sub_cancel,HX.out] at hz;rw[Fp hz]
 ·by_cases e:j=k
  ·subst e;rw[HX.out] at hz;obtain rfl:=Fp hz;exact HOK.out
  ·exact HE.out j z af hz
 ·by_cases e:j+1=k
  ·subst e;rw[HX.out] at hz;obtain rfl:=Fp hz;have:=H1.out u af (by rw[Nat.add_sub_cancel];exact hu);rw[this];exact hless
  ·exact HO.out j z u af hz hu):p:=h
theorem nU(h:p:=by
 rw[hless] at htri;go_wp2;go_ret;refine av.f (λh=>?_) HB3.out;by_cases hk0:0<k
 ·have hz:xs[k - 1]?=F_ (xs[k - 1]'(by omega)):=Fu _;have h2:=H1.out _ hk0 hz;have h3:=h.2.2 (k - 1) x _ (by rw[Nat.sub_add_cancel hk0];exact HX.out) hz;rw[h2,hless] at h3;cases h3
 ·have:=H0.out af;subst this;have hnm:=HOK.1.1;rw[om hnm] at hless;cases hless):p:=h
theorem nT(h:p:=by
 obtain rfl:k=len:=af
 go_wp2;go_ret;refine av.t ⟨by omega,λj z hz=>HE.out j z da hz,λj z u hz hu=>HO.out j z u da hz hu⟩ HB.out):p:=h
theorem vm(h:p:=by
 rw[hs] at c4;clear hs;obtain⟨k0,k1,k2,k3,k4,k5⟩:=cs6 Bk;have ltk_0:=aa Bk.out;go_wp2;refine⟨⟨k+1,by omega,by go_num,λj z hj hz=>?_,(HB.alloc HB.size _),(Fy _ _ _ (aa Bk.out)).trans Bk.out⟩,by simp[intOf];omega⟩;by_cases e:j=k
 ·subst e;rw[HXv.out] at hz;obtain rfl:=Fp hz;exact λh1 h2=>by rcases HCs.out with h|h;(rw[h] at h1;cases h1);exact absurd h h2
 ·exact HQ.out j z af hz):p:=h
theorem nS(h:p:=by
 go_wp2_with fail;refine⟨⟨k+1,by omega,by go_num,λj y hj hy=>?_,HB2.out⟩,by simp[intOf];omega⟩;by_cases e:j=k
 ·subst e;rw[HX.out] at hy;obtain rfl:=Fp hy;exact hless
 ·exact HE.out j y af hy):p:=h
theorem CC(h:p:=by
 have F3:Hid (∀w,Calls Tryz.prog 186 #[I k] w λe w'=>e=Ha (G8 G_)/\w'=w):=λw=>(bj k w hk).mono λ_ _ h=>h.no p3;have HP:=ae p3;clear p3;go_enter Tryz.func204,Tryz.ntmps204;go_wp2_with fail;go_quiet ((first|(go_at_call_of 186 (Fz n);exact FP (F0.out _))|(go_at_call_of 72 (Value.int G6 c);exact FP (F1.out _))|(go_at_call_of 186 (Fz z);exact FP (F2.out _))|(go_at_call_of 186 (Fz k);exact FP (F3.out _))));go_wp2_with fail;go_ret;exact⟨G_,rfl,⟨λh=>bY,λh=>(HP.out (h.2.2.2.1)).elim⟩,below_drewN (aq _ _) _⟩):p:=h
theorem CB(h:p:=by
 have F2:Hid (∀w,Calls Tryz.prog 186 #[I z] w λe w'=>e=Ha (G8 G_)/\w'=w):=λw=>(bj z w hz).mono λ_ _ h=>h.no p2;have HP:=ae p2;clear p2;go_enter Tryz.func204,Tryz.ntmps204;go_wp2_with fail;go_quiet ((first|(go_at_call_of 186 (Fz n);exact FP (F0.out _))|(go_at_call_of 72 (Value.int G6 c);exact FP (F1.out _))|(go_at_call_of 186 (Fz z);exact FP (F2.out _))));go_wp2_with fail;go_ret;exact⟨G_,rfl,⟨λh=>bY,λh=>(HP.out (h.2.2.1)).elim⟩,below_drewN (aq _ _) _⟩):p:=h
theorem Cz(h:p:=by
 have F1:Hid (∀w,Calls Tryz.prog 72 #[GZ G6 c,GZ G6 1,GZ G6 1048576] w λe w'=>e=Ha (G8 G_)/\w'=w):=λw=>(cg c 1 1048576 w).mono λ_ _ h=>h.no p1;have HP:=ae p1;clear p1;go_enter Tryz.func204,Tryz.ntmps204;go_wp2_with fail;go_quiet ((first|(go_at_call_of 186 (Fz n);exact FP (F0.out _))|(go_at_call_of 72 (Value.int G6 c);exact FP (F1.out _))));go_wp2_with fail;go_ret;exact⟨G_,rfl,⟨λh=>bY,λh=>(HP.out (h.2.1)).elim⟩,below_drewN (aq _ _) _⟩):p:=h
theorem nP(h:p:=by
 rintro e w1 ⟨r,rfl,hr1,hb⟩;have HB:=ae (cX hb).2.1;have HI:=ae hr1;clear hb hr1;go_wp2;go_ret;exact⟨r,rfl,HI.out,HB.out⟩):p:=h
theorem uW(h:p:=by
 rw[<-e1] at hV;have HV3:=ae hV;have HB3:=ae ((HB.trans (hb23.mono hBs)).grown hgrow bD (λg hg=>(HO2.lt g hg).1));clear hown3 hgrow hb23 hV e1;go_wp2;exact⟨⟨k+1,_,_,by omega,by go_num,HO3,HV3,HB3⟩,by simp[intOf];omega⟩):p:=h
theorem Ce(h:p:=by
 have F0:Hid (∀w,Calls Tryz.prog 186 #[I n] w λe w'=>e=Ha (G8 G_)/\w'=w):=λw=>(bj n w hn).mono λ_ _ h=>h.no p0;have HP:=ae p0;clear p0;go_enter Tryz.func204,Tryz.ntmps204;go_wp2_with fail;go_quiet ((first|(go_at_call_of 186 (Fz n);exact FP (F0.out _))));go_wp2_with fail;go_ret;exact⟨G_,rfl,⟨λh=>bY,λh=>(HP.out (h.1)).elim⟩,below_drewN (aq _ _) _⟩):p:=h
theorem ig(h:p:=by
 rintro e w' ⟨rfl,rfl⟩;go_wp2;go_ret;exact⟨rfl,rfl⟩):p:=h
theorem nM(h:p:=by
 go_wp2;go_ret;exact av.f (λh=>by have:=HI.2 (h.2.1 k x HX.out);cases this) HB2.out):p:=h
theorem BU(h:p:=by
 have HH:=ae hh;clear hh;obtain⟨k0,k1,k2,k3,k4,k5⟩:=cs6 Bk;obtain⟨p0,p1,p2,p3,p4,p5⟩:=cs6 Bp;have ltp_1:=aa Bp.out;go_wp2;go_ret;refine av.f (λ⟨i,n,e1,e2,_⟩=>?_) (HB.alloc HB.size _);have:=(bl HN.out e1 e2).2;rw[HH.out] at this;cases this):p:=h
theorem ke(h:p:=by
 go_wp2;go_ret;exact av.f (λh=>by have:=h.1;omega) (Ft _ _)):p:=h
theorem yG(h:p:=by
 go_wp2_with fail;refine⟨⟨k+1,by omega,by go_num,λj z hj hz=>?_,HB.out,Bk.out⟩,by simp[intOf];omega⟩;by_cases e:j=k
 ·subst e;rw[HXn.out] at hz;obtain rfl:=Fp hz;exact hq
 ·exact HQ.out j z af hz):p:=h
theorem yF(h:p:=by
 obtain⟨x0,x1,x2,x3,x4⟩:=cs5 Bx;have ltx_2:=aa Bx.out;go_wp2;go_ret;refine av.f (λ⟨i,j,x',v',e1,e2,e3,e4,_⟩=>?_) (HB.alloc HB.size _);have:=(bl HX.out e1 e2).2;rw[HH1.out] at this;cases this):p:=h
theorem yD(h:p:=by
 exact ak (FO _) (ak (FO _) (ak (FO _) (ak (FO _) (ak (FO _) (ak (FO _) (ak (FO _) (ak (FO _) (HB.out))))))))):p:=h
theorem pU(h:p:=by
 rintro e w6 ⟨a',c',rfl,ho,hb6⟩;exact hK _ _ hb6 ⟨a',c',rfl,ho.bI (λk hk s=>⟨s,hk⟩),Below.size hW⟩):p:=h
theorem yq(h:p:=by
 exact ak (FO _) (ak (FO _) (ak (FO _) (ak (FO _) (ak (FO _) (ak (FO _) (ak (FO _) (HB.out)))))))):p:=h
theorem pT(h:p:=by
 rw[hl5] at HR5;rw[hl5];clear h5 hR HV HO;go_wp2;go_ret;exact⟨a',c',rfl,HR5.out,HB.out⟩):p:=h
theorem pS(h:p:=by
 obtain rfl:=Fp hz;exact⟨HH.out,Hd (HI.1 bT)⟩):p:=h
theorem yb(h:p:=by
 exact ak (FO _) (ak (FO _) (ak (FO _) (ak (FO _) (ak (FO _) (HB.out)))))):p:=h
theorem xX(h:p:=by
 go_wp2_with fail;go_ret;exact⟨G_,rfl,⟨λh=>bY,λh=>(HP.out (h.2.2.2.2.1)).elim⟩,below_drewN (aq _ _) _⟩):p:=h
theorem xP(h:p:=by
 obtain⟨k0,k1,k2,k3,k4,k5⟩:=cs6 Bk;go_wp2;go_ret;exact av.f (λh=>by have:=HI4.2 h.2.2.2.1;cases this) HB.out):p:=h
theorem xJ(h:p:=by
 obtain⟨k0,k1,k2,k3,k4,k5⟩:=cs6 Bk;go_wp2;go_ret;exact av.f (λh=>by have:=HI3.2 h.2.2.1;cases this) HB.out):p:=h
theorem xG(h:p:=by
 exact ak (FO _) (ak (FO _) (ak (FO _) (ak (FO _) (HB.out))))):p:=h
theorem xF(h:p:=by
 go_enter Tryz.func79,Tryz.ntmps79;go_wp2;refine wp_loop_rounds 1 ?_;rw[rounds_succ];go_wp2;go_ret;exact⟨rfl,rfl⟩):p:=h
theorem pN(h:p:=by
 obtain rfl:=Fp hz;exact⟨HH.out,He HEm.out⟩):p:=h
theorem jb(h:p:=by
 refine Gi.Obl.plain rfl ?_;intro ac wg K lo hi hsz hW hpr hf hap hK;clear hsz hap hpr;have e1:=hf 1 ah;simp[Gi.ai,Fo] at e1;clear hf;exact aO):p:=h
theorem iW(h:p:=by
 clear hf;obtain⟨k0,k1,k2,k3,k4,k5⟩:=cs6 ((Below.block hW _ (aa Bk.out)).trans Bk.out);exact aO):p:=h
theorem wT(h:p:=by
 have HD:=ae hbd;clear hbd;obtain⟨k0,k1,k2,k3,k4,k5⟩:=cs6 Bk;obtain⟨n0,n1,n2,n3,n4,n5,n6⟩:=cs7 Bn;have ltn_1:=aa Bn.out;go_wp2;go_ret;refine av.f (λ⟨i,m,e1,e2,e3,e4⟩=>?_) (HB.alloc HB.size _);obtain⟨v,e5,_⟩:=e4 k t HXt.out;exact HD.out v e5):p:=h
theorem wI(h:p:=by
 obtain rfl:pl=k:=af
 go_wp2;go_ret;exact av.t ⟨_,n,HX1.out,HN1.out,HC.out,λj t ht=>HQ.out j t rH ht⟩ HB.out):p:=h
theorem pF(h:p:=by
 show World.ownsRow _ _ _ _ _ _ _;rw[List.flatten_append];simpa using hown3):p:=h
theorem nL(h:p:=by
 have hbw:=Fw hbl HRW.size;have e0:=(aj hb1 hbw).trans ((aj HRW.out hbl).trans c0);have e1:=(aj hb1 hbw).trans ((aj HRW.out hbl).trans c1);have e2:=(aj hb1 hbw).trans ((aj HRW.out hbl).trans c2);have e3:=(aj hb1 hbw).trans ((aj HRW.out hbl).trans c3);exact Fk hbw (Fk e0 (Fk e1 (Fk e2 e3)))):p:=h
theorem ie(h:p:=by
 have HE:=ae h;have v0:=h.v0;have v1:=h.v1;have v2:=h.v2;have v3:=h.v3;have v4:=h.v4;have v5:=h.v5;have v6:=h.v6;have v7:=h.v7;have v8:=h.v8;have v9:=h.v9;exact Fk HE (Fk v0 (Fk v1 (Fk v2 (Fk v3 (Fk v4 (Fk v5 (Fk v6 (Fk v7 (Fk v8 v9)))))))))):p:=h
theorem ib(h:p:=by
 have d0:=ck0 g1;have f0:=al g1 0;have d1:=ck1 g1;have f1:=al g1 1;have d2:=ck2 g1;have f2:=al g1 2;have d3:=ck3 g1;have f3:=al g1 3;exact Fk d0 (Fk f0 (Fk d1 (Fk f1 (Fk d2 (Fk f2 (Fk d3 f3))))))):p:=h
theorem nJ(h:p:=by
 have HB3:=ae (HB2.trans (hb2.mono (FA HB.size (FA (FO _) hs1))));have g2:=(hb2.block wr.heap.size af).trans HG.out;have hs2:=hb2.size;have htri:=fP y.toList x.n.toList;exact Fk HB3 (Fk g2 (Fk hs2 htri))):p:=h
theorem gG(h:p:=by
 have HR:=ae hr;have hxl:xs.length=len:=eu
 have hlc:=FA hr.2.1 hr.2.2.1;exact Fk HR (Fk hxl hlc)):p:=h
theorem gF(h:p:=by
 have HB2:=upB HB1 hb1;have d0:=ck0 g1;have d1:=ck1 g1;have d2:=ck2 g1;have d3:=ck3 g1;exact Fk HB2 (Fk d0 (Fk d1 (Fk d2 d3)))):p:=h
theorem nH(h:p:=by
 have HB3:=ae (HB2.trans (hb2.mono (FA HB.size (FA (FO _) hs1))));have hp:=lA HE.out HX.out hless;exact Fk HB3 hp):p:=h
theorem Bz(h:p:=by
 have GK:=ae ((Fy wr (G7 (nov n va vl vc) 38) _ (aa Bk.out)).trans Bk.out);have GR:Hid ((wr.alloc (G7 (nov n va vl vc) 38)).heap[wr.heap.size]?=F_ (G7 (nov n va vl vc) 38 (0,0))):=Fs;have HW:=ae (HB.trans ((aq wr (G7 (nov n va vl vc) 38)).mono HB.size));exact Fk GK (Fk GR HW)):p:=h
theorem Bu(h:p:=by
 have h8:=@run_callFunc_extern Tryz.prog 133 _ Extern.ReflectliteType.typeOf Tryz.func133 au au au au;have h32:=@run_callFunc_extern Tryz.prog 218 _ Eh Tryz.func218 au au au au;have tT:=za;have cT:=me;have mR:=gO;exact Fk h8 (Fk h32 (Fk tT (Fk cT mR)))):p:=h
theorem uz(h:p:=by
 have e4:=(aj hb1 hbw).trans ((aj HRW.out hbl).trans c4);have e5:=(aj hb1 hbw).trans ((aj HRW.out hbl).trans c5);exact Fk e4 e5):p:=h
theorem uy(h:p:=by
 have HG:=ae hg;have HX2:=ae hbx;have HO2:=ae (cw HO.out hbx);have hs2:wr.heap.size<w2.heap.size:=by have:=hb2.size;rw[cB] at this;omega
 exact Fk HG (Fk HX2 (Fk HO2 hs2))):p:=h
theorem ux(h:p:=by
 have fr0:=al Bs.out 0;have fr1:=al Bs.out 1;have fr2:=al Bs.out 2;have fr3:=al Bs.out 3;have fr4:=al Bs.out 4;have fr5:=al Bs.out 5;have fr6:=al Bs.out 6;have fr7:=al Bs.out 7;exact Fk fr0 (Fk fr1 (Fk fr2 (Fk fr3 (Fk fr4 (Fk fr5 (Fk fr6 fr7))))))):p:=h
theorem nD(h:p:=by
 have HR:=ae hr;have HRW:=ae hrw;have hxl:xs.length=len:=eu
 exact Fk HR (Fk HRW hxl)):p:=h
theorem rL(h:p:=by
 have d4:=ck4 g1;have f4:=al g1 4;have d5:=ck5 g1;have f5:=al g1 5;have d6:=ck6 g1;have f6:=al g1 6;exact Fk d4 (Fk f4 (Fk d5 (Fk f5 (Fk d6 f6))))):p:=h
theorem o6(h:p:=by
 have hz8:vl<=8001:=by have h1:=hvr.1;have h2:=HS.out k x hx;omega
 have HX:=ae hx;have HT:=ae hvr;have HZz0:=ae z0;exact Fk hz8 (Fk HX (Fk HT HZz0))):p:=h
theorem nu {a b:Bool} (h:a=b):Ending.returned (G8 a)=Ha (G8 b):=by rw[h]
theorem sd(b:Int) (w:World):
  Calls Tryz.prog 188 #[GZ .u8 b] w λe w'=>e=Ha (G8 (kK b))/\w=w':=by
 go_enter Tryz.func188,Tryz.ntmps188;go_wp2;all_goals (go_ret;exact⟨nu (by unfold kK;rw[Bool.eq_iff_iff];simp;omega),rfl⟩)
theorem yS(b:Int) (w:World):
  Calls Tryz.prog 189 #[GZ .u8 b] w λe w'=>e=Ha (G8 (nbB b))/\w=w':=by
 go_enter Tryz.func189,Tryz.ntmps189;go_wp2;all_goals (go_ret;exact⟨nu (by unfold nbB kK AB;rw[Bool.eq_iff_iff];simp;omega),rfl⟩)
theorem bj(s:ByteArray) (w:World) (hs:s.size<=9223372036854775807):
  Calls Tryz.prog 186 #[I s] w (cO (aV s) w):=by
 by_cases h1:s.size<1
 ·go_enter Tryz.func186,Tryz.ntmps186;exact lV
 by_cases h2:20<s.size
 ·go_enter Tryz.func186,Tryz.ntmps186;exact lV
 have h0:0<s.size:=af
 cases hl:kK ((s[0]'h0).toNat:Int)
 ·have HC:Hid (∀w,Calls Tryz.prog 188 #[GZ .u8 ((s[0]'h0).toNat:Int)] w λe w'=>e=Ha (G8 G_)/\w=w'):=λw=>by rw[<-hl];exact sd _ w
  have HB:Hid (okB 0 ((s[0]'h0).toNat:Int)=G_):=hl;clear hl;go_enter Tryz.func186,Tryz.ntmps186;go_wp2_with (go_at_call 188;refine (HC.out _).mono ?_;rintro e w1 ⟨rfl,rfl⟩);go_ret;exact⟨G_,rfl,ir h0 HB.out,rfl⟩
 ·have HC:Hid (∀w,Calls Tryz.prog 188 #[GZ .u8 ((s[0]'h0).toNat:Int)] w λe w'=>e=Ha (G8 Hb)/\w=w'):=λw=>by rw[<-hl];exact sd _ w
  have HB:Hid (okB 0 ((s[0]'h0).toNat:Int)=Hb):=hl;clear hl;go_enter Tryz.func186,Tryz.ntmps186;go_wp2_with (go_at_call 188;refine (HC.out _).mono ?_;rintro e w1 ⟨rfl,rfl⟩);go_loop [3] (λi=> ∃k:Nat,1<=k/\k<=s.size/\i=GZ G6 k/\∀i (h:i<s.size),i<k->okB i ((s[i]'h).toNat:Int)=Hb) (λi=>s.size - (intOf i).toNat);case atStart=>exact⟨1,by omega,by omega,rfl,λi _ h=>by obtain rfl:i=0:=af;exact HB.out⟩
  case round=>
   obtain⟨k,hk1,hk,rfl,hall⟩:=hrel;have HA:Hid (∀i (h:i<s.size),i<k->okB i ((s[i]'h).toNat:Int)=Hb):=hall;clear hall HC HB;by_cases hlt:k<s.size
   ·cases hok:nbB ((s[k]'hlt).toNat:Int)
    ·have HC:Hid (∀w,Calls Tryz.prog 189 #[GZ .u8 ((s[k]'hlt).toNat:Int)] w λe w'=>e=Ha (G8 G_)/\w=w'):=λw=>by rw[<-hok];exact yS _ w
     have HB:Hid (okB k ((s[k]'hlt).toNat:Int)=G_):=by unfold okB;rw[if_neg af];exact hok
     clear hok;go_wp2_with (go_at_call 189;refine (HC.out _).mono ?_;rintro e w1 ⟨rfl,rfl⟩);go_ret;exact⟨G_,rfl,ir hlt HB.out,rfl⟩
    ·have HC:Hid (∀w,Calls Tryz.prog 189 #[GZ .u8 ((s[k]'hlt).toNat:Int)] w λe w'=>e=Ha (G8 Hb)/\w=w'):=λw=>by rw[<-hok];exact yS _ w
     have HB:Hid (okB k ((s[k]'hlt).toNat:Int)=Hb):=by unfold okB;rw[if_neg af];exact hok
     clear hok;go_wp2_with (go_at_call 189;refine (HC.out _).mono ?_;rintro e w1 ⟨rfl,rfl⟩);go_round;case rel=>exact⟨k+1,by omega,by omega,by go_num,lC hlt HB.out HA.out⟩
     case measure=>simp[intOf];omega
   ·exact xK
theorem om {x:ByteArray} (h:1<=x.size):Fx (⟨#[]⟩:ByteArray).toList x.toList=Hb:=by
 rw[GM,GM];rw[Lib.size_eq] at h;cases e:x.data.toList with
 | nil=>rw[e] at h;simp at h
 | cons a l=>rfl
theorem fs(a:Option Addr) (len cap:Nat) (zs:List ByteArray) (most:Int) (w:World) (hr:aD w a len cap zs):
  Calls Tryz.prog 187 #[J a len cap,GZ G6 most] w (cO (ed zs most) w):=by
 have HR:Hid (aD w a len cap zs):=hr;have hlc:=FA hr.2.1 hr.2.2.1;have hzl:=hr.1;clear hr;by_cases hm:most<(len:Int)
 ·go_enter Tryz.func187,Tryz.ntmps187;go_wp2;go_ret;exact⟨G_,rfl,⟨λh=>bY,λh=>absurd h.1 af⟩,rfl⟩
 go_enter Tryz.func187,Tryz.ntmps187;go_wp2;go_loop [5,14] (λp i=> ∃(k:Nat) (y:ByteArray),k<=len/\p=I y/\i=GZ G6 k/\Hid (k=0->y=⟨#[]⟩)/\Hid (0<k->zs[k - 1]?=F_ y)/\Hid (gR (zs.take k))) (λ_ i=>len - (intOf i).toNat);case atStart=>exact⟨0,_,by omega,rfl,rfl,λ_=>rfl,λh=>absurd h af,λi x h=>by simp at h⟩
 case round=>
  obtain⟨k,y,hk,rfl,rfl,H0,H1,HE⟩:=hrel;by_cases hlt:k<len
  ·obtain⟨b,o,x,rfl,hb,hx,hc,hsz⟩:=HR.at hlt;by_cases hn:aV x
   ·have HY:Hid (∀w,Calls Tryz.prog 186 #[I x] w λe w'=>e=Ha (G8 Hb)/\w'=w):=λw=>(bj x w hsz).mono λ_ _ h=>h.yes hn;have htri:=fP y.toList x.toList;cases hless:Fx y.toList x.toList
    ·rw[hless] at htri;go_wp2_with (go_at_call 186;refine (HY.out _).mono ?_;rintro e w1 ⟨rfl,rfl⟩);go_ret;refine⟨G_,rfl,⟨λh=>bY,λh=>?_⟩,rfl⟩;by_cases hk0:0<k
     ·exact absurd ((h.2 k x hx).2 y hk0 (H1.out hk0)) (by rw[hless];decide)
     ·have:=H0.out af;subst this;rw[om hn.1] at hless;cases hless
    ·rw[hless] at htri;go_wp2_with (go_at_call 186;refine (HY.out _).mono ?_;rintro e w1 ⟨rfl,rfl⟩);refine⟨⟨k+1,x,by omega,rfl,by go_num,λh=>absurd h af,λ_=>hx,HE.step hx hn (λy' h0 hy'=>?_)⟩,by simp[intOf];omega⟩;rw[H1.out h0] at hy';obtain rfl:=Fp hy';exact hless
   ·have HY:Hid (∀w,Calls Tryz.prog 186 #[I x] w λe w'=>e=Ha (G8 G_)/\w'=w):=λw=>(bj x w hsz).mono λ_ _ h=>h.no hn;go_wp2_with (go_at_call 186;refine (HY.out _).mono ?_;rintro e w1 ⟨rfl,rfl⟩);go_ret;exact⟨G_,rfl,⟨λh=>bY,λh=>absurd (h.2 k x hx).1 hn⟩,rfl⟩
  ·obtain rfl:k=len:=af
   have hR:=HE.out;rw[FT af] at hR;go_wp2;go_ret;exact⟨Hb,rfl,⟨λ_=>⟨by omega,hR⟩,λ_=>rfl⟩,rfl⟩
theorem cg(n a b:Int) (w:World):
  Calls Tryz.prog 72 #[GZ G6 n,GZ G6 a,GZ G6 b] w (cO (Inn n a b) w):=by
 go_enter Tryz.func72,Tryz.ntmps72;go_wp2;all_goals (go_ret;exact⟨_,rfl,by unfold Inn;simp;omega,rfl⟩)
theorem iN {w1:World} {vs:Array Value} {T:TypeId} (hb:Below (w.alloc (G7 vs T)).drew.heap.size (w.alloc (G7 vs T)).drew w1):
  w1.heap[w.heap.size]?=F_ (G7 vs T (0,0))/\Below w.heap.size w w1/\w.heap.size<w1.heap.size:=cX ⟨hb.os,hb.tape,hb.output,hb.size,hb.block⟩
theorem dD(s:ByteArray) (w:World) (hs:s.size<=9223372036854775807):
  Calls Tryz.prog 193 #[I s] w (cO (df s) w):=by
 by_cases h0:s=⟨#[]⟩
 ·subst h0;go_enter Tryz.func193,Tryz.ntmps193;go_wp2;go_ret;exact⟨_,rfl,by unfold df;simp,rfl⟩
 ·have hq:=bg h0;go_enter Tryz.func193,Tryz.ntmps193;go_wp2_with (go_at_call 186;refine (bj _ _ hs).mono ?_;rintro e w1 ⟨r,rfl,hr,rfl⟩);go_ret;exact⟨r,rfl,by unfold df;simp[h0,hr],rfl⟩
theorem tx(n z:ByteArray) (c s u:Int) (d:Bool) (a:Option Addr) (len cap:Nat) (zs:List ByteArray) (w:World) (hn:n.size<=9223372036854775807) (hz:z.size<=9223372036854775807) (hr:aD w a len cap zs):
  Calls Tryz.prog 185 #[Hc #[I n,I z,GZ G6 c,GZ G6 s,GZ G6 u,G8 d,J a len cap]] w (av (qU n z c s u zs) w):=by
 have HR:Hid (aD w a len cap zs):=hr;clear hr;go_enter Tryz.func185,Tryz.ntmps185;go_wp2_with fail;refine (bj n _ hn).mono ?_;rintro e w1 ⟨r,rfl,hr,rfl⟩;by_cases hq:r=Hb;case neg=>
  exact fL
 have h0:=ae (hr.1 hq);subst hq;clear hr;go_wp2_with fail;refine (bj z _ hz).mono ?_;rintro e w1 ⟨r,rfl,hr,rfl⟩;by_cases hq:r=Hb;case neg=>
  exact ij
 have h1:=ae (hr.1 hq);subst hq;clear hr;go_wp2_with fail;refine (cg c 0 1000000 _).mono ?_;rintro e w1 ⟨r,rfl,hr,rfl⟩;by_cases hq:r=Hb;case neg=>
  exact ik
 have h2:=ae (hr.1 hq);subst hq;clear hr;go_wp2_with fail;refine (cg s 0 8 _).mono ?_;rintro e w1 ⟨r,rfl,hr,rfl⟩;by_cases hq:r=Hb;case neg=>
  exact lx
 have h3:=ae (hr.1 hq);subst hq;clear hr;go_wp2_with fail;refine (cg u 0 1000000 _).mono ?_;rintro e w1 ⟨r,rfl,hr,rfl⟩;by_cases hq:r=Hb;case neg=>
  exact nQ
 have h4:=ae (hr.1 hq);subst hq;clear hr;go_wp2_with fail;refine (fs a len cap zs 8 _ (HR.below (aq _ _))).mono ?_;rintro e w1 ⟨r,rfl,hr,rfl⟩;go_wp2_with fail;go_ret;exact⟨r,rfl,⟨λh=>⟨h0.out,h1.out,h2.out,h3.out,h4.out,hr.1 h⟩,λh=>hr.2 h.2.2.2.2.2⟩,aq _ _⟩
theorem qE(n z:ByteArray) (x y:Bool) (w:World) (hn:n.size<=9223372036854775807) (hz:z.size<=9223372036854775807):
  Calls Tryz.prog 201 #[Hc #[I n,G8 x,G8 y,I z]] w (av (mF n z) w):=by
 go_enter Tryz.func201,Tryz.ntmps201;go_wp2_with fail;refine (bj n _ hn).mono ?_;rintro e w1 ⟨r,rfl,hr,rfl⟩;by_cases hq:r=Hb;case neg=>
  exact fL
 have h0:=ae (hr.1 hq);subst hq;clear hr;go_wp2_with fail;refine (dD z _ hz).mono ?_;exact wv
theorem qF(n:ByteArray) (z:Int) (k:ByteArray) (x:Bool) (v:ByteArray) (w:World) (hn:n.size<=9223372036854775807) (hk:k.size<=9223372036854775807) (hv:v.size<=9223372036854775807):
  Calls Tryz.prog 208 #[Hc #[I n,GZ G6 z,I k,G8 x,I v]] w (av (mG n z k v) w):=by
 go_enter Tryz.func208,Tryz.ntmps208;go_wp2_with fail;refine (bj n _ hn).mono ?_;rintro e w1 ⟨r,rfl,hr,rfl⟩;by_cases hq:r=Hb;case neg=>
  exact fL
 have h0:=ae (hr.1 hq);subst hq;clear hr;go_wp2_with fail;refine (cg z 1 1048576 _).mono ?_;rintro e w1 ⟨r,rfl,hr,rfl⟩;by_cases hq:r=Hb;case neg=>
  exact ij
 have h1:=ae (hr.1 hq);subst hq;clear hr;go_wp2_with fail;refine (bj k _ hk).mono ?_;rintro e w1 ⟨r,rfl,hr,rfl⟩;by_cases hq:r=Hb;case neg=>
  exact ik
 have h2:=ae (hr.1 hq);subst hq;clear hr;go_wp2_with fail;refine (dD v _ hv).mono ?_;exact wE
theorem qv(n:ByteArray) (c:Int) (z:ByteArray) (a:Option Addr) (len cap:Nat) (d:ByteArray) (p:Int) (w:World) (hd:d.size<=9223372036854775807):
  Calls Tryz.prog 194 #[Hc #[I n,GZ G6 c,I z,J a len cap,I d,GZ G6 p]] w (av (eO d p) w):=by
 by_cases h0:p=0
 ·subst h0;go_enter Tryz.func194,Tryz.ntmps194;go_wp2;go_ret;exact⟨_,rfl,by rw[en,eM],aq _ _⟩
 have hq0:(p==0)=G_:=by simp[h0]
 by_cases h1:p=1
 ·subst h1;go_enter Tryz.func194,Tryz.ntmps194;go_wp2_with (go_at_call 186;refine (bj _ _ hd).mono ?_;rintro e w1 ⟨r,rfl,hr,rfl⟩);go_ret;exact⟨r,rfl,by rw[gX d (Or.inl rfl),hr],aq _ _⟩
 have hq1:(p==1)=G_:=by simp[h1]
 by_cases h2:p=2
 ·subst h2;go_enter Tryz.func194,Tryz.ntmps194;go_wp2_with (go_at_call 186;refine (bj _ _ hd).mono ?_;rintro e w1 ⟨r,rfl,hr,rfl⟩);go_ret;exact⟨r,rfl,by rw[gX d (Or.inr rfl),hr],aq _ _⟩
 have hq2:(p==2)=G_:=by simp[h2]
 go_enter Tryz.func194,Tryz.ntmps194;go_wp2;go_ret;exact⟨G_,rfl,⟨λh=>bY,λh=>absurd h (mU af)⟩,aq _ _⟩
theorem zg(n:ByteArray) (c:Int) (z:ByteArray) (a:Option Addr) (len cap:Nat) (zs:List ByteArray) (d:ByteArray) (p:Int) (w:World) (hn:n.size<=9223372036854775807) (hz:z.size<=9223372036854775807) (hd:d.size<=9223372036854775807) (hr:aD w a len cap zs):
  Calls Tryz.prog 192 #[Hc #[I n,GZ G6 c,I z,J a len cap,I d,GZ G6 p]] w (av (su n c z zs d p) w):=by
 have HR:Hid (aD w a len cap zs):=hr;clear hr;go_enter Tryz.func192,Tryz.ntmps192;go_wp2_with fail;refine (bj n _ hn).mono ?_;rintro e w1 ⟨r,rfl,hr,rfl⟩;by_cases hq:r=Hb;case neg=>
  exact fL
 have h0:=ae (hr.1 hq);subst hq;clear hr;go_wp2_with fail;refine (cg c 0 1000000 _).mono ?_;rintro e w1 ⟨r,rfl,hr,rfl⟩;by_cases hq:r=Hb;case neg=>
  exact ij
 have h1:=ae (hr.1 hq);subst hq;clear hr;go_wp2_with fail;refine (dD z _ hz).mono ?_;rintro e w1 ⟨r,rfl,hr,rfl⟩;by_cases hq:r=Hb;case neg=>
  exact ik
 have h2:=ae (hr.1 hq);subst hq;clear hr;go_wp2_with fail;refine (fs a len cap zs 3 _ (HR.below (aq _ _))).mono ?_;rintro e w1 ⟨r,rfl,hr,rfl⟩;by_cases hq:r=Hb;case neg=>
  exact lx
 have h3:=ae (hr.1 hq);subst hq;clear hr;go_wp2_with fail;refine (qv n c z a len cap d p _ hd).mono ?_;rintro e w1 ⟨r,rfl,hr,hb⟩;go_wp2_with fail;go_ret;exact⟨r,rfl,⟨λh=>⟨h0.out,h1.out,h2.out,h3.out,hr.1 h⟩,λh=>hr.2 h.2.2.2.2⟩,(cX hb).2.1⟩
theorem kl(n:ByteArray) (c:Int) (z k:ByteArray) (x:Bool) (m:ByteArray) (y:Bool) (a:Option Addr) (len cap:Nat) (w:World):
  Calls Tryz.prog 205 #[Hc #[I n,GZ G6 c,I z,I k,G8 x,I m,G8 y,J a len cap]] w λe w'=>e=Ha (GZ G6 (if x=Hb then 1 else 6))/\Below w.heap.size w w':=by
 cases x;all_goals (
  go_enter Tryz.func205,Tryz.ntmps205
  go_wp2
  go_ret
  exact⟨rfl,aq _ _⟩)
theorem iM {o p q:Obj} (h:Below (((w.alloc o).alloc p).alloc q).heap.size (((w.alloc o).alloc p).alloc q) w'):w'.heap[w.heap.size]?=F_ o/\w'.heap[w.heap.size+1]?=F_ p/\w'.heap[w.heap.size+1+1]?=F_ q/\Below w.heap.size w w':=by
 obtain⟨h1,h2⟩:=aT h;rw[cB,cB] at h1;obtain⟨h3,h4,h5⟩:=bU h2;exact⟨h3,h4,h1,h5⟩
namespace Rc
theorem fU.aB {S':Nat->Prop} (h:fU w d c S P) (hk:∀k,k<w.heap.size->S k->w'.heap[k]?=w.heap[k]?) (hs:∀k,k<w.heap.size->S k->S' k):fU w' d c S' P:=
 ⟨h.n.aB (λk hl s=>hk k hl s.1) (λk hl s=>⟨hs k hl s.1,s.2⟩),h.k.aB (λk hl s=>hk k hl s.1) (λk hl s=>⟨hs k hl s.1,s.2⟩),h.v.aB (λk hl s=>hk k hl s.1) (λk hl s=>⟨hs k hl s.1,s.2⟩),h.x.aB (λk hl s=>hk k hl s.1) (λk hl s=>⟨hs k hl s.1,s.2⟩),h.p.aB (λk hl s=>hk k hl s.1) (λk hl s=>⟨hs k hl s.1,s.2⟩)⟩
theorem dz.below(h:dz w d c S) (hb:Below w.heap.size w w'):dz w' d c S:=by
 obtain⟨P,h⟩:=h;exact⟨P,h.aB (λk hk _=>hb.block k hk) (λ_ _ s=>s)⟩
theorem dz.bI {S':Nat->Prop} (h:dz w d c S) (hs:∀k,k<w.heap.size->S k->S' k):dz w d c S':=by
 obtain⟨P,h⟩:=h;exact⟨P,h.aB (λ_ _ _=>rfl) hs⟩
end Rc
namespace Ap
theorem Ds {w0:World} {base n:Nat} {v:Value} {zs:List ByteArray} (h:w.ownsRow base 9 1 v n (zs.map Fz)) (hb:Below base w0 w) (hB:base=w0.heap.size) (hs:∀(j:Nat) x,zs[j]?=F_ x->x.size<=9223372036854775807):
  ∃a l c,v=J a l c/\b_ zs w0 a l c w:=by
 subst hB;obtain⟨hl,h⟩:=h;have hl':zs.length=n:=by simpa using hl
 rcases h with ⟨rfl,rfl⟩|⟨g,cap,cur,rfl,hbg,hg,hnc,hcm,hsz,htk⟩
 ·obtain rfl:zs=[]:=List.eq_nil_of_length_eq_zero hl';exact⟨U,0,0,rfl,⟨rfl,Fq _,by omega,λj x hx=>by simp at hx,He rfl⟩,He rfl,hb⟩
 ·refine⟨F_ ⟨g,0,U⟩,n,cap,rfl,⟨hl',hnc,by unfold maxLen at hcm;omega,hs,Hd ⟨g,0,rfl,aa hg,λj x hx=>?_⟩⟩,Hd ⟨g,cur,rfl,hbg,hg⟩,hb⟩;exact yI
theorem lY(a:Option Addr) (len cap:Nat) (zs:List ByteArray) (w:World) (hr:aD w a len cap zs) (hl:len<=8001):
  Calls Tryz.prog 88 #[J a len cap] w λe w'=> ∃a' l c,e=Ha (J a' l c)/\b_ zs w a' l c w':=by
 cases a with
 | none=>
  obtain rfl:zs=[]:=by
   rcases hr.2.2.2.2 with h|⟨b,o,e,_⟩
   ·exact h
   ·cases e
  obtain rfl:len=0:=by have:=hr.1;simpa using this.symm
  clear hr
  go_enter Tryz.func88,Tryz.ntmps88
  go_wp2
  go_ret;exact⟨_,_,_,rfl,⟨rfl,Fq _,by omega,λj x hx=>by simp at hx,He rfl⟩,He rfl,Ft _ _⟩
 | some ad=>
  have HN:=ae (sb hr);have HZ:=ae hr.2.2.2.1;have hzl:=hr.1;clear hr;obtain⟨i0,hi,hz0,hz1,hz2⟩:=info_parts dI
  go_enter Tryz.func88,Tryz.ntmps88
  go_wp2_with (first|(at_builtin;refine wpList_append_own _ rfl _ _ 36 rfl w.heap.size 9 i0 (I ⟨#[]⟩) 1 16 Tryz.underlying36 hi hz0 hz1 hz2 rfl ah _ 0 _ rfl (Gj w w.heap.size 9 1) ad len cap (zs.map Fz) rfl ?c1 HN.out ?c3 ?c4 ?c5 (Fq _) ?_))
  case c1=>simpa using hzl
  case c3=>intro u hu;obtain⟨x,_,rfl⟩:=List.mem_map.1 hu;rfl
  case c4=>unfold maxLen;omega
  case c5=>omega
  intro v' w3 hown3 hgrow hv;have HB3:=ae ((Ft w.heap.size w).grown hgrow (Fq _) (λk hk=>by cases hk));have HO:=ae hown3;clear hown3 hgrow hv
  go_wp2
  go_ret;obtain⟨a',l,c,rfl,h2⟩:=Ds HO.out HB3.out rfl HZ.out;exact⟨a',l,c,rfl,h2⟩
theorem Ed(n:ByteArray) (c:Int) (z:ByteArray) (k:ByteArray) (x:Bool) (m:ByteArray) (y:Bool) (a:Option Addr) (len cap:Nat) (zs:List ByteArray) (w:World) (hr:aD w a len cap zs) (hl:len<=8001):
  Calls Tryz.prog 84 #[Hc #[I n,GZ G6 c,I z,I k,G8 x,I m,G8 y,J a len cap]] w λe w'=> ∃a' l p,e=Ha (Hc #[I n,GZ G6 c,I z,I k,G8 x,I m,G8 y,J a' l p])/\b_ zs w a' l p w':=by
 have HR:=ae (hr.below (aM w (G7 #[I n,GZ G6 c,I z,I k,G8 x,I m,G8 y,J a len cap] 95) (G7 #[I ⟨#[]⟩,GZ G6 0,I ⟨#[]⟩,I ⟨#[]⟩,G8 G_,I ⟨#[]⟩,G8 G_,J U 0 0] 95)));clear hr;go_enter Tryz.func84,Tryz.ntmps84;go_wp2_with fail;refine (lY a len cap zs _ HR.out hl).mono ?_;rintro e w3 ⟨a',l,p,rfl,h1,h2,hb⟩;have g0:=(hb.block w.heap.size bD).trans (dK _ _ _);have g1:=(hb.block (w.heap.size+1) aH).trans (cL _ _ _);have HQ:Hid (aD w3 a' l p zs/\(zs=[]\/∃g cur,a'=F_ ⟨g,0,U⟩/\w.heap.size+1+1<=g/\w3.heap[g]?=F_ (G7 cur 9 (0,0)))/\Below w.heap.size w w3):=⟨h1,by simpa using h2,(aM w _ _).trans (hb.mono bD)⟩;have d0:=ck0 g0;have d1:=ck1 g0;have d2:=ck2 g0;have d3:=ck3 g0;have d4:=ck4 g0;have d5:=ck5 g0;have d6:=ck6 g0;have d7:=ck7 g0;have df7:=al g0 7;have e0:=ck0 g1;have ef0:=al g1 0;have e1:=ck1 g1;have ef1:=al g1 1;have e2:=ck2 g1;have ef2:=al g1 2;have e3:=ck3 g1;have ef3:=al g1 3;have e4:=ck4 g1;have ef4:=al g1 4;have e5:=ck5 g1;have ef5:=al g1 5;have e6:=ck6 g1;have ef6:=al g1 6;have e7:=ck7 g1;have ef7:=al g1 7;have HQ2:=ae (b_.set (b_.set (b_.set (b_.set (b_.set (b_.set (b_.set (b_.set (b_.set HQ.out (b:=w.heap.size) (i:=7) af af (v:=J a' l p)) (b:=w.heap.size+1) (i:=0) af af (v:=I n)) (b:=w.heap.size+1) (i:=1) af af (v:=GZ G6 c)) (b:=w.heap.size+1) (i:=2) af af (v:=I z)) (b:=w.heap.size+1) (i:=3) af af (v:=I k)) (b:=w.heap.size+1) (i:=4) af af (v:=G8 x)) (b:=w.heap.size+1) (i:=5) af af (v:=I m)) (b:=w.heap.size+1) (i:=6) af af (v:=G8 y)) (b:=w.heap.size+1) (i:=7) af af (v:=J a' l p));clear h1 h2 hb g0 g1;go_wp2_with fail;refine bodyPost_ret (v:=Hc #[I n,GZ G6 c,I z,I k,G8 x,I m,G8 y,J a' l p]) (by simp[results,Tryz.results84,go_sem, *]) rfl ⟨a',l,p,rfl,HQ2.1,?_,HQ2.2.2⟩;rcases HQ2.2.1 with h|⟨g,cur,h1,h2,h3⟩
 ·exact He h
 ·exact Hd ⟨g,cur,h1,by omega,h3⟩
end Ap
namespace Rc
theorem qA(x:Nd) (va:Option Addr) (vl vc:Nat) (w:World) (hr:aD w va vl vc x.zs) (hl:vl<=8001):
  Calls Tryz.prog 82 #[Hc #[I x.n,I x.z,GZ G6 x.c,GZ G6 x.s,GZ G6 x.u,G8 x.d,J va vl vc]] w λe w'=> ∃a' l' c',e=Ha (Hc #[I x.n,I x.z,GZ G6 x.c,GZ G6 x.s,GZ G6 x.u,G8 x.d,J a' l' c'])/\bQ w' a' l' c' x.zs (λk=>w.heap.size<=k)/\Below w.heap.size w w':=by
 obtain⟨HR,HB⟩:=jr;clear hr;go_enter Tryz.func82,Tryz.ntmps82;go_wp2_with fail;refine (Ap.lY va vl vc x.zs _ (HR.below (HB.trans ((aM _ _ _).mono HB.size))) hl).mono ?_;rintro e w1 ⟨a',l',c',rfl,h1,h2,hb⟩;obtain⟨HA0,HA1,hbx⟩:=bU hb;have Bp:=ae HA0;have Br:=ae HA1;replace HB:=upB HB hbx;clear hb hbx HA0 HA1;have HO:Hid (bQ w1 a' l' c' x.zs (λk=>w.heap.size+1+1<=k)):=⟨h1,h2.imp id λ⟨g,cur,e1,e2,e3⟩=>⟨g,cur,e1,by simpa using e2,e3⟩⟩;clear h1 h2;obtain⟨p0,p1,p2,p3,p4,p5,p6⟩:=cs7 Bp;obtain⟨r0,r1,r2,r3,r4,r5,r6⟩:=cs7 Br;obtain⟨fr0,fr1,fr2,fr3,fr4,fr5⟩:=ic;have fp6:=al Bp.out 6;have fr6:=al Br.out 6;go_wp2_with fail;refine bodyPost_ret (v:=Hc #[I x.n,I x.z,GZ G6 x.c,GZ G6 x.s,GZ G6 x.u,G8 x.d,J a' l' c']) (by simp[results,Tryz.results82,go_sem, *]) rfl ⟨a',l',c',rfl,HO.aB (λk _ s=>by have s1:w.heap.size+1+1<=k:=s;rw[Fl _ _ _ _ (show k≠w.heap.size+1 by omega),Fl _ _ _ _ (show k≠w.heap.size+1 by omega),Fl _ _ _ _ (show k≠w.heap.size+1 by omega),Fl _ _ _ _ (show k≠w.heap.size+1 by omega),Fl _ _ _ _ (show k≠w.heap.size+1 by omega),Fl _ _ _ _ (show k≠w.heap.size+1 by omega),Fl _ _ _ _ (show k≠w.heap.size+1 by omega),Fl _ _ _ _ (show k≠w.heap.size by omega)]) (λk _ s=>by have s1:w.heap.size+1+1<=k:=s;show w.heap.size<=k;omega),sb1 (sb1 (sb1 (sb1 (sb1 (sb1 (sb1 (ak (Fq _) (HB.out))))))))⟩
theorem mh(a:Option Addr) (len cap:Nat) (xs:List Nd) (w:World) (hr:a_ w a len cap 7 (xs.map ndF)) (hl:len<=8) (hs:∀(j:Nat) x,xs[j]?=F_ x->x.zs.length<=8001):
  Calls Tryz.prog 81 #[J a len cap,.func (.func 82) #[] #[]] w λe w'=> ∃a' c',e=Ha (J a' len c')/\aA w' a' len c' 7 38 (xs.map ndF) (λk=>w.heap.size<=k)/\Below w.heap.size w w':=by
 have HR:=ae hr;have HS:=ae hs;have hxl:xs.length=len:=eu
 clear hr hs;obtain⟨i0,hi,hz0,hz1,hz2⟩:=info_parts zk;have HI0:=ae (Fk hi (Fk hz0 (Fk hz1 hz2)));clear hi hz0 hz1 hz2;go_enter Tryz.func81,Tryz.ntmps81;go_wp2;go_loopw [5,10] (λvo vi wr=> ∃(k:Nat) (vss:List (List Value)) (H:Nat->Nat->Nat),k<=len/\vi=GZ G6 k/\Hid (wr.ownsRow w.heap.size 38 7 vo k vss.flatten)/\Hid (aX wr (λk=>w.heap.size<=k) 7 ((xs.take k).map ndF) vss H)/\Hid (Below w.heap.size w wr)) (λ_ vi _=>len - (intOf vi).toNat);case atStart=>exact⟨0,[],λ_ _=>0,by omega,rfl,Gj _ _ _ _,aX.nil _ _ _ _,Ft _ _⟩
 case round=>
  obtain⟨k,vss,H,hk,rfl,HO,HV,HB⟩:=hrel;have hBs:=HB.size;by_cases hlt:k<len
  ·obtain⟨b,o,x,rfl,hb,hx,hat⟩:=bO (HR.below HB.out) hlt;obtain⟨va,vl,vc,hvr,z0,z1,c0,c1,c2,c3,c4,c5,c6⟩:=aU hat;obtain⟨hz8,HX,HT,HZz0⟩:=o6;have HZz1:=ae z1;clear hat hx hvr z0 z1;go_wp2_with fail;refine (qA x va vl vc _ (HT.below (aq _ _)) hz8).mono ?_;rintro e w2 ⟨a',l',c',rfl,ho,hb2⟩;obtain⟨-,hbx⟩:=aT hb2;rw[cB] at ho;obtain⟨g,hg⟩:=ho.fr;obtain⟨HG,HX2,HO2,hs2⟩:=uy;clear ho hb2 hbx hg hb c0 c1 c2 c3 c4 c5 c6;go_wp2_with (first|(at_builtin;refine wpList_append_own _ rfl _ _ 23 rfl w.heap.size 38 i0 (Hc #[I ⟨#[]⟩,I ⟨#[]⟩,GZ G6 0,GZ G6 0,GZ G6 0,G8 G_,J U 0 0]) 7 88 Tryz.underlying23 HI0.1 HI0.2.1 HI0.2.2.1 HI0.2.2.2 rfl ah _ _ _ rfl (HO2.alloc _) ⟨w2.heap.size,0,U⟩ 1 1 [I x.n,I x.z,GZ G6 x.c,GZ G6 x.s,GZ G6 x.u,G8 x.d,J a' l' c'] rfl rfl ?c1 ?c2 ?c3 ?c4 ?c5 ?_));case c1=>exact eA _ _ _
   case c2=>intro u hu;simp only[List.mem_cons,Gl,or_false] at hu;rcases hu with rfl|rfl|rfl|rfl|rfl|rfl|rfl <;> rfl
   case c3=>unfold maxLen;omega
   case c4=>omega
   case c5=>simp;omega
   rintro v' w3 hown3 hgrow -;have HO3:Hid (w3.ownsRow w.heap.size 38 7 v' (k+1) (vss++([[I x.n,I x.z,GZ G6 x.c,GZ G6 x.s,GZ G6 x.u,G8 x.d,J a' l' c']]:List (List Value))).flatten):=by
    exact pF
   have hb23:Below wr.heap.size wr (w2.alloc (G7 (nov x a' l' c') 38)):=HX2.trans ((aq _ _).mono (Gz hs2));have hV:=HV.app (r:=ndF x) (vs:=[I x.n,I x.z,GZ G6 x.c,GZ G6 x.s,GZ G6 x.u,G8 x.d,J a' l' c']) (hh:=g) hb23 (HO2.alloc _) ah hgrow rfl rfl
    (CN HZz0.out HZz1.out (HG.aB (S':=λk=>w.heap.size<=k) (λcu _ q=>Fy _ _ _ (aa q)) (λ_ s=>by have s1:wr.heap.size+1<=g:=s;show w.heap.size<=g;omega)))
    (λi zs hi hz=>by obtain⟨_,rfl⟩:=s9 hi;have s1:wr.heap.size+1<=g:=(HG.lt hz).1;omega) (λi i' zs zs' h1 _ h2 _=>(s9 h1).1.trans (s9 h2).1.symm)
   have e1:(xs.take (k+1)).map ndF=(xs.take k).map ndF++[ndF x]:=by rw[FZ,HX.out];simp
   exact uW
  ·obtain rfl:len=k:=af
   have h5:=HV.out;rw[FT af] at h5;obtain⟨a',c',rfl,hR⟩:=h5.own HO.out (by simp[hxl]) ah (λg hg=>(HO.lt g hg).1);have HR5:=ae hR;have hl5:(xs.map ndF).length=len:=by simpa using hxl
   exact pT
theorem qy(x:Vd) (va:Option Addr) (vl vc:Nat) (w:World) (hr:aD w va vl vc x.zs) (hl:vl<=8001):
  Calls Tryz.prog 84 #[Hc #[I x.n,GZ G6 x.c,I x.z,I x.k,G8 x.x,I x.m,G8 x.y,J va vl vc]] w λe w'=> ∃a' l' c',e=Ha (Hc #[I x.n,GZ G6 x.c,I x.z,I x.k,G8 x.x,I x.m,G8 x.y,J a' l' c'])/\bQ w' a' l' c' x.zs (λk=>w.heap.size<=k)/\Below w.heap.size w w':=by
 refine (Ap.Ed x.n x.c x.z x.k x.x x.m x.y va vl vc x.zs w hr hl).mono ?_;rintro e w' ⟨a',l',c',rfl,h1,h2,hb⟩;exact⟨a',l',c',rfl,⟨h1,h2⟩,hb⟩
theorem mf(a:Option Addr) (len cap:Nat) (xs:List Vd) (w:World) (hr:a_ w a len cap 8 (xs.map vdF)) (hl:len<=8) (hs:∀(j:Nat) x,xs[j]?=F_ x->x.zs.length<=8001):
  Calls Tryz.prog 83 #[J a len cap,.func (.func 84) #[] #[]] w λe w'=> ∃a' c',e=Ha (J a' len c')/\aA w' a' len c' 8 95 (xs.map vdF) (λk=>w.heap.size<=k)/\Below w.heap.size w w':=by
 have HR:=ae hr;have HS:=ae hs;have hxl:xs.length=len:=eu
 clear hr hs;obtain⟨i0,hi,hz0,hz1,hz2⟩:=info_parts mj;have HI0:=ae (Fk hi (Fk hz0 (Fk hz1 hz2)));clear hi hz0 hz1 hz2;go_enter Tryz.func83,Tryz.ntmps83;go_wp2;go_loopw [5,10] (λvo vi wr=> ∃(k:Nat) (vss:List (List Value)) (H:Nat->Nat->Nat),k<=len/\vi=GZ G6 k/\Hid (wr.ownsRow w.heap.size 95 8 vo k vss.flatten)/\Hid (aX wr (λk=>w.heap.size<=k) 8 ((xs.take k).map vdF) vss H)/\Hid (Below w.heap.size w wr)) (λ_ vi _=>len - (intOf vi).toNat);case atStart=>exact⟨0,[],λ_ _=>0,by omega,rfl,Gj _ _ _ _,aX.nil _ _ _ _,Ft _ _⟩
 case round=>
  obtain⟨k,vss,H,hk,rfl,HO,HV,HB⟩:=hrel;have hBs:=HB.size;by_cases hlt:k<len
  ·obtain⟨b,o,x,rfl,hb,hx,hat⟩:=bM (HR.below HB.out) hlt;obtain⟨va,vl,vc,hvr,z0,z2,z3,z5,c0,c1,c2,c3,c4,c5,c6,c7⟩:=aP hat;obtain⟨hz8,HX,HT,HZz0⟩:=o6;have HZz2:=ae z2;have HZz3:=ae z3;have HZz5:=ae z5;clear hat hx hvr z0 z2 z3 z5;go_wp2_with fail;refine (qy x va vl vc _ (HT.below (aq _ _)) hz8).mono ?_;rintro e w2 ⟨a',l',c',rfl,ho,hb2⟩;obtain⟨-,hbx⟩:=aT hb2;rw[cB] at ho;obtain⟨g,hg⟩:=ho.fr;obtain⟨HG,HX2,HO2,hs2⟩:=uy;clear ho hb2 hbx hg hb c0 c1 c2 c3 c4 c5 c6 c7;go_wp2_with (first|(at_builtin;refine wpList_append_own _ rfl _ _ 25 rfl w.heap.size 95 i0 (Hc #[I ⟨#[]⟩,GZ G6 0,I ⟨#[]⟩,I ⟨#[]⟩,G8 G_,I ⟨#[]⟩,G8 G_,J U 0 0]) 8 112 Tryz.underlying25 HI0.1 HI0.2.1 HI0.2.2.1 HI0.2.2.2 rfl ah _ _ _ rfl (HO2.alloc _) ⟨w2.heap.size,0,U⟩ 1 1 [I x.n,GZ G6 x.c,I x.z,I x.k,G8 x.x,I x.m,G8 x.y,J a' l' c'] rfl rfl ?c1 ?c2 ?c3 ?c4 ?c5 ?_));case c1=>exact eA _ _ _
   case c2=>intro u hu;simp only[List.mem_cons,Gl,or_false] at hu;rcases hu with rfl|rfl|rfl|rfl|rfl|rfl|rfl|rfl <;> rfl
   case c3=>unfold maxLen;omega
   case c4=>omega
   case c5=>simp;omega
   rintro v' w3 hown3 hgrow -;have HO3:Hid (w3.ownsRow w.heap.size 95 8 v' (k+1) (vss++([[I x.n,GZ G6 x.c,I x.z,I x.k,G8 x.x,I x.m,G8 x.y,J a' l' c']]:List (List Value))).flatten):=by
    exact pF
   have hb23:Below wr.heap.size wr (w2.alloc (G7 (vov x a' l' c') 95)):=HX2.trans ((aq _ _).mono (Gz hs2));have hV:=HV.app (r:=vdF x) (vs:=[I x.n,GZ G6 x.c,I x.z,I x.k,G8 x.x,I x.m,G8 x.y,J a' l' c']) (hh:=g) hb23 (HO2.alloc _) ah hgrow rfl rfl
    (AX HZz0.out HZz2.out HZz3.out HZz5.out (HG.aB (S':=λk=>w.heap.size<=k) (λcu _ q=>Fy _ _ _ (aa q)) (λ_ s=>by have s1:wr.heap.size+1<=g:=s;show w.heap.size<=g;omega)))
    (λi zs hi hz=>by obtain⟨_,rfl⟩:=sG hi;have s1:wr.heap.size+1<=g:=(HG.lt hz).1;omega) (λi i' zs zs' h1 _ h2 _=>(sG h1).1.trans (sG h2).1.symm)
   have e1:(xs.take (k+1)).map vdF=(xs.take k).map vdF++[vdF x]:=by rw[FZ,HX.out];simp
   exact uW
  ·obtain rfl:len=k:=af
   have h5:=HV.out;rw[FT af] at h5;obtain⟨a',c',rfl,hR⟩:=h5.own HO.out (by simp[hxl]) ah (λg hg=>(HO.lt g hg).1);have HR5:=ae hR;have hl5:(xs.map vdF).length=len:=by simpa using hxl
   exact pT
theorem kr(x:Pd) (va:Option Addr) (vl vc:Nat) (w:World) (hr:aD w va vl vc x.zs) (hl:vl<=8001):
  Calls Tryz.prog 45 #[Hc #[I x.n,GZ G6 x.c,I x.z,J va vl vc,I x.d,GZ G6 x.p]] w λe w'=> ∃a' l' c',e=Ha (Hc #[I x.n,GZ G6 x.c,I x.z,J a' l' c',I x.d,GZ G6 x.p])/\bQ w' a' l' c' x.zs (λk=>w.heap.size<=k)/\Below w.heap.size w w':=by
 obtain⟨HR,HB⟩:=jr;clear hr;go_enter Tryz.func45,Tryz.ntmps45;go_wp2_with fail;refine (Ap.lY va vl vc x.zs _ (HR.below (HB.trans ((aM _ _ _).mono HB.size))) hl).mono ?_;rintro e w1 ⟨a',l',c',rfl,h1,h2,hb⟩;obtain⟨HA0,HA1,hbx⟩:=bU hb;have Bp:=ae HA0;have Br:=ae HA1;replace HB:=upB HB hbx;clear hb hbx HA0 HA1;have HO:Hid (bQ w1 a' l' c' x.zs (λk=>w.heap.size+1+1<=k)):=⟨h1,h2.imp id λ⟨g,cur,e1,e2,e3⟩=>⟨g,cur,e1,by simpa using e2,e3⟩⟩;clear h1 h2;obtain⟨p0,p1,p2,p3,p4,p5⟩:=cs6 Bp;obtain⟨r0,r1,r2,r3,r4,r5⟩:=cs6 Br;have fr0:=al Br.out 0;have fr1:=al Br.out 1;have fr2:=al Br.out 2;have fp3:=al Bp.out 3;have fr3:=al Br.out 3;have fr4:=al Br.out 4;have fr5:=al Br.out 5;go_wp2_with fail;refine bodyPost_ret (v:=Hc #[I x.n,GZ G6 x.c,I x.z,J a' l' c',I x.d,GZ G6 x.p]) (by simp[results,Tryz.results45,go_sem, *]) rfl ⟨a',l',c',rfl,HO.aB (λk _ s=>by have s1:w.heap.size+1+1<=k:=s;rw[Fl _ _ _ _ (show k≠w.heap.size+1 by omega),Fl _ _ _ _ (show k≠w.heap.size+1 by omega),Fl _ _ _ _ (show k≠w.heap.size+1 by omega),Fl _ _ _ _ (show k≠w.heap.size+1 by omega),Fl _ _ _ _ (show k≠w.heap.size+1 by omega),Fl _ _ _ _ (show k≠w.heap.size+1 by omega),Fl _ _ _ _ (show k≠w.heap.size by omega)]) (λk _ s=>by have s1:w.heap.size+1+1<=k:=s;show w.heap.size<=k;omega),sb1 (sb1 (sb1 (sb1 (sb1 (sb1 (ak (Fq _) (HB.out)))))))⟩
theorem mg(a:Option Addr) (len cap:Nat) (xs:List Pd) (w:World) (hr:a_ w a len cap 6 (xs.map pdF)) (hl:len<=8) (hs:∀(j:Nat) x,xs[j]?=F_ x->x.zs.length<=8001):
  Calls Tryz.prog 85 #[J a len cap,.func (.func 45) #[] #[]] w λe w'=> ∃a' c',e=Ha (J a' len c')/\aA w' a' len c' 6 40 (xs.map pdF) (λk=>w.heap.size<=k)/\Below w.heap.size w w':=by
 have HR:=ae hr;have HS:=ae hs;have hxl:xs.length=len:=eu
 clear hr hs;obtain⟨i0,hi,hz0,hz1,hz2⟩:=info_parts fQ;have HI0:=ae (Fk hi (Fk hz0 (Fk hz1 hz2)));clear hi hz0 hz1 hz2;go_enter Tryz.func85,Tryz.ntmps85;go_wp2;go_loopw [5,10] (λvo vi wr=> ∃(k:Nat) (vss:List (List Value)) (H:Nat->Nat->Nat),k<=len/\vi=GZ G6 k/\Hid (wr.ownsRow w.heap.size 40 6 vo k vss.flatten)/\Hid (aX wr (λk=>w.heap.size<=k) 6 ((xs.take k).map pdF) vss H)/\Hid (Below w.heap.size w wr)) (λ_ vi _=>len - (intOf vi).toNat);case atStart=>exact⟨0,[],λ_ _=>0,by omega,rfl,Gj _ _ _ _,aX.nil _ _ _ _,Ft _ _⟩
 case round=>
  obtain⟨k,vss,H,hk,rfl,HO,HV,HB⟩:=hrel;have hBs:=HB.size;by_cases hlt:k<len
  ·obtain⟨b,o,x,rfl,hb,hx,hat⟩:=bN (HR.below HB.out) hlt;obtain⟨va,vl,vc,hvr,z0,z2,z4,c0,c1,c2,c3,c4,c5⟩:=aR hat;obtain⟨hz8,HX,HT,HZz0⟩:=o6;have HZz2:=ae z2;have HZz4:=ae z4;clear hat hx hvr z0 z2 z4;go_wp2_with fail;refine (kr x va vl vc _ (HT.below (aq _ _)) hz8).mono ?_;rintro e w2 ⟨a',l',c',rfl,ho,hb2⟩;obtain⟨-,hbx⟩:=aT hb2;rw[cB] at ho;obtain⟨g,hg⟩:=ho.fr;obtain⟨HG,HX2,HO2,hs2⟩:=uy;clear ho hb2 hbx hg hb c0 c1 c2 c3 c4 c5;go_wp2_with (first|(at_builtin;refine wpList_append_own _ rfl _ _ 27 rfl w.heap.size 40 i0 (Hc #[I ⟨#[]⟩,GZ G6 0,I ⟨#[]⟩,J U 0 0,I ⟨#[]⟩,GZ G6 0]) 6 88 Tryz.underlying27 HI0.1 HI0.2.1 HI0.2.2.1 HI0.2.2.2 rfl ah _ _ _ rfl (HO2.alloc _) ⟨w2.heap.size,0,U⟩ 1 1 [I x.n,GZ G6 x.c,I x.z,J a' l' c',I x.d,GZ G6 x.p] rfl rfl ?c1 ?c2 ?c3 ?c4 ?c5 ?_));case c1=>exact eA _ _ _
   case c2=>intro u hu;simp only[List.mem_cons,Gl,or_false] at hu;rcases hu with rfl|rfl|rfl|rfl|rfl|rfl <;> rfl
   case c3=>unfold maxLen;omega
   case c4=>omega
   case c5=>simp;omega
   rintro v' w3 hown3 hgrow -;have HO3:Hid (w3.ownsRow w.heap.size 40 6 v' (k+1) (vss++([[I x.n,GZ G6 x.c,I x.z,J a' l' c',I x.d,GZ G6 x.p]]:List (List Value))).flatten):=by
    exact pF
   have hb23:Below wr.heap.size wr (w2.alloc (G7 (pov x a' l' c') 40)):=HX2.trans ((aq _ _).mono (Gz hs2));have hV:=HV.app (r:=pdF x) (vs:=[I x.n,GZ G6 x.c,I x.z,J a' l' c',I x.d,GZ G6 x.p]) (hh:=g) hb23 (HO2.alloc _) ah hgrow rfl rfl
    (CM HZz0.out HZz2.out HZz4.out (HG.aB (S':=λk=>w.heap.size<=k) (λcu _ q=>Fy _ _ _ (aa q)) (λ_ s=>by have s1:wr.heap.size+1<=g:=s;show w.heap.size<=g;omega)))
    (λi zs hi hz=>by obtain⟨_,rfl⟩:=sZ hi;have s1:wr.heap.size+1<=g:=(HG.lt hz).1;omega) (λi i' zs zs' h1 _ h2 _=>(sZ h1).1.trans (sZ h2).1.symm)
   have e1:(xs.take (k+1)).map pdF=(xs.take k).map pdF++[pdF x]:=by rw[FZ,HX.out];simp
   exact uW
  ·obtain rfl:len=k:=af
   have h5:=HV.out;rw[FT af] at h5;obtain⟨a',c',rfl,hR⟩:=h5.own HO.out (by simp[hxl]) ah (λg hg=>(HO.lt g hg).1);have HR5:=ae hR;have hl5:(xs.map pdF).length=len:=by simpa using hxl
   exact pT
end Rc
theorem y9(n:ByteArray) (c:Int) (z k:ByteArray) (x:Bool) (m:ByteArray) (y:Bool) (a:Option Addr) (len cap:Nat) (zs:List ByteArray) (w:World) (hn:n.size<=9223372036854775807) (hz:z.size<=9223372036854775807) (hk:k.size<=9223372036854775807) (hm:m.size<=9223372036854775807) (hr:aD w a len cap zs):
  Calls Tryz.prog 204 #[Hc #[I n,GZ G6 c,I z,I k,G8 x,I m,G8 y,J a len cap]] w (av (zH n c z k x m y zs) w):=by
 have HR:Hid (aD w a len cap zs):=hr;clear hr;cases y
 ·have HY:Hid (G_=Hb->m=⟨#[]⟩):=λh=>bY;by_cases p0:aV n;case neg=>
   exact Ce
  have F0:Hid (∀w,Calls Tryz.prog 186 #[I n] w λe w'=>e=Ha (G8 Hb)/\w'=w):=λw=>(bj n w hn).mono λ_ _ h=>h.yes p0;by_cases p1:Inn c 1 1048576;case neg=>
   exact Cz
  have F1:Hid (∀w,Calls Tryz.prog 72 #[GZ G6 c,GZ G6 1,GZ G6 1048576] w λe w'=>e=Ha (G8 Hb)/\w'=w):=λw=>(cg c 1 1048576 w).mono λ_ _ h=>h.yes p1;by_cases p2:aV z;case neg=>
   exact CB
  have F2:Hid (∀w,Calls Tryz.prog 186 #[I z] w λe w'=>e=Ha (G8 Hb)/\w'=w):=λw=>(bj z w hz).mono λ_ _ h=>h.yes p2;by_cases p3:aV k;case neg=>
   exact CC
  have F3:Hid (∀w,Calls Tryz.prog 186 #[I k] w λe w'=>e=Ha (G8 Hb)/\w'=w):=λw=>(bj k w hk).mono λ_ _ h=>h.yes p3;by_cases p4:df m;case neg=>
   have F4:Hid (∀w,Calls Tryz.prog 193 #[I m] w λe w'=>e=Ha (G8 G_)/\w'=w):=λw=>(dD m w hm).mono λ_ _ h=>h.no p4;have HP:=ae p4;clear p4;go_enter Tryz.func204,Tryz.ntmps204;go_wp2_with fail;go_quiet ((first|(go_at_call_of 186 (Fz n);exact FP (F0.out _))|(go_at_call_of 72 (Value.int G6 c);exact FP (F1.out _))|(go_at_call_of 186 (Fz z);exact FP (F2.out _))|(go_at_call_of 186 (Fz k);exact FP (F3.out _))|(go_at_call_of 193 (Fz m);exact FP (F4.out _))));exact xX
  have F4:Hid (∀w,Calls Tryz.prog 193 #[I m] w λe w'=>e=Ha (G8 Hb)/\w'=w):=λw=>(dD m w hm).mono λ_ _ h=>h.yes p4;obtain⟨q,hq⟩:∃q:Int,q=if x=Hb then 1 else 6:=⟨_,rfl⟩;have HM:Hid (∀w,Calls Tryz.prog 205 #[Hc #[I n,GZ G6 c,I z,I k,G8 x,I m,G8 G_,J a len cap]] w λe w'=>e=Ha (GZ G6 q)/\Below w.heap.size w w'):=λw=>by rw[hq];exact kl n c z k x m G_ a len cap w
  have HQ:Hid (q=if x=Hb then 1 else 6):=hq;clear hq;go_enter Tryz.func204,Tryz.ntmps204;go_wp2_with fail;go_region_with (first|(go_at_call_of 186 (Fz n);refine (F0.out _).mono ?_;rintro e w1 ⟨rfl,rfl⟩)|(go_at_call_of 72 (Value.int G6 c);refine (F1.out _).mono ?_;rintro e w1 ⟨rfl,rfl⟩)|(go_at_call_of 186 (Fz z);refine (F2.out _).mono ?_;rintro e w1 ⟨rfl,rfl⟩)|(go_at_call_of 186 (Fz k);refine (F3.out _).mono ?_;rintro e w1 ⟨rfl,rfl⟩)|(go_at_call_of 193 (Fz m);refine (F4.out _).mono ?_;rintro e w1 ⟨rfl,rfl⟩)|(go_at_call 205;refine (HM.out _).mono ?_;rintro e w1 ⟨rfl,hb⟩;have hc7:=ar (iN hb).1 7;simp only[List.getElem?_toArray,List.getElem?_cons_succ,List.getElem?_cons_zero] at hc7)|(go_at_call 187;refine (fs a len cap zs _ _ (HR.below (iN hb).2.1)).mono ?_;rintro e w2 ⟨r,rfl,hr,rfl⟩));all_goals (
   go_wp2_with fail;go_ret
   exact⟨r,rfl,⟨λh=>⟨p0,p1,p2,p3,p4,HY.out,HQ.out ▸ hr.1 h⟩,λh=>hr.2 (HQ.out ▸ h.2.2.2.2.2.2)⟩,(iN hb).2.1⟩)
 by_cases hm0:m=⟨#[]⟩
 ·subst hm0;have HY:Hid True:=trivial;by_cases p0:aV n;case neg=>
   exact Ce
  have F0:Hid (∀w,Calls Tryz.prog 186 #[I n] w λe w'=>e=Ha (G8 Hb)/\w'=w):=λw=>(bj n w hn).mono λ_ _ h=>h.yes p0;by_cases p1:Inn c 1 1048576;case neg=>
   exact Cz
  have F1:Hid (∀w,Calls Tryz.prog 72 #[GZ G6 c,GZ G6 1,GZ G6 1048576] w λe w'=>e=Ha (G8 Hb)/\w'=w):=λw=>(cg c 1 1048576 w).mono λ_ _ h=>h.yes p1;by_cases p2:aV z;case neg=>
   exact CB
  have F2:Hid (∀w,Calls Tryz.prog 186 #[I z] w λe w'=>e=Ha (G8 Hb)/\w'=w):=λw=>(bj z w hz).mono λ_ _ h=>h.yes p2;by_cases p3:aV k;case neg=>
   exact CC
  have F3:Hid (∀w,Calls Tryz.prog 186 #[I k] w λe w'=>e=Ha (G8 Hb)/\w'=w):=λw=>(bj k w hk).mono λ_ _ h=>h.yes p3;by_cases p4:df (⟨#[]⟩:ByteArray);case neg=>
   have F4:Hid (∀w,Calls Tryz.prog 193 #[I (⟨#[]⟩:ByteArray)] w λe w'=>e=Ha (G8 G_)/\w'=w):=λw=>(dD (⟨#[]⟩:ByteArray) w hm).mono λ_ _ h=>h.no p4;have HP:=ae p4;clear p4;go_enter Tryz.func204,Tryz.ntmps204;go_wp2_with fail;go_quiet ((first|(go_at_call_of 186 (Fz n);exact FP (F0.out _))|(go_at_call_of 72 (Value.int G6 c);exact FP (F1.out _))|(go_at_call_of 186 (Fz z);exact FP (F2.out _))|(go_at_call_of 186 (Fz k);exact FP (F3.out _))|(go_at_call_of 193 (Fz (⟨#[]⟩:ByteArray));exact FP (F4.out _))));exact xX
  have F4:Hid (∀w,Calls Tryz.prog 193 #[I (⟨#[]⟩:ByteArray)] w λe w'=>e=Ha (G8 Hb)/\w'=w):=λw=>(dD (⟨#[]⟩:ByteArray) w hm).mono λ_ _ h=>h.yes p4;obtain⟨q,hq⟩:∃q:Int,q=if x=Hb then 1 else 6:=⟨_,rfl⟩;have HM:Hid (∀w,Calls Tryz.prog 205 #[Hc #[I n,GZ G6 c,I z,I k,G8 x,I (⟨#[]⟩:ByteArray),G8 Hb,J a len cap]] w λe w'=>e=Ha (GZ G6 q)/\Below w.heap.size w w'):=λw=>by rw[hq];exact kl n c z k x (⟨#[]⟩:ByteArray) Hb a len cap w
  have HQ:Hid (q=if x=Hb then 1 else 6):=hq;clear hq;go_enter Tryz.func204,Tryz.ntmps204;go_wp2_with fail;go_region_with (first|(go_at_call_of 186 (Fz n);refine (F0.out _).mono ?_;rintro e w1 ⟨rfl,rfl⟩)|(go_at_call_of 72 (Value.int G6 c);refine (F1.out _).mono ?_;rintro e w1 ⟨rfl,rfl⟩)|(go_at_call_of 186 (Fz z);refine (F2.out _).mono ?_;rintro e w1 ⟨rfl,rfl⟩)|(go_at_call_of 186 (Fz k);refine (F3.out _).mono ?_;rintro e w1 ⟨rfl,rfl⟩)|(go_at_call_of 193 (Fz (⟨#[]⟩:ByteArray));refine (F4.out _).mono ?_;rintro e w1 ⟨rfl,rfl⟩)|(go_at_call 205;refine (HM.out _).mono ?_;rintro e w1 ⟨rfl,hb⟩;have hc7:=ar (iN hb).1 7;simp only[List.getElem?_toArray,List.getElem?_cons_succ,List.getElem?_cons_zero] at hc7)|(go_at_call 187;refine (fs a len cap zs _ _ (HR.below (iN hb).2.1)).mono ?_;rintro e w2 ⟨r,rfl,hr,rfl⟩));all_goals (
   go_wp2_with fail;go_ret
   exact⟨r,rfl,⟨λh=>⟨p0,p1,p2,p3,p4,(λ_=>rfl),HQ.out ▸ hr.1 h⟩,λh=>hr.2 (HQ.out ▸ h.2.2.2.2.2.2)⟩,(iN hb).2.1⟩)
 have hq9:=bg hm0;go_enter Tryz.func204,Tryz.ntmps204;exact vZ
namespace Rc
theorem iG(x:Nd) (va:Option Addr) (vl vc:Nat) (w:World):
  Calls Tryz.prog 183 #[Hc #[I x.n,I x.z,GZ G6 x.c,GZ G6 x.s,GZ G6 x.u,G8 x.d,J va vl vc]] w λe w'=>e=Ha (I x.n)/\Below w.heap.size w w':=by
 go_enter Tryz.func183,Tryz.ntmps183;go_wp2;go_ret;exact⟨rfl,aq _ _⟩
theorem nr(x:Nd) (va:Option Addr) (vl vc:Nat) (w:World) (hn:x.n.size<=9223372036854775807) (hz:x.z.size<=9223372036854775807) (hr:aD w va vl vc x.zs):
  Calls Tryz.prog 184 #[Hc #[I x.n,I x.z,GZ G6 x.c,GZ G6 x.s,GZ G6 x.u,G8 x.d,J va vl vc]] w (av (qf x) w):=by
 have HR:=ae (hr.below (aq w (G7 (nov x va vl vc) 38)));clear hr;go_enter Tryz.func184,Tryz.ntmps184;go_wp2_with fail;refine (tx x.n x.z x.c x.s x.u x.d va vl vc x.zs _ hn hz HR.out).mono ?_;exact nP
theorem n8(a:Option Addr) (len cap:Nat) (xs:List Nd) (t:ByteArray) (w:World) (hr:a_ w a len cap 7 (xs.map ndF)):
  Calls Tryz.prog 80 #[J a len cap,I t] w λe w'=>e=Ha (Hg #[GZ G6 (pl Nd.n xs t:Nat),G8 (hit Nd.n xs t)])/\Below w.heap.size w w':=by
 obtain⟨HR,hxl,hlc⟩:=gG;clear hr;have hmcalled:∀(v:Value) (w:World),(method 340 38 v "loop.example/g00571/impl.called").run Tryz.prog w=.ok (183,v) w:=λ_ _=>by kernel_rfl
 go_enter Tryz.func80,Tryz.ntmps80;go_wp2;go_loopw [10] (λi wr=> ∃k:Nat,k<=len/\i=GZ G6 k/\Hid (∀(j:Nat) y,j<k->xs[j]?=F_ y->Fx y.n.toList t.toList=Hb)/\Hid (Below w.heap.size w wr)) (λi _=>len - (intOf i).toNat);case atStart=>exact⟨0,by omega,rfl,λj y hj=>by omega,Ft _ _⟩
 case round=>
  obtain⟨k,hk,rfl,HE,HB⟩:=hrel;by_cases hlt:k<len
  ·obtain⟨b,o,x,rfl,hb,hx,hat⟩:=bO (HR.below HB.out) hlt;obtain⟨va,vl,vc,hvr,z0,z1,c0,c1,c2,c3,c4,c5,c6⟩:=aU hat;have HX:=ae hx;clear hat hx z0 z1 hvr;have HC:=ae (λv:World=>iG x va vl vc v);have HB1:=ae (HB.alloc HB.size (G7 (nov x va vl vc) 38));go_wp2_with fail;refine (HC.out _).mono ?_;rintro e w1 ⟨rfl,hb1⟩;obtain⟨g1,-,-⟩:=cX hb1;have hs1:=hb1.size;rw[show (wr.alloc (G7 (nov x va vl vc) 38)).heap.size=wr.heap.size+1 from by simp] at hs1;obtain⟨HB2,d0,d1,d2,d3⟩:=gF;have d4:=ck4 g1;have d5:=ck5 g1;have d6:=ck6 g1;clear g1 hb1 c0 c1 c2 c3 c4 c5 c6 HB1;cases hless:Fx x.n.toList t.toList
   ·go_wp2_with fail;refine (HC.out _).mono ?_;rintro e w2 ⟨rfl,hb2⟩;obtain⟨HB3,hp⟩:=nH;clear hb2;go_wp2_with fail;refine bodyPost_ret (v:=Hg #[GZ G6 k,G8 (x.n.toList==t.toList)]) (by simp[results,Tryz.results80,go_sem]) rfl ⟨?_,HB3.out⟩;unfold hit;rw[hp,HX.out]
   ·exact nS
  ·obtain rfl:k=len:=af
   have hp:pl Nd.n xs t=xs.length:=fp (λj y hy=>HE.out j y h_ hy);have hh:hit Nd.n xs t=G_:=by unfold hit;rw[hp,Gh (Fq _)]
   have HP:=ae hp;have HH:=ae hh;clear hp hh;go_wp2;exact bodyPost_ret (v:=Hg #[GZ G6 k,G8 G_]) (by simp[results,Tryz.results80,go_sem]) rfl ⟨by rw[HP.out,HH.out,hxl],HB.out⟩
def sB(xs:List Nd) (t:ByteArray) (r w:World) (e:Ending) (w':World):Prop:=
 Below w.heap.size w w'/\((hit Nd.n xs t=Hb/\∃(x:Nd) (va:Option Addr) (vl vc:Nat),xs[pl Nd.n xs t]?=F_ x/\x.n=t/\e=Ha (Hg #[Hc #[I x.n,I x.z,GZ G6 x.c,GZ G6 x.s,GZ G6 x.u,G8 x.d,J va vl vc],G8 Hb])/\x.n.size<=9223372036854775807/\x.z.size<=9223372036854775807/\aD r va vl vc x.zs)\/(hit Nd.n xs t=G_/\e=Ha (Hg #[Hc #[I ⟨#[]⟩,I ⟨#[]⟩,GZ G6 0,GZ G6 0,GZ G6 0,G8 G_,J U 0 0],G8 G_])))
theorem qM(a:Option Addr) (len cap:Nat) (xs:List Nd) (t:ByteArray) (r w:World) (hr:a_ r a len cap 7 (xs.map ndF)) (hrw:Below r.heap.size r w):
  Calls Tryz.prog 41 #[J a len cap,I t] w (sB xs t r w):=by
 obtain⟨HR,HRW,hxl⟩:=nD;have HR1:=ae ((hr.below hrw).below (aq w (G7 #[I ⟨#[]⟩,I ⟨#[]⟩,GZ G6 0,GZ G6 0,GZ G6 0,G8 G_,J U 0 0] 38)));clear hr hrw;go_enter Tryz.func41,Tryz.ntmps41;go_wp2_with fail;refine (n8 a len cap xs t _ HR1.out).mono ?_;rintro e w1 ⟨rfl,hb⟩;obtain⟨g1,hb1,-⟩:=cX hb;obtain⟨d0,f0,d1,f1,d2,f2,d3,f3⟩:=ib;obtain⟨d4,f4,d5,f5,d6,f6⟩:=rL;have HB:=ae hb1;have hs1:=hb.size;rw[show (w.alloc (G7 #[I ⟨#[]⟩,I ⟨#[]⟩,GZ G6 0,GZ G6 0,GZ G6 0,G8 G_,J U 0 0] 38)).heap.size=w.heap.size+1 from by simp] at hs1;have hlt1:w.heap.size<w1.heap.size:=af
 clear hb g1 HR1 hs1;cases hh:hit Nd.n xs t
 ·generalize pl Nd.n xs t=j;have HH:=ae hh;clear hh hb1 HR hxl;go_wp2;refine bodyPost_ret (v:=Hg #[Hc #[I ⟨#[]⟩,I ⟨#[]⟩,GZ G6 0,GZ G6 0,GZ G6 0,G8 G_,J U 0 0],G8 G_]) (by simp[results,Tryz.results41,go_sem, *]) rfl ⟨?_,Hd ⟨HH.out,rfl⟩⟩;exact GF (ak (Fq _) (ak (Fq _) (ak (Fq _) (ak (Fq _) (ak (Fq _) (ak (Fq _) (ak (Fq _) (HB.out)))))))) jm _
 ·obtain⟨x,hx,hn⟩:=cm hh;have hj:pl Nd.n xs t<len:=by have:=(Fm.1 hx).1;omega
  obtain⟨b,o,y,rfl,hbl,hy,hat⟩:=bO HR.out hj;rw[hx] at hy;obtain rfl:=Fp hy;obtain⟨va,vl,vc,hvr,z0,z1,c0,c1,c2,c3,c4,c5,c6⟩:=aU hat;obtain⟨hbw,e0,e1,e2,e3⟩:=nL;obtain⟨e4,e5⟩:=uz;have e6:=(aj hb1 hbw).trans ((aj HRW.out hbl).trans c6);have HI:Hid (sB xs t r w (Ha (Hg #[Hc #[I x.n,I x.z,GZ G6 x.c,GZ G6 x.s,GZ G6 x.u,G8 x.d,J va vl vc],G8 Hb])) w):=⟨Ft _ _,He ⟨hh,x,va,vl,vc,hx,hn,rfl,z0,z1,hvr⟩⟩;clear c0 c1 c2 c3 c4 c5 c6 hat hx hn hy hh z0 z1 hvr HR HRW hb1;obtain⟨j,hjj⟩:∃j,pl Nd.n xs t=j:=⟨_,rfl⟩;rw[hjj] at hj;simp only[hjj] at*;clear hjj;go_wp2;refine bodyPost_ret (v:=Hg #[Hc #[I x.n,I x.z,GZ G6 x.c,GZ G6 x.s,GZ G6 x.u,G8 x.d,J va vl vc],G8 Hb]) (by simp[results,Tryz.results41,go_sem, *]) rfl ⟨?_,HI.2⟩;exact ak (Fq _) (ak (Fq _) (ak (Fq _) (ak (Fq _) (ak (Fq _) (ak (Fq _) (ak (Fq _) (HB.out)))))))
theorem fV(d:Ad) (now:Int) (xs:List Nd) (t:ByteArray) (r w:World) (hr:a_ r d.a1 d.l1 d.c1 7 (xs.map ndF)) (hrw:Below r.heap.size r w):
  Calls Tryz.prog 18 #[Hc #[J d.a1 d.l1 d.c1,J d.a2 d.l2 d.c2,J d.a3 d.l3 d.c3,J d.a4 d.l4 d.c4,J d.a5 d.l5 d.c5,GZ G6 now],I t] w (sB xs t r w):=by
 have HR:=ae hr;have HRW:=ae (hrw.trans ((aM w (G7 (clv d now) 29) (G7 #[I ⟨#[]⟩,I ⟨#[]⟩,GZ G6 0,GZ G6 0,GZ G6 0,G8 G_,J U 0 0] 38)).mono hrw.size));clear hr hrw;go_enter Tryz.func18,Tryz.ntmps18;go_wp2_with fail;refine (qM _ _ _ xs t r _ HR.out HRW.out).mono ?_;rintro e w1 ⟨hb,hf⟩;have g1:=(hb.block (w.heap.size+1) aH).trans (cL _ _ _);obtain⟨d0,f0,d1,f1,d2,f2,d3,f3⟩:=ib;obtain⟨d4,f4,d5,f5,d6,f6⟩:=rL;have HB:Hid (Below w.heap.size w w1):=(aM _ _ _).trans (hb.mono bD);clear g1 hb HR HRW;rcases hf with ⟨hh,x,va,vl,vc,hx,hn,rfl,z0,z1,hvr⟩|⟨hh,rfl⟩
 ·have HI:Hid (sB xs t r w (Ha (Hg #[Hc #[I x.n,I x.z,GZ G6 x.c,GZ G6 x.s,GZ G6 x.u,G8 x.d,J va vl vc],G8 Hb])) w):=⟨Ft _ _,He ⟨hh,x,va,vl,vc,hx,hn,rfl,z0,z1,hvr⟩⟩;clear hx hn hh z0 z1 hvr;go_wp2;refine bodyPost_ret (v:=Hg #[Hc #[I x.n,I x.z,GZ G6 x.c,GZ G6 x.s,GZ G6 x.u,G8 x.d,J va vl vc],G8 Hb]) (by simp[results,Tryz.results18,go_sem, *]) rfl ⟨?_,HI.2⟩;exact yq
 ·have HH:=ae hh;clear hh;go_wp2;refine bodyPost_ret (v:=Hg #[Hc #[I ⟨#[]⟩,I ⟨#[]⟩,GZ G6 0,GZ G6 0,GZ G6 0,G8 G_,J U 0 0],G8 G_]) (by simp[results,Tryz.results18,go_sem, *]) rfl ⟨?_,Hd ⟨HH.out,rfl⟩⟩;exact yq
theorem oY(a:Option Addr) (len cap:Nat) (xs:List Nd) (most:Int) (w:World) (hr:a_ w a len cap 7 (xs.map ndF)):
  Calls Tryz.prog 119 #[J a len cap,GZ G6 most] w (av (eF qf Nd.n xs most) w):=by
 obtain⟨HR,hxl,hlc⟩:=gG;clear hr;have hmcalled:∀(v:Value) (w:World),(method 340 38 v "loop.example/g00571/impl.called").run Tryz.prog w=.ok (183,v) w:=λ_ _=>by kernel_rfl
 have hmright:∀(v:Value) (w:World),(method 340 38 v "loop.example/g00571/impl.right").run Tryz.prog w=.ok (184,v) w:=λ_ _=>by kernel_rfl
 by_cases hmo:most<(len:Int)
 ·go_enter Tryz.func119,Tryz.ntmps119;exact ke
 go_enter Tryz.func119,Tryz.ntmps119;go_wp2;go_loopw [5,14] (λq i wr=> ∃(k:Nat) (y:ByteArray),k<=len/\q=I y/\i=GZ G6 k/\Hid (k=0->y=⟨#[]⟩)/\Hid (∀z,0<k->xs[k - 1]?=F_ z->z.n=y)/\Hid (∀(j:Nat) z,j<k->xs[j]?=F_ z->qf z)/\Hid (∀(j:Nat) z u,j+1<k->xs[j+1]?=F_ z->xs[j]?=F_ u->Fx u.n.toList z.n.toList=Hb)/\Hid (Below w.heap.size w wr)) (λ_ i _=>len - (intOf i).toNat);case atStart=>exact⟨0,_,by omega,rfl,rfl,λ_=>rfl,λ_ h=>absurd h af,λ_ _ h=>absurd h af,λ_ _ _ h=>absurd h af,Ft _ _⟩
 case round=>
  obtain⟨k,y,hk,rfl,rfl,H0,H1,HE,HO,HB⟩:=hrel;by_cases hlt:k<len
  ·obtain⟨b,o,x,rfl,hb,hx,hat⟩:=bO (HR.below HB.out) hlt;obtain⟨va,vl,vc,hvr,z0,z1,c0,c1,c2,c3,c4,c5,c6⟩:=aU hat;have HX:=ae hx;have HC:=ae (λv:World=>iG x va vl vc v);have HB1:=ae (HB.alloc HB.size (G7 (nov x va vl vc) 38));have HRt:=ae (nr x va vl vc (wr.alloc (G7 (nov x va vl vc) 38)) z0 z1 (hvr.below (aq _ _)));clear hat hx z0 z1 hvr;go_wp2_with fail;refine HRt.mono ?_;rintro e w1 ⟨r,rfl,hrt,hb1⟩;obtain⟨g1,-,-⟩:=cX hb1;have hs1:=hb1.size;rw[show (wr.alloc (G7 (nov x va vl vc) 38)).heap.size=wr.heap.size+1 from by simp] at hs1;obtain⟨HB2,d0,d1,d2,d3⟩:=gF;have d4:=ck4 g1;have d5:=ck5 g1;have d6:=ck6 g1;have HG:=ae g1;have HI:=ae hrt;clear g1 hb1 HB1 HRt hrt c0 c1 c2 c3 c4 c5 c6;cases r
   ·exact nM
   have HOK:=ae (HI.1 rfl);clear HI;go_wp2_with fail;refine (HC.out _).mono ?_;rintro e w2 ⟨rfl,hb2⟩;obtain⟨HB3,g2,hs2,htri⟩:=nJ;clear HG hb2 HB2 d0 d1 d2 d3 d4 d5 d6;have d0:=ck0 g2;have d1:=ck1 g2;have d2:=ck2 g2;have d3:=ck3 g2;have d4:=ck4 g2;have d5:=ck5 g2;have d6:=ck6 g2;clear g2;cases hless:Fx y.toList x.n.toList
   ·exact nU
   ·rw[hless] at htri;go_wp2_with fail;refine (HC.out _).mono ?_;rintro e w3 ⟨rfl,hb3⟩;have HB4:=ae (HB3.trans (hb3.mono (FA HB.size af)));clear hb3 d0 d1 d2 d3 d4 d5 d6;exact nY
  ·exact nT
theorem iH(x:Kd)  (w:World):
  Calls Tryz.prog 199 #[Hc #[I x.n,G8 x.x,G8 x.y,I x.z]] w λe w'=>e=Ha (I x.n)/\Below w.heap.size w w':=by
 go_enter Tryz.func199,Tryz.ntmps199;go_wp2;go_ret;exact⟨rfl,aq _ _⟩
theorem nt(x:Kd)  (w:World) (hn:x.n.size<=9223372036854775807) (hz:x.z.size<=9223372036854775807):
  Calls Tryz.prog 200 #[Hc #[I x.n,G8 x.x,G8 x.y,I x.z]] w (av (qt x) w):=by
 skip;skip;go_enter Tryz.func200,Tryz.ntmps200;go_wp2_with fail;refine (qE x.n x.z x.x x.y _ hn hz).mono ?_;exact nP
theorem n_(a:Option Addr) (len cap:Nat) (xs:List Kd) (t:ByteArray) (w:World) (hr:a_ w a len cap 4 (xs.map kdF)):
  Calls Tryz.prog 165 #[J a len cap,I t] w λe w'=>e=Ha (Hg #[GZ G6 (pl Kd.n xs t:Nat),G8 (hit Kd.n xs t)])/\Below w.heap.size w w':=by
 obtain⟨HR,hxl,hlc⟩:=gG;clear hr;have hmcalled:∀(v:Value) (w:World),(method 340 92 v "loop.example/g00571/impl.called").run Tryz.prog w=.ok (199,v) w:=λ_ _=>by kernel_rfl
 go_enter Tryz.func165,Tryz.ntmps165;go_wp2;go_loopw [10] (λi wr=> ∃k:Nat,k<=len/\i=GZ G6 k/\Hid (∀(j:Nat) y,j<k->xs[j]?=F_ y->Fx y.n.toList t.toList=Hb)/\Hid (Below w.heap.size w wr)) (λi _=>len - (intOf i).toNat);case atStart=>exact⟨0,by omega,rfl,λj y hj=>by omega,Ft _ _⟩
 case round=>
  obtain⟨k,hk,rfl,HE,HB⟩:=hrel;by_cases hlt:k<len
  ·obtain⟨b,o,x,rfl,hb,hx,hat⟩:=fD (HR.below HB.out) hlt;obtain⟨z0,z3,c0,c1,c2,c3⟩:=cU hat;have HX:=ae hx;clear hat hx z0 z3;have HC:=ae (λv:World=>iH x v);have HB1:=ae (HB.alloc HB.size (G7 #[I x.n,G8 x.x,G8 x.y,I x.z] 92));go_wp2_with fail;refine (HC.out _).mono ?_;rintro e w1 ⟨rfl,hb1⟩;obtain⟨g1,-,-⟩:=cX hb1;have hs1:=hb1.size;rw[show (wr.alloc (G7 #[I x.n,G8 x.x,G8 x.y,I x.z] 92)).heap.size=wr.heap.size+1 from by simp] at hs1;obtain⟨HB2,d0,d1,d2,d3⟩:=gF;clear g1 hb1 c0 c1 c2 c3 HB1;cases hless:Fx x.n.toList t.toList
   ·go_wp2_with fail;refine (HC.out _).mono ?_;rintro e w2 ⟨rfl,hb2⟩;obtain⟨HB3,hp⟩:=nH;clear hb2;go_wp2_with fail;refine bodyPost_ret (v:=Hg #[GZ G6 k,G8 (x.n.toList==t.toList)]) (by simp[results,Tryz.results165,go_sem]) rfl ⟨?_,HB3.out⟩;unfold hit;rw[hp,HX.out]
   ·exact nS
  ·obtain rfl:k=len:=af
   have hp:pl Kd.n xs t=xs.length:=fp (λj y hy=>HE.out j y h_ hy);have hh:hit Kd.n xs t=G_:=by unfold hit;rw[hp,Gh (Fq _)]
   have HP:=ae hp;have HH:=ae hh;clear hp hh;go_wp2;exact bodyPost_ret (v:=Hg #[GZ G6 k,G8 G_]) (by simp[results,Tryz.results165,go_sem]) rfl ⟨by rw[HP.out,HH.out,hxl],HB.out⟩
def sC(xs:List Kd) (t:ByteArray) (_r w:World) (e:Ending) (w':World):Prop:=
 Below w.heap.size w w'/\((hit Kd.n xs t=Hb/\∃(x:Kd),xs[pl Kd.n xs t]?=F_ x/\x.n=t/\e=Ha (Hg #[Hc #[I x.n,G8 x.x,G8 x.y,I x.z],G8 Hb])/\x.n.size<=9223372036854775807/\x.z.size<=9223372036854775807)\/(hit Kd.n xs t=G_/\e=Ha (Hg #[Hc #[I ⟨#[]⟩,G8 G_,G8 G_,I ⟨#[]⟩],G8 G_])))
theorem qN(a:Option Addr) (len cap:Nat) (xs:List Kd) (t:ByteArray) (r w:World) (hr:a_ r a len cap 4 (xs.map kdF)) (hrw:Below r.heap.size r w):
  Calls Tryz.prog 160 #[J a len cap,I t] w (sC xs t r w):=by
 obtain⟨HR,HRW,hxl⟩:=nD;have HR1:=ae ((hr.below hrw).below (aq w (G7 #[I ⟨#[]⟩,G8 G_,G8 G_,I ⟨#[]⟩] 92)));clear hr hrw;go_enter Tryz.func160,Tryz.ntmps160;go_wp2_with fail;refine (n_ a len cap xs t _ HR1.out).mono ?_;rintro e w1 ⟨rfl,hb⟩;obtain⟨g1,hb1,-⟩:=cX hb;obtain⟨d0,f0,d1,f1,d2,f2,d3,f3⟩:=ib;have HB:=ae hb1;have hs1:=hb.size;rw[show (w.alloc (G7 #[I ⟨#[]⟩,G8 G_,G8 G_,I ⟨#[]⟩] 92)).heap.size=w.heap.size+1 from by simp] at hs1;have hlt1:w.heap.size<w1.heap.size:=af
 clear hb g1 HR1 hs1;cases hh:hit Kd.n xs t
 ·generalize pl Kd.n xs t=j;have HH:=ae hh;clear hh hb1 HR hxl;go_wp2;refine bodyPost_ret (v:=Hg #[Hc #[I ⟨#[]⟩,G8 G_,G8 G_,I ⟨#[]⟩],G8 G_]) (by simp[results,Tryz.results160,go_sem, *]) rfl ⟨?_,Hd ⟨HH.out,rfl⟩⟩;exact GF (ak (Fq _) (ak (Fq _) (ak (Fq _) (ak (Fq _) (HB.out))))) jm _
 ·obtain⟨x,hx,hn⟩:=cm hh;have hj:pl Kd.n xs t<len:=by have:=(Fm.1 hx).1;omega
  obtain⟨b,o,y,rfl,hbl,hy,hat⟩:=fD HR.out hj;rw[hx] at hy;obtain rfl:=Fp hy;obtain⟨z0,z3,c0,c1,c2,c3⟩:=cU hat;obtain⟨hbw,e0,e1,e2,e3⟩:=nL;have HI:Hid (sC xs t r w (Ha (Hg #[Hc #[I x.n,G8 x.x,G8 x.y,I x.z],G8 Hb])) w):=⟨Ft _ _,He ⟨hh,x,hx,hn,rfl,z0,z3⟩⟩;clear c0 c1 c2 c3 hat hx hn hy hh z0 z3 HR HRW hb1;obtain⟨j,hjj⟩:∃j,pl Kd.n xs t=j:=⟨_,rfl⟩;rw[hjj] at hj;simp only[hjj] at*;clear hjj;go_wp2;refine bodyPost_ret (v:=Hg #[Hc #[I x.n,G8 x.x,G8 x.y,I x.z],G8 Hb]) (by simp[results,Tryz.results160,go_sem, *]) rfl ⟨?_,HI.2⟩;exact ak (Fq _) (ak (Fq _) (ak (Fq _) (ak (Fq _) (HB.out))))
theorem sH(d:Ad) (now:Int) (xs:List Kd) (t:ByteArray) (r w:World) (hr:a_ r d.a2 d.l2 d.c2 4 (xs.map kdF)) (hrw:Below r.heap.size r w):
  Calls Tryz.prog 151 #[Hc #[J d.a1 d.l1 d.c1,J d.a2 d.l2 d.c2,J d.a3 d.l3 d.c3,J d.a4 d.l4 d.c4,J d.a5 d.l5 d.c5,GZ G6 now],I t] w (sC xs t r w):=by
 have HR:=ae hr;have HRW:=ae (hrw.trans ((aM w (G7 (clv d now) 29) (G7 #[I ⟨#[]⟩,G8 G_,G8 G_,I ⟨#[]⟩] 92)).mono hrw.size));clear hr hrw;go_enter Tryz.func151,Tryz.ntmps151;go_wp2_with fail;refine (qN _ _ _ xs t r _ HR.out HRW.out).mono ?_;rintro e w1 ⟨hb,hf⟩;have g1:=(hb.block (w.heap.size+1) aH).trans (cL _ _ _);obtain⟨d0,f0,d1,f1,d2,f2,d3,f3⟩:=ib;have HB:Hid (Below w.heap.size w w1):=(aM _ _ _).trans (hb.mono bD);clear g1 hb HR HRW;rcases hf with ⟨hh,x,hx,hn,rfl,z0,z3⟩|⟨hh,rfl⟩
 ·have HI:Hid (sC xs t r w (Ha (Hg #[Hc #[I x.n,G8 x.x,G8 x.y,I x.z],G8 Hb])) w):=⟨Ft _ _,He ⟨hh,x,hx,hn,rfl,z0,z3⟩⟩;clear hx hn hh z0 z3;go_wp2;refine bodyPost_ret (v:=Hg #[Hc #[I x.n,G8 x.x,G8 x.y,I x.z],G8 Hb]) (by simp[results,Tryz.results151,go_sem, *]) rfl ⟨?_,HI.2⟩;exact xG
 ·have HH:=ae hh;clear hh;go_wp2;refine bodyPost_ret (v:=Hg #[Hc #[I ⟨#[]⟩,G8 G_,G8 G_,I ⟨#[]⟩],G8 G_]) (by simp[results,Tryz.results151,go_sem, *]) rfl ⟨?_,Hd ⟨HH.out,rfl⟩⟩;exact xG
theorem oZ(a:Option Addr) (len cap:Nat) (xs:List Kd) (most:Int) (w:World) (hr:a_ w a len cap 4 (xs.map kdF)):
  Calls Tryz.prog 120 #[J a len cap,GZ G6 most] w (av (eF qt Kd.n xs most) w):=by
 obtain⟨HR,hxl,hlc⟩:=gG;clear hr;have hmcalled:∀(v:Value) (w:World),(method 340 92 v "loop.example/g00571/impl.called").run Tryz.prog w=.ok (199,v) w:=λ_ _=>by kernel_rfl
 have hmright:∀(v:Value) (w:World),(method 340 92 v "loop.example/g00571/impl.right").run Tryz.prog w=.ok (200,v) w:=λ_ _=>by kernel_rfl
 by_cases hmo:most<(len:Int)
 ·go_enter Tryz.func120,Tryz.ntmps120;exact ke
 go_enter Tryz.func120,Tryz.ntmps120;go_wp2;go_loopw [5,14] (λq i wr=> ∃(k:Nat) (y:ByteArray),k<=len/\q=I y/\i=GZ G6 k/\Hid (k=0->y=⟨#[]⟩)/\Hid (∀z,0<k->xs[k - 1]?=F_ z->z.n=y)/\Hid (∀(j:Nat) z,j<k->xs[j]?=F_ z->qt z)/\Hid (∀(j:Nat) z u,j+1<k->xs[j+1]?=F_ z->xs[j]?=F_ u->Fx u.n.toList z.n.toList=Hb)/\Hid (Below w.heap.size w wr)) (λ_ i _=>len - (intOf i).toNat);case atStart=>exact⟨0,_,by omega,rfl,rfl,λ_=>rfl,λ_ h=>absurd h af,λ_ _ h=>absurd h af,λ_ _ _ h=>absurd h af,Ft _ _⟩
 case round=>
  obtain⟨k,y,hk,rfl,rfl,H0,H1,HE,HO,HB⟩:=hrel;by_cases hlt:k<len
  ·obtain⟨b,o,x,rfl,hb,hx,hat⟩:=fD (HR.below HB.out) hlt;obtain⟨z0,z3,c0,c1,c2,c3⟩:=cU hat;have HX:=ae hx;have HC:=ae (λv:World=>iH x v);have HB1:=ae (HB.alloc HB.size (G7 #[I x.n,G8 x.x,G8 x.y,I x.z] 92));have HRt:=ae (nt x (wr.alloc (G7 #[I x.n,G8 x.x,G8 x.y,I x.z] 92)) z0 z3);clear hat hx z0 z3;go_wp2_with fail;refine HRt.mono ?_;rintro e w1 ⟨r,rfl,hrt,hb1⟩;obtain⟨g1,-,-⟩:=cX hb1;have hs1:=hb1.size;rw[show (wr.alloc (G7 #[I x.n,G8 x.x,G8 x.y,I x.z] 92)).heap.size=wr.heap.size+1 from by simp] at hs1;obtain⟨HB2,d0,d1,d2,d3⟩:=gF;have HG:=ae g1;have HI:=ae hrt;clear g1 hb1 HB1 HRt hrt c0 c1 c2 c3;cases r
   ·exact nM
   have HOK:=ae (HI.1 rfl);clear HI;go_wp2_with fail;refine (HC.out _).mono ?_;rintro e w2 ⟨rfl,hb2⟩;obtain⟨HB3,g2,hs2,htri⟩:=nJ;clear HG hb2 HB2 d0 d1 d2 d3;have d0:=ck0 g2;have d1:=ck1 g2;have d2:=ck2 g2;have d3:=ck3 g2;clear g2;cases hless:Fx y.toList x.n.toList
   ·exact nU
   ·rw[hless] at htri;go_wp2_with fail;refine (HC.out _).mono ?_;rintro e w3 ⟨rfl,hb3⟩;have HB4:=ae (HB3.trans (hb3.mono (FA HB.size af)));clear hb3 d0 d1 d2 d3;exact nY
  ·exact nT
theorem iF(x:Vd) (va:Option Addr) (vl vc:Nat) (w:World):
  Calls Tryz.prog 202 #[Hc #[I x.n,GZ G6 x.c,I x.z,I x.k,G8 x.x,I x.m,G8 x.y,J va vl vc]] w λe w'=>e=Ha (I x.n)/\Below w.heap.size w w':=by
 go_enter Tryz.func202,Tryz.ntmps202;go_wp2;go_ret;exact⟨rfl,aq _ _⟩
theorem np(x:Vd) (va:Option Addr) (vl vc:Nat) (w:World) (hn:x.n.size<=9223372036854775807) (hz:x.z.size<=9223372036854775807) (hk:x.k.size<=9223372036854775807) (hm:x.m.size<=9223372036854775807) (hr:aD w va vl vc x.zs):
  Calls Tryz.prog 203 #[Hc #[I x.n,GZ G6 x.c,I x.z,I x.k,G8 x.x,I x.m,G8 x.y,J va vl vc]] w (av (mS x) w):=by
 have HR:=ae (hr.below (aq w (G7 (vov x va vl vc) 95)));clear hr;go_enter Tryz.func203,Tryz.ntmps203;go_wp2_with fail;refine (y9 x.n x.c x.z x.k x.x x.m x.y va vl vc x.zs _ hn hz hk hm HR.out).mono ?_;exact nP
theorem n7(a:Option Addr) (len cap:Nat) (xs:List Vd) (t:ByteArray) (w:World) (hr:a_ w a len cap 8 (xs.map vdF)):
  Calls Tryz.prog 167 #[J a len cap,I t] w λe w'=>e=Ha (Hg #[GZ G6 (pl Vd.n xs t:Nat),G8 (hit Vd.n xs t)])/\Below w.heap.size w w':=by
 obtain⟨HR,hxl,hlc⟩:=gG;clear hr;have hmcalled:∀(v:Value) (w:World),(method 340 95 v "loop.example/g00571/impl.called").run Tryz.prog w=.ok (202,v) w:=λ_ _=>by kernel_rfl
 go_enter Tryz.func167,Tryz.ntmps167;go_wp2;go_loopw [10] (λi wr=> ∃k:Nat,k<=len/\i=GZ G6 k/\Hid (∀(j:Nat) y,j<k->xs[j]?=F_ y->Fx y.n.toList t.toList=Hb)/\Hid (Below w.heap.size w wr)) (λi _=>len - (intOf i).toNat);case atStart=>exact⟨0,by omega,rfl,λj y hj=>by omega,Ft _ _⟩
 case round=>
  obtain⟨k,hk,rfl,HE,HB⟩:=hrel;by_cases hlt:k<len
  ·obtain⟨b,o,x,rfl,hb,hx,hat⟩:=bM (HR.below HB.out) hlt;obtain⟨va,vl,vc,hvr,z0,z2,z3,z5,c0,c1,c2,c3,c4,c5,c6,c7⟩:=aP hat;have HX:=ae hx;clear hat hx z0 z2 z3 z5 hvr;have HC:=ae (λv:World=>iF x va vl vc v);have HB1:=ae (HB.alloc HB.size (G7 (vov x va vl vc) 95));go_wp2_with fail;refine (HC.out _).mono ?_;rintro e w1 ⟨rfl,hb1⟩;obtain⟨g1,-,-⟩:=cX hb1;have hs1:=hb1.size;rw[show (wr.alloc (G7 (vov x va vl vc) 95)).heap.size=wr.heap.size+1 from by simp] at hs1;obtain⟨HB2,d0,d1,d2,d3⟩:=gF;have d4:=ck4 g1;have d5:=ck5 g1;have d6:=ck6 g1;have d7:=ck7 g1;clear g1 hb1 c0 c1 c2 c3 c4 c5 c6 c7 HB1;cases hless:Fx x.n.toList t.toList
   ·go_wp2_with fail;refine (HC.out _).mono ?_;rintro e w2 ⟨rfl,hb2⟩;obtain⟨HB3,hp⟩:=nH;clear hb2;go_wp2_with fail;refine bodyPost_ret (v:=Hg #[GZ G6 k,G8 (x.n.toList==t.toList)]) (by simp[results,Tryz.results167,go_sem]) rfl ⟨?_,HB3.out⟩;unfold hit;rw[hp,HX.out]
   ·exact nS
  ·obtain rfl:k=len:=af
   have hp:pl Vd.n xs t=xs.length:=fp (λj y hy=>HE.out j y h_ hy);have hh:hit Vd.n xs t=G_:=by unfold hit;rw[hp,Gh (Fq _)]
   have HP:=ae hp;have HH:=ae hh;clear hp hh;go_wp2;exact bodyPost_ret (v:=Hg #[GZ G6 k,G8 G_]) (by simp[results,Tryz.results167,go_sem]) rfl ⟨by rw[HP.out,HH.out,hxl],HB.out⟩
def sA(xs:List Vd) (t:ByteArray) (r w:World) (e:Ending) (w':World):Prop:=
 Below w.heap.size w w'/\((hit Vd.n xs t=Hb/\∃(x:Vd) (va:Option Addr) (vl vc:Nat),xs[pl Vd.n xs t]?=F_ x/\x.n=t/\e=Ha (Hg #[Hc #[I x.n,GZ G6 x.c,I x.z,I x.k,G8 x.x,I x.m,G8 x.y,J va vl vc],G8 Hb])/\x.n.size<=9223372036854775807/\x.z.size<=9223372036854775807/\x.k.size<=9223372036854775807/\x.m.size<=9223372036854775807/\aD r va vl vc x.zs)\/(hit Vd.n xs t=G_/\e=Ha (Hg #[Hc #[I ⟨#[]⟩,GZ G6 0,I ⟨#[]⟩,I ⟨#[]⟩,G8 G_,I ⟨#[]⟩,G8 G_,J U 0 0],G8 G_])))
theorem qK(a:Option Addr) (len cap:Nat) (xs:List Vd) (t:ByteArray) (r w:World) (hr:a_ r a len cap 8 (xs.map vdF)) (hrw:Below r.heap.size r w):
  Calls Tryz.prog 162 #[J a len cap,I t] w (sA xs t r w):=by
 obtain⟨HR,HRW,hxl⟩:=nD;have HR1:=ae ((hr.below hrw).below (aq w (G7 #[I ⟨#[]⟩,GZ G6 0,I ⟨#[]⟩,I ⟨#[]⟩,G8 G_,I ⟨#[]⟩,G8 G_,J U 0 0] 95)));clear hr hrw;go_enter Tryz.func162,Tryz.ntmps162;go_wp2_with fail;refine (n7 a len cap xs t _ HR1.out).mono ?_;rintro e w1 ⟨rfl,hb⟩;obtain⟨g1,hb1,-⟩:=cX hb;obtain⟨d0,f0,d1,f1,d2,f2,d3,f3⟩:=ib;obtain⟨d4,f4,d5,f5,d6,f6⟩:=rL;have d7:=ck7 g1;have f7:=al g1 7;have HB:=ae hb1;have hs1:=hb.size;rw[show (w.alloc (G7 #[I ⟨#[]⟩,GZ G6 0,I ⟨#[]⟩,I ⟨#[]⟩,G8 G_,I ⟨#[]⟩,G8 G_,J U 0 0] 95)).heap.size=w.heap.size+1 from by simp] at hs1;have hlt1:w.heap.size<w1.heap.size:=af
 clear hb g1 HR1 hs1;cases hh:hit Vd.n xs t
 ·generalize pl Vd.n xs t=j;have HH:=ae hh;clear hh hb1 HR hxl;go_wp2;refine bodyPost_ret (v:=Hg #[Hc #[I ⟨#[]⟩,GZ G6 0,I ⟨#[]⟩,I ⟨#[]⟩,G8 G_,I ⟨#[]⟩,G8 G_,J U 0 0],G8 G_]) (by simp[results,Tryz.results162,go_sem, *]) rfl ⟨?_,Hd ⟨HH.out,rfl⟩⟩;exact GF (ak (Fq _) (ak (Fq _) (ak (Fq _) (ak (Fq _) (ak (Fq _) (ak (Fq _) (ak (Fq _) (ak (Fq _) (HB.out))))))))) jm _
 ·obtain⟨x,hx,hn⟩:=cm hh;have hj:pl Vd.n xs t<len:=by have:=(Fm.1 hx).1;omega
  obtain⟨b,o,y,rfl,hbl,hy,hat⟩:=bM HR.out hj;rw[hx] at hy;obtain rfl:=Fp hy;obtain⟨va,vl,vc,hvr,z0,z2,z3,z5,c0,c1,c2,c3,c4,c5,c6,c7⟩:=aP hat;obtain⟨hbw,e0,e1,e2,e3⟩:=nL;obtain⟨e4,e5⟩:=uz;have e6:=(aj hb1 hbw).trans ((aj HRW.out hbl).trans c6);have e7:=(aj hb1 hbw).trans ((aj HRW.out hbl).trans c7);have HI:Hid (sA xs t r w (Ha (Hg #[Hc #[I x.n,GZ G6 x.c,I x.z,I x.k,G8 x.x,I x.m,G8 x.y,J va vl vc],G8 Hb])) w):=⟨Ft _ _,He ⟨hh,x,va,vl,vc,hx,hn,rfl,z0,z2,z3,z5,hvr⟩⟩;clear c0 c1 c2 c3 c4 c5 c6 c7 hat hx hn hy hh z0 z2 z3 z5 hvr HR HRW hb1;obtain⟨j,hjj⟩:∃j,pl Vd.n xs t=j:=⟨_,rfl⟩;rw[hjj] at hj;simp only[hjj] at*;clear hjj;go_wp2;refine bodyPost_ret (v:=Hg #[Hc #[I x.n,GZ G6 x.c,I x.z,I x.k,G8 x.x,I x.m,G8 x.y,J va vl vc],G8 Hb]) (by simp[results,Tryz.results162,go_sem, *]) rfl ⟨?_,HI.2⟩;exact ak (Fq _) (ak (Fq _) (ak (Fq _) (ak (Fq _) (ak (Fq _) (ak (Fq _) (ak (Fq _) (ak (Fq _) (HB.out))))))))
theorem eT(d:Ad) (now:Int) (xs:List Vd) (t:ByteArray) (r w:World) (hr:a_ r d.a3 d.l3 d.c3 8 (xs.map vdF)) (hrw:Below r.heap.size r w):
  Calls Tryz.prog 153 #[Hc #[J d.a1 d.l1 d.c1,J d.a2 d.l2 d.c2,J d.a3 d.l3 d.c3,J d.a4 d.l4 d.c4,J d.a5 d.l5 d.c5,GZ G6 now],I t] w (sA xs t r w):=by
 have HR:=ae hr;have HRW:=ae (hrw.trans ((aM w (G7 (clv d now) 29) (G7 #[I ⟨#[]⟩,GZ G6 0,I ⟨#[]⟩,I ⟨#[]⟩,G8 G_,I ⟨#[]⟩,G8 G_,J U 0 0] 95)).mono hrw.size));clear hr hrw;go_enter Tryz.func153,Tryz.ntmps153;go_wp2_with fail;refine (qK _ _ _ xs t r _ HR.out HRW.out).mono ?_;rintro e w1 ⟨hb,hf⟩;have g1:=(hb.block (w.heap.size+1) aH).trans (cL _ _ _);obtain⟨d0,f0,d1,f1,d2,f2,d3,f3⟩:=ib;obtain⟨d4,f4,d5,f5,d6,f6⟩:=rL;have d7:=ck7 g1;have f7:=al g1 7;have HB:Hid (Below w.heap.size w w1):=(aM _ _ _).trans (hb.mono bD);clear g1 hb HR HRW;rcases hf with ⟨hh,x,va,vl,vc,hx,hn,rfl,z0,z2,z3,z5,hvr⟩|⟨hh,rfl⟩
 ·have HI:Hid (sA xs t r w (Ha (Hg #[Hc #[I x.n,GZ G6 x.c,I x.z,I x.k,G8 x.x,I x.m,G8 x.y,J va vl vc],G8 Hb])) w):=⟨Ft _ _,He ⟨hh,x,va,vl,vc,hx,hn,rfl,z0,z2,z3,z5,hvr⟩⟩;clear hx hn hh z0 z2 z3 z5 hvr;go_wp2;refine bodyPost_ret (v:=Hg #[Hc #[I x.n,GZ G6 x.c,I x.z,I x.k,G8 x.x,I x.m,G8 x.y,J va vl vc],G8 Hb]) (by simp[results,Tryz.results153,go_sem, *]) rfl ⟨?_,HI.2⟩;exact yD
 ·have HH:=ae hh;clear hh;go_wp2;refine bodyPost_ret (v:=Hg #[Hc #[I ⟨#[]⟩,GZ G6 0,I ⟨#[]⟩,I ⟨#[]⟩,G8 G_,I ⟨#[]⟩,G8 G_,J U 0 0],G8 G_]) (by simp[results,Tryz.results153,go_sem, *]) rfl ⟨?_,Hd ⟨HH.out,rfl⟩⟩;exact yD
theorem oW(a:Option Addr) (len cap:Nat) (xs:List Vd) (most:Int) (w:World) (hr:a_ w a len cap 8 (xs.map vdF)):
  Calls Tryz.prog 121 #[J a len cap,GZ G6 most] w (av (eF mS Vd.n xs most) w):=by
 obtain⟨HR,hxl,hlc⟩:=gG;clear hr;have hmcalled:∀(v:Value) (w:World),(method 340 95 v "loop.example/g00571/impl.called").run Tryz.prog w=.ok (202,v) w:=λ_ _=>by kernel_rfl
 have hmright:∀(v:Value) (w:World),(method 340 95 v "loop.example/g00571/impl.right").run Tryz.prog w=.ok (203,v) w:=λ_ _=>by kernel_rfl
 by_cases hmo:most<(len:Int)
 ·go_enter Tryz.func121,Tryz.ntmps121;exact ke
 go_enter Tryz.func121,Tryz.ntmps121;go_wp2;go_loopw [5,14] (λq i wr=> ∃(k:Nat) (y:ByteArray),k<=len/\q=I y/\i=GZ G6 k/\Hid (k=0->y=⟨#[]⟩)/\Hid (∀z,0<k->xs[k - 1]?=F_ z->z.n=y)/\Hid (∀(j:Nat) z,j<k->xs[j]?=F_ z->mS z)/\Hid (∀(j:Nat) z u,j+1<k->xs[j+1]?=F_ z->xs[j]?=F_ u->Fx u.n.toList z.n.toList=Hb)/\Hid (Below w.heap.size w wr)) (λ_ i _=>len - (intOf i).toNat);case atStart=>exact⟨0,_,by omega,rfl,rfl,λ_=>rfl,λ_ h=>absurd h af,λ_ _ h=>absurd h af,λ_ _ _ h=>absurd h af,Ft _ _⟩
 case round=>
  obtain⟨k,y,hk,rfl,rfl,H0,H1,HE,HO,HB⟩:=hrel;by_cases hlt:k<len
  ·obtain⟨b,o,x,rfl,hb,hx,hat⟩:=bM (HR.below HB.out) hlt;obtain⟨va,vl,vc,hvr,z0,z2,z3,z5,c0,c1,c2,c3,c4,c5,c6,c7⟩:=aP hat;have HX:=ae hx;have HC:=ae (λv:World=>iF x va vl vc v);have HB1:=ae (HB.alloc HB.size (G7 (vov x va vl vc) 95));have HRt:=ae (np x va vl vc (wr.alloc (G7 (vov x va vl vc) 95)) z0 z2 z3 z5 (hvr.below (aq _ _)));clear hat hx z0 z2 z3 z5 hvr;go_wp2_with fail;refine HRt.mono ?_;rintro e w1 ⟨r,rfl,hrt,hb1⟩;obtain⟨g1,-,-⟩:=cX hb1;have hs1:=hb1.size;rw[show (wr.alloc (G7 (vov x va vl vc) 95)).heap.size=wr.heap.size+1 from by simp] at hs1;obtain⟨HB2,d0,d1,d2,d3⟩:=gF;have d4:=ck4 g1;have d5:=ck5 g1;have d6:=ck6 g1;have d7:=ck7 g1;have HG:=ae g1;have HI:=ae hrt;clear g1 hb1 HB1 HRt hrt c0 c1 c2 c3 c4 c5 c6 c7;cases r
   ·exact nM
   have HOK:=ae (HI.1 rfl);clear HI;go_wp2_with fail;refine (HC.out _).mono ?_;rintro e w2 ⟨rfl,hb2⟩;obtain⟨HB3,g2,hs2,htri⟩:=nJ;clear HG hb2 HB2 d0 d1 d2 d3 d4 d5 d6 d7;have d0:=ck0 g2;have d1:=ck1 g2;have d2:=ck2 g2;have d3:=ck3 g2;have d4:=ck4 g2;have d5:=ck5 g2;have d6:=ck6 g2;have d7:=ck7 g2;clear g2;cases hless:Fx y.toList x.n.toList
   ·exact nU
   ·rw[hless] at htri;go_wp2_with fail;refine (HC.out _).mono ?_;rintro e w3 ⟨rfl,hb3⟩;have HB4:=ae (HB3.trans (hb3.mono (FA HB.size af)));clear hb3 d0 d1 d2 d3 d4 d5 d6 d7;exact nY
  ·exact nT
theorem iE(x:Xd)  (w:World):
  Calls Tryz.prog 206 #[Hc #[I x.n,GZ G6 x.z,I x.k,G8 x.x,I x.v]] w λe w'=>e=Ha (I x.n)/\Below w.heap.size w w':=by
 go_enter Tryz.func206,Tryz.ntmps206;go_wp2;go_ret;exact⟨rfl,aq _ _⟩
theorem nk(x:Xd)  (w:World) (hn:x.n.size<=9223372036854775807) (hk:x.k.size<=9223372036854775807) (hv:x.v.size<=9223372036854775807):
  Calls Tryz.prog 207 #[Hc #[I x.n,GZ G6 x.z,I x.k,G8 x.x,I x.v]] w (av (fH x) w):=by
 skip;skip;go_enter Tryz.func207,Tryz.ntmps207;go_wp2_with fail;refine (qF x.n x.z x.k x.x x.v _ hn hk hv).mono ?_;exact nP
theorem nZ(a:Option Addr) (len cap:Nat) (xs:List Xd) (t:ByteArray) (w:World) (hr:a_ w a len cap 5 (xs.map xdF)):
  Calls Tryz.prog 166 #[J a len cap,I t] w λe w'=>e=Ha (Hg #[GZ G6 (pl Xd.n xs t:Nat),G8 (hit Xd.n xs t)])/\Below w.heap.size w w':=by
 obtain⟨HR,hxl,hlc⟩:=gG;clear hr;have hmcalled:∀(v:Value) (w:World),(method 340 97 v "loop.example/g00571/impl.called").run Tryz.prog w=.ok (206,v) w:=λ_ _=>by kernel_rfl
 go_enter Tryz.func166,Tryz.ntmps166;go_wp2;go_loopw [10] (λi wr=> ∃k:Nat,k<=len/\i=GZ G6 k/\Hid (∀(j:Nat) y,j<k->xs[j]?=F_ y->Fx y.n.toList t.toList=Hb)/\Hid (Below w.heap.size w wr)) (λi _=>len - (intOf i).toNat);case atStart=>exact⟨0,by omega,rfl,λj y hj=>by omega,Ft _ _⟩
 case round=>
  obtain⟨k,hk,rfl,HE,HB⟩:=hrel;by_cases hlt:k<len
  ·obtain⟨b,o,x,rfl,hb,hx,hat⟩:=dM (HR.below HB.out) hlt;obtain⟨z0,z2,z4,c0,c1,c2,c3,c4⟩:=bS hat;have HX:=ae hx;clear hat hx z0 z2 z4;have HC:=ae (λv:World=>iE x v);have HB1:=ae (HB.alloc HB.size (G7 (xov x) 97));go_wp2_with fail;refine (HC.out _).mono ?_;rintro e w1 ⟨rfl,hb1⟩;obtain⟨g1,-,-⟩:=cX hb1;have hs1:=hb1.size;rw[show (wr.alloc (G7 (xov x) 97)).heap.size=wr.heap.size+1 from by simp] at hs1;obtain⟨HB2,d0,d1,d2,d3⟩:=gF;have d4:=ck4 g1;clear g1 hb1 c0 c1 c2 c3 c4 HB1;cases hless:Fx x.n.toList t.toList
   ·go_wp2_with fail;refine (HC.out _).mono ?_;rintro e w2 ⟨rfl,hb2⟩;obtain⟨HB3,hp⟩:=nH;clear hb2;go_wp2_with fail;refine bodyPost_ret (v:=Hg #[GZ G6 k,G8 (x.n.toList==t.toList)]) (by simp[results,Tryz.results166,go_sem]) rfl ⟨?_,HB3.out⟩;unfold hit;rw[hp,HX.out]
   ·exact nS
  ·obtain rfl:k=len:=af
   have hp:pl Xd.n xs t=xs.length:=fp (λj y hy=>HE.out j y h_ hy);have hh:hit Xd.n xs t=G_:=by unfold hit;rw[hp,Gh (Fq _)]
   have HP:=ae hp;have HH:=ae hh;clear hp hh;go_wp2;exact bodyPost_ret (v:=Hg #[GZ G6 k,G8 G_]) (by simp[results,Tryz.results166,go_sem]) rfl ⟨by rw[HP.out,HH.out,hxl],HB.out⟩
def sy(xs:List Xd) (t:ByteArray) (_r w:World) (e:Ending) (w':World):Prop:=
 Below w.heap.size w w'/\((hit Xd.n xs t=Hb/\∃(x:Xd),xs[pl Xd.n xs t]?=F_ x/\x.n=t/\e=Ha (Hg #[Hc #[I x.n,GZ G6 x.z,I x.k,G8 x.x,I x.v],G8 Hb])/\x.n.size<=9223372036854775807/\x.k.size<=9223372036854775807/\x.v.size<=9223372036854775807)\/(hit Xd.n xs t=G_/\e=Ha (Hg #[Hc #[I ⟨#[]⟩,GZ G6 0,I ⟨#[]⟩,G8 G_,I ⟨#[]⟩],G8 G_])))
theorem qJ(a:Option Addr) (len cap:Nat) (xs:List Xd) (t:ByteArray) (r w:World) (hr:a_ r a len cap 5 (xs.map xdF)) (hrw:Below r.heap.size r w):
  Calls Tryz.prog 161 #[J a len cap,I t] w (sy xs t r w):=by
 obtain⟨HR,HRW,hxl⟩:=nD;have HR1:=ae ((hr.below hrw).below (aq w (G7 #[I ⟨#[]⟩,GZ G6 0,I ⟨#[]⟩,G8 G_,I ⟨#[]⟩] 97)));clear hr hrw;go_enter Tryz.func161,Tryz.ntmps161;go_wp2_with fail;refine (nZ a len cap xs t _ HR1.out).mono ?_;rintro e w1 ⟨rfl,hb⟩;obtain⟨g1,hb1,-⟩:=cX hb;obtain⟨d0,f0,d1,f1,d2,f2,d3,f3⟩:=ib;have d4:=ck4 g1;have f4:=al g1 4;have HB:=ae hb1;have hs1:=hb.size;rw[show (w.alloc (G7 #[I ⟨#[]⟩,GZ G6 0,I ⟨#[]⟩,G8 G_,I ⟨#[]⟩] 97)).heap.size=w.heap.size+1 from by simp] at hs1;have hlt1:w.heap.size<w1.heap.size:=af
 clear hb g1 HR1 hs1;cases hh:hit Xd.n xs t
 ·generalize pl Xd.n xs t=j;have HH:=ae hh;clear hh hb1 HR hxl;go_wp2;refine bodyPost_ret (v:=Hg #[Hc #[I ⟨#[]⟩,GZ G6 0,I ⟨#[]⟩,G8 G_,I ⟨#[]⟩],G8 G_]) (by simp[results,Tryz.results161,go_sem, *]) rfl ⟨?_,Hd ⟨HH.out,rfl⟩⟩;exact GF (ak (Fq _) (ak (Fq _) (ak (Fq _) (ak (Fq _) (ak (Fq _) (HB.out)))))) jm _
 ·obtain⟨x,hx,hn⟩:=cm hh;have hj:pl Xd.n xs t<len:=by have:=(Fm.1 hx).1;omega
  obtain⟨b,o,y,rfl,hbl,hy,hat⟩:=dM HR.out hj;rw[hx] at hy;obtain rfl:=Fp hy;obtain⟨z0,z2,z4,c0,c1,c2,c3,c4⟩:=bS hat;obtain⟨hbw,e0,e1,e2,e3⟩:=nL;have e4:=(aj hb1 hbw).trans ((aj HRW.out hbl).trans c4);have HI:Hid (sy xs t r w (Ha (Hg #[Hc #[I x.n,GZ G6 x.z,I x.k,G8 x.x,I x.v],G8 Hb])) w):=⟨Ft _ _,He ⟨hh,x,hx,hn,rfl,z0,z2,z4⟩⟩;clear c0 c1 c2 c3 c4 hat hx hn hy hh z0 z2 z4 HR HRW hb1;obtain⟨j,hjj⟩:∃j,pl Xd.n xs t=j:=⟨_,rfl⟩;rw[hjj] at hj;simp only[hjj] at*;clear hjj;go_wp2;refine bodyPost_ret (v:=Hg #[Hc #[I x.n,GZ G6 x.z,I x.k,G8 x.x,I x.v],G8 Hb]) (by simp[results,Tryz.results161,go_sem, *]) rfl ⟨?_,HI.2⟩;exact ak (Fq _) (ak (Fq _) (ak (Fq _) (ak (Fq _) (ak (Fq _) (HB.out)))))
theorem iK(d:Ad) (now:Int) (xs:List Xd) (t:ByteArray) (r w:World) (hr:a_ r d.a4 d.l4 d.c4 5 (xs.map xdF)) (hrw:Below r.heap.size r w):
  Calls Tryz.prog 152 #[Hc #[J d.a1 d.l1 d.c1,J d.a2 d.l2 d.c2,J d.a3 d.l3 d.c3,J d.a4 d.l4 d.c4,J d.a5 d.l5 d.c5,GZ G6 now],I t] w (sy xs t r w):=by
 have HR:=ae hr;have HRW:=ae (hrw.trans ((aM w (G7 (clv d now) 29) (G7 #[I ⟨#[]⟩,GZ G6 0,I ⟨#[]⟩,G8 G_,I ⟨#[]⟩] 97)).mono hrw.size));clear hr hrw;go_enter Tryz.func152,Tryz.ntmps152;go_wp2_with fail;refine (qJ _ _ _ xs t r _ HR.out HRW.out).mono ?_;rintro e w1 ⟨hb,hf⟩;have g1:=(hb.block (w.heap.size+1) aH).trans (cL _ _ _);obtain⟨d0,f0,d1,f1,d2,f2,d3,f3⟩:=ib;have d4:=ck4 g1;have f4:=al g1 4;have HB:Hid (Below w.heap.size w w1):=(aM _ _ _).trans (hb.mono bD);clear g1 hb HR HRW;rcases hf with ⟨hh,x,hx,hn,rfl,z0,z2,z4⟩|⟨hh,rfl⟩
 ·have HI:Hid (sy xs t r w (Ha (Hg #[Hc #[I x.n,GZ G6 x.z,I x.k,G8 x.x,I x.v],G8 Hb])) w):=⟨Ft _ _,He ⟨hh,x,hx,hn,rfl,z0,z2,z4⟩⟩;clear hx hn hh z0 z2 z4;go_wp2;refine bodyPost_ret (v:=Hg #[Hc #[I x.n,GZ G6 x.z,I x.k,G8 x.x,I x.v],G8 Hb]) (by simp[results,Tryz.results152,go_sem, *]) rfl ⟨?_,HI.2⟩;exact yb
 ·have HH:=ae hh;clear hh;go_wp2;refine bodyPost_ret (v:=Hg #[Hc #[I ⟨#[]⟩,GZ G6 0,I ⟨#[]⟩,G8 G_,I ⟨#[]⟩],G8 G_]) (by simp[results,Tryz.results152,go_sem, *]) rfl ⟨?_,Hd ⟨HH.out,rfl⟩⟩;exact yb
theorem oV(a:Option Addr) (len cap:Nat) (xs:List Xd) (most:Int) (w:World) (hr:a_ w a len cap 5 (xs.map xdF)):
  Calls Tryz.prog 122 #[J a len cap,GZ G6 most] w (av (eF fH Xd.n xs most) w):=by
 obtain⟨HR,hxl,hlc⟩:=gG;clear hr;have hmcalled:∀(v:Value) (w:World),(method 340 97 v "loop.example/g00571/impl.called").run Tryz.prog w=.ok (206,v) w:=λ_ _=>by kernel_rfl
 have hmright:∀(v:Value) (w:World),(method 340 97 v "loop.example/g00571/impl.right").run Tryz.prog w=.ok (207,v) w:=λ_ _=>by kernel_rfl
 by_cases hmo:most<(len:Int)
 ·go_enter Tryz.func122,Tryz.ntmps122;exact ke
 go_enter Tryz.func122,Tryz.ntmps122;go_wp2;go_loopw [5,14] (λq i wr=> ∃(k:Nat) (y:ByteArray),k<=len/\q=I y/\i=GZ G6 k/\Hid (k=0->y=⟨#[]⟩)/\Hid (∀z,0<k->xs[k - 1]?=F_ z->z.n=y)/\Hid (∀(j:Nat) z,j<k->xs[j]?=F_ z->fH z)/\Hid (∀(j:Nat) z u,j+1<k->xs[j+1]?=F_ z->xs[j]?=F_ u->Fx u.n.toList z.n.toList=Hb)/\Hid (Below w.heap.size w wr)) (λ_ i _=>len - (intOf i).toNat);case atStart=>exact⟨0,_,by omega,rfl,rfl,λ_=>rfl,λ_ h=>absurd h af,λ_ _ h=>absurd h af,λ_ _ _ h=>absurd h af,Ft _ _⟩
 case round=>
  obtain⟨k,y,hk,rfl,rfl,H0,H1,HE,HO,HB⟩:=hrel;by_cases hlt:k<len
  ·obtain⟨b,o,x,rfl,hb,hx,hat⟩:=dM (HR.below HB.out) hlt;obtain⟨z0,z2,z4,c0,c1,c2,c3,c4⟩:=bS hat;have HX:=ae hx;have HC:=ae (λv:World=>iE x v);have HB1:=ae (HB.alloc HB.size (G7 (xov x) 97));have HRt:=ae (nk x (wr.alloc (G7 (xov x) 97)) z0 z2 z4);clear hat hx z0 z2 z4;go_wp2_with fail;refine HRt.mono ?_;rintro e w1 ⟨r,rfl,hrt,hb1⟩;obtain⟨g1,-,-⟩:=cX hb1;have hs1:=hb1.size;rw[show (wr.alloc (G7 (xov x) 97)).heap.size=wr.heap.size+1 from by simp] at hs1;obtain⟨HB2,d0,d1,d2,d3⟩:=gF;have d4:=ck4 g1;have HG:=ae g1;have HI:=ae hrt;clear g1 hb1 HB1 HRt hrt c0 c1 c2 c3 c4;cases r
   ·exact nM
   have HOK:=ae (HI.1 rfl);clear HI;go_wp2_with fail;refine (HC.out _).mono ?_;rintro e w2 ⟨rfl,hb2⟩;obtain⟨HB3,g2,hs2,htri⟩:=nJ;clear HG hb2 HB2 d0 d1 d2 d3 d4;have d0:=ck0 g2;have d1:=ck1 g2;have d2:=ck2 g2;have d3:=ck3 g2;have d4:=ck4 g2;clear g2;cases hless:Fx y.toList x.n.toList
   ·exact nU
   ·rw[hless] at htri;go_wp2_with fail;refine (HC.out _).mono ?_;rintro e w3 ⟨rfl,hb3⟩;have HB4:=ae (HB3.trans (hb3.mono (FA HB.size af)));clear hb3 d0 d1 d2 d3 d4;exact nY
  ·exact nT
theorem dZ(x:Pd) (va:Option Addr) (vl vc:Nat) (w:World):
  Calls Tryz.prog 190 #[Hc #[I x.n,GZ G6 x.c,I x.z,J va vl vc,I x.d,GZ G6 x.p]] w λe w'=>e=Ha (I x.n)/\Below w.heap.size w w':=by
 go_enter Tryz.func190,Tryz.ntmps190;go_wp2;go_ret;exact⟨rfl,aq _ _⟩
theorem nq(x:Pd) (va:Option Addr) (vl vc:Nat) (w:World) (hn:x.n.size<=9223372036854775807) (hz:x.z.size<=9223372036854775807) (hd:x.d.size<=9223372036854775807) (hr:aD w va vl vc x.zs):
  Calls Tryz.prog 191 #[Hc #[I x.n,GZ G6 x.c,I x.z,J va vl vc,I x.d,GZ G6 x.p]] w (av (ob x) w):=by
 have HR:=ae (hr.below (aq w (G7 (pov x va vl vc) 40)));clear hr;go_enter Tryz.func191,Tryz.ntmps191;go_wp2_with fail;refine (zg x.n x.c x.z va vl vc x.zs x.d x.p _ hn hz hd HR.out).mono ?_;exact nP
theorem jz(a:Option Addr) (len cap:Nat) (xs:List Pd) (t:ByteArray) (w:World) (hr:a_ w a len cap 6 (xs.map pdF)):
  Calls Tryz.prog 78 #[J a len cap,I t] w λe w'=>e=Ha (Hg #[GZ G6 (pl Pd.n xs t:Nat),G8 (hit Pd.n xs t)])/\Below w.heap.size w w':=by
 obtain⟨HR,hxl,hlc⟩:=gG;clear hr;have hmcalled:∀(v:Value) (w:World),(method 340 40 v "loop.example/g00571/impl.called").run Tryz.prog w=.ok (190,v) w:=λ_ _=>by kernel_rfl
 go_enter Tryz.func78,Tryz.ntmps78;go_wp2;go_loopw [10] (λi wr=> ∃k:Nat,k<=len/\i=GZ G6 k/\Hid (∀(j:Nat) y,j<k->xs[j]?=F_ y->Fx y.n.toList t.toList=Hb)/\Hid (Below w.heap.size w wr)) (λi _=>len - (intOf i).toNat);case atStart=>exact⟨0,by omega,rfl,λj y hj=>by omega,Ft _ _⟩
 case round=>
  obtain⟨k,hk,rfl,HE,HB⟩:=hrel;by_cases hlt:k<len
  ·obtain⟨b,o,x,rfl,hb,hx,hat⟩:=bN (HR.below HB.out) hlt;obtain⟨va,vl,vc,hvr,z0,z2,z4,c0,c1,c2,c3,c4,c5⟩:=aR hat;have HX:=ae hx;clear hat hx z0 z2 z4 hvr;have HC:=ae (λv:World=>dZ x va vl vc v);have HB1:=ae (HB.alloc HB.size (G7 (pov x va vl vc) 40));go_wp2_with fail;refine (HC.out _).mono ?_;rintro e w1 ⟨rfl,hb1⟩;obtain⟨g1,-,-⟩:=cX hb1;have hs1:=hb1.size;rw[show (wr.alloc (G7 (pov x va vl vc) 40)).heap.size=wr.heap.size+1 from by simp] at hs1;obtain⟨HB2,d0,d1,d2,d3⟩:=gF;have d4:=ck4 g1;have d5:=ck5 g1;clear g1 hb1 c0 c1 c2 c3 c4 c5 HB1;cases hless:Fx x.n.toList t.toList
   ·go_wp2_with fail;refine (HC.out _).mono ?_;rintro e w2 ⟨rfl,hb2⟩;obtain⟨HB3,hp⟩:=nH;clear hb2;go_wp2_with fail;refine bodyPost_ret (v:=Hg #[GZ G6 k,G8 (x.n.toList==t.toList)]) (by simp[results,Tryz.results78,go_sem]) rfl ⟨?_,HB3.out⟩;unfold hit;rw[hp,HX.out]
   ·exact nS
  ·obtain rfl:k=len:=af
   have hp:pl Pd.n xs t=xs.length:=fp (λj y hy=>HE.out j y h_ hy);have hh:hit Pd.n xs t=G_:=by unfold hit;rw[hp,Gh (Fq _)]
   have HP:=ae hp;have HH:=ae hh;clear hp hh;go_wp2;exact bodyPost_ret (v:=Hg #[GZ G6 k,G8 G_]) (by simp[results,Tryz.results78,go_sem]) rfl ⟨by rw[HP.out,HH.out,hxl],HB.out⟩
def CR(xs:List Pd) (t:ByteArray) (r w:World) (e:Ending) (w':World):Prop:=
 Below w.heap.size w w'/\((hit Pd.n xs t=Hb/\∃(x:Pd) (va:Option Addr) (vl vc:Nat),xs[pl Pd.n xs t]?=F_ x/\x.n=t/\e=Ha (Hg #[Hc #[I x.n,GZ G6 x.c,I x.z,J va vl vc,I x.d,GZ G6 x.p],G8 Hb])/\x.n.size<=9223372036854775807/\x.z.size<=9223372036854775807/\x.d.size<=9223372036854775807/\aD r va vl vc x.zs)\/(hit Pd.n xs t=G_/\e=Ha (Hg #[Hc #[I ⟨#[]⟩,GZ G6 0,I ⟨#[]⟩,J U 0 0,I ⟨#[]⟩,GZ G6 0],G8 G_])))
theorem qL(a:Option Addr) (len cap:Nat) (xs:List Pd) (t:ByteArray) (r w:World) (hr:a_ r a len cap 6 (xs.map pdF)) (hrw:Below r.heap.size r w):
  Calls Tryz.prog 39 #[J a len cap,I t] w (CR xs t r w):=by
 obtain⟨HR,HRW,hxl⟩:=nD;have HR1:=ae ((hr.below hrw).below (aq w (G7 #[I ⟨#[]⟩,GZ G6 0,I ⟨#[]⟩,J U 0 0,I ⟨#[]⟩,GZ G6 0] 40)));clear hr hrw;go_enter Tryz.func39,Tryz.ntmps39;go_wp2_with fail;refine (jz a len cap xs t _ HR1.out).mono ?_;rintro e w1 ⟨rfl,hb⟩;obtain⟨g1,hb1,-⟩:=cX hb;obtain⟨d0,f0,d1,f1,d2,f2,d3,f3⟩:=ib;have d4:=ck4 g1;have f4:=al g1 4;have d5:=ck5 g1;have f5:=al g1 5;have HB:=ae hb1;have hs1:=hb.size;rw[show (w.alloc (G7 #[I ⟨#[]⟩,GZ G6 0,I ⟨#[]⟩,J U 0 0,I ⟨#[]⟩,GZ G6 0] 40)).heap.size=w.heap.size+1 from by simp] at hs1;have hlt1:w.heap.size<w1.heap.size:=af
 clear hb g1 HR1 hs1;cases hh:hit Pd.n xs t
 ·generalize pl Pd.n xs t=j;have HH:=ae hh;clear hh hb1 HR hxl;go_wp2;refine bodyPost_ret (v:=Hg #[Hc #[I ⟨#[]⟩,GZ G6 0,I ⟨#[]⟩,J U 0 0,I ⟨#[]⟩,GZ G6 0],G8 G_]) (by simp[results,Tryz.results39,go_sem, *]) rfl ⟨?_,Hd ⟨HH.out,rfl⟩⟩;exact GF (ak (Fq _) (ak (Fq _) (ak (Fq _) (ak (Fq _) (ak (Fq _) (ak (Fq _) (HB.out))))))) jm _
 ·obtain⟨x,hx,hn⟩:=cm hh;have hj:pl Pd.n xs t<len:=by have:=(Fm.1 hx).1;omega
  obtain⟨b,o,y,rfl,hbl,hy,hat⟩:=bN HR.out hj;rw[hx] at hy;obtain rfl:=Fp hy;obtain⟨va,vl,vc,hvr,z0,z2,z4,c0,c1,c2,c3,c4,c5⟩:=aR hat;obtain⟨hbw,e0,e1,e2,e3⟩:=nL;obtain⟨e4,e5⟩:=uz;have HI:Hid (CR xs t r w (Ha (Hg #[Hc #[I x.n,GZ G6 x.c,I x.z,J va vl vc,I x.d,GZ G6 x.p],G8 Hb])) w):=⟨Ft _ _,He ⟨hh,x,va,vl,vc,hx,hn,rfl,z0,z2,z4,hvr⟩⟩;clear c0 c1 c2 c3 c4 c5 hat hx hn hy hh z0 z2 z4 hvr HR HRW hb1;obtain⟨j,hjj⟩:∃j,pl Pd.n xs t=j:=⟨_,rfl⟩;rw[hjj] at hj;simp only[hjj] at*;clear hjj;go_wp2;refine bodyPost_ret (v:=Hg #[Hc #[I x.n,GZ G6 x.c,I x.z,J va vl vc,I x.d,GZ G6 x.p],G8 Hb]) (by simp[results,Tryz.results39,go_sem, *]) rfl ⟨?_,HI.2⟩;exact ak (Fq _) (ak (Fq _) (ak (Fq _) (ak (Fq _) (ak (Fq _) (ak (Fq _) (HB.out))))))
theorem oX(a:Option Addr) (len cap:Nat) (xs:List Pd) (most:Int) (w:World) (hr:a_ w a len cap 6 (xs.map pdF)):
  Calls Tryz.prog 123 #[J a len cap,GZ G6 most] w (av (eF ob Pd.n xs most) w):=by
 obtain⟨HR,hxl,hlc⟩:=gG;clear hr;have hmcalled:∀(v:Value) (w:World),(method 340 40 v "loop.example/g00571/impl.called").run Tryz.prog w=.ok (190,v) w:=λ_ _=>by kernel_rfl
 have hmright:∀(v:Value) (w:World),(method 340 40 v "loop.example/g00571/impl.right").run Tryz.prog w=.ok (191,v) w:=λ_ _=>by kernel_rfl
 by_cases hmo:most<(len:Int)
 ·go_enter Tryz.func123,Tryz.ntmps123;exact ke
 go_enter Tryz.func123,Tryz.ntmps123;go_wp2;go_loopw [5,14] (λq i wr=> ∃(k:Nat) (y:ByteArray),k<=len/\q=I y/\i=GZ G6 k/\Hid (k=0->y=⟨#[]⟩)/\Hid (∀z,0<k->xs[k - 1]?=F_ z->z.n=y)/\Hid (∀(j:Nat) z,j<k->xs[j]?=F_ z->ob z)/\Hid (∀(j:Nat) z u,j+1<k->xs[j+1]?=F_ z->xs[j]?=F_ u->Fx u.n.toList z.n.toList=Hb)/\Hid (Below w.heap.size w wr)) (λ_ i _=>len - (intOf i).toNat);case atStart=>exact⟨0,_,by omega,rfl,rfl,λ_=>rfl,λ_ h=>absurd h af,λ_ _ h=>absurd h af,λ_ _ _ h=>absurd h af,Ft _ _⟩
 case round=>
  obtain⟨k,y,hk,rfl,rfl,H0,H1,HE,HO,HB⟩:=hrel;by_cases hlt:k<len
  ·obtain⟨b,o,x,rfl,hb,hx,hat⟩:=bN (HR.below HB.out) hlt;obtain⟨va,vl,vc,hvr,z0,z2,z4,c0,c1,c2,c3,c4,c5⟩:=aR hat;have HX:=ae hx;have HC:=ae (λv:World=>dZ x va vl vc v);have HB1:=ae (HB.alloc HB.size (G7 (pov x va vl vc) 40));have HRt:=ae (nq x va vl vc (wr.alloc (G7 (pov x va vl vc) 40)) z0 z2 z4 (hvr.below (aq _ _)));clear hat hx z0 z2 z4 hvr;go_wp2_with fail;refine HRt.mono ?_;rintro e w1 ⟨r,rfl,hrt,hb1⟩;obtain⟨g1,-,-⟩:=cX hb1;have hs1:=hb1.size;rw[show (wr.alloc (G7 (pov x va vl vc) 40)).heap.size=wr.heap.size+1 from by simp] at hs1;obtain⟨HB2,d0,d1,d2,d3⟩:=gF;have d4:=ck4 g1;have d5:=ck5 g1;have HG:=ae g1;have HI:=ae hrt;clear g1 hb1 HB1 HRt hrt c0 c1 c2 c3 c4 c5;cases r
   ·exact nM
   have HOK:=ae (HI.1 rfl);clear HI;go_wp2_with fail;refine (HC.out _).mono ?_;rintro e w2 ⟨rfl,hb2⟩;obtain⟨HB3,g2,hs2,htri⟩:=nJ;clear HG hb2 HB2 d0 d1 d2 d3 d4 d5;have d0:=ck0 g2;have d1:=ck1 g2;have d2:=ck2 g2;have d3:=ck3 g2;have d4:=ck4 g2;have d5:=ck5 g2;clear g2;cases hless:Fx y.toList x.n.toList
   ·exact nU
   ·rw[hless] at htri;go_wp2_with fail;refine (HC.out _).mono ?_;rintro e w3 ⟨rfl,hb3⟩;have HB4:=ae (HB3.trans (hb3.mono (FA HB.size af)));clear hb3 d0 d1 d2 d3 d4 d5;exact nY
  ·exact nT
def ens(w:World):Prop:=∃T v,w.cell? ⟨4,0,U⟩=F_ (.iface T v)
theorem ens.lt(h:ens w):4<w.heap.size:=by
 obtain⟨T,v,h⟩:=h;rcases Nat.lt_or_ge (4) w.heap.size with h1|h1
 ·exact h1
 ·simp[Gc,Array.getElem?_eq_none h1] at h
theorem ens.below(h:ens w) (hb:Below w.heap.size w w'):ens w':=by
 have hl:=h.lt;obtain⟨T,v,h⟩:=h;exact⟨T,v,(aj hb hl).trans h⟩
def Eo(p:Prop) (w:World) (e:Ending) (w':World):Prop:=Below w.heap.size w w'/\((p/\e=Ha .nilIface)\/(¬p/\∃T v,e=Ha (.iface T v)))
theorem gI(d:Ad) (now:Int) (xs:List Kd) (t:ByteArray) (w:World) (hr:a_ w d.a2 d.l2 d.c2 4 (xs.map kdF)) (hG:ens w):
  Calls Tryz.prog 124 #[Hc #[J d.a1 d.l1 d.c1,J d.a2 d.l2 d.c2,J d.a3 d.l3 d.c3,J d.a4 d.l4 d.c4,J d.a5 d.l5 d.c5,GZ G6 now],I t] w (Eo (hit Kd.n xs t=Hb) w):=by
 have HR:=ae hr;have HE:=ae hG;have HB:=ae (Ft w.heap.size w);clear hr hG;go_enter Tryz.func124,Tryz.ntmps124;go_wp2_with fail;refine (sH d now xs t w _ HR.out (aq _ _)).mono ?_;rintro e w1 ⟨hb,hf⟩;obtain⟨HA0,hbx⟩:=aT hb;replace HB:=upB HB hbx;clear hb hbx HA0;obtain⟨T,v,hv⟩:=HE.below HB.out;have hl:=(HE.below HB.out).lt;clear HE HR;rcases hf with ⟨hh,x,hx,hn,rfl,z0,z3⟩|⟨hh,rfl⟩
 ·have HH:=ae hh;clear hh hx hn z0 z3;go_wp2;go_ret;exact⟨(HB.alloc HB.size _),He ⟨HH.out,rfl⟩⟩
 ·have HH:=ae hh;clear hh;go_wp2;go_ret;exact⟨(HB.alloc HB.size _),Hd ⟨by rw[HH.out];decide,T,v,rfl⟩⟩
theorem lF(d:Ad) (c:Cl) (t s:ByteArray) (w:World) (hr:aE w d c.raw) (hx:aJ Xd.n c.xs) (hv:aJ Vd.n c.vs):
  Calls Tryz.prog 125 #[Hc #[J d.a1 d.l1 d.c1,J d.a2 d.l2 d.c2,J d.a3 d.l3 d.c3,J d.a4 d.l4 d.c4,J d.a5 d.l5 d.c5,GZ G6 c.now],I t,I s] w (av (kQ c t s) w):=by
 obtain⟨HR,HB⟩:=jr;have HX:=ae hx;have HV:=ae hv;clear hr hx hv;go_enter Tryz.func125,Tryz.ntmps125;go_wp2_with fail;refine (iK d c.now c.xs t w _ HR.x (aq _ _)).mono ?_;rintro e w1 ⟨hb,hf⟩;obtain⟨HA0,hbx⟩:=aT hb;have Bk:=ae HA0;replace HB:=upB HB hbx;clear hb hbx HA0;rcases hf with ⟨hh,x,hx,hn,rfl,z0,z2,z4⟩|⟨hh,rfl⟩
 ·have HX1:=ae hx;have HN1:=ae hn;clear hx hn hh z0 z2 z4;obtain⟨k0,k1,k2,k3,k4,k5⟩:=cs6 Bk;have ltk_1:=aa Bk.out;go_wp2_with fail;refine (eT d c.now c.vs s w _ HR.v (HB.trans ((aq _ _).mono HB.size))).mono ?_;rintro e w2 ⟨hb,hf⟩;clear k0 k1 k2 k3 k4 k5 ltk_1;obtain⟨HA0,hbx⟩:=aT hb;replace Bk:=upK Bk hbx;have Bx:=ae HA0;replace HB:=upB HB hbx;clear hb hbx HA0;rcases hf with ⟨hh,v,va,vl,vc,hx,hn,rfl,z0,z2,z3,z5,hvr⟩|⟨hh,rfl⟩
  ·have HX2:=ae hx;have HN2:=ae hn;clear hx hn hh z0 z2 z3 z5 hvr;obtain⟨x0,x1,x2,x3,x4⟩:=cs5 Bx;have ltx_2:=aa Bx.out;cases q1:(x.v.toList==s.toList)
   ·go_wp2;go_ret;refine av.f (λ⟨i,j,x',v',e1,e2,e3,e4,e5,_⟩=>?_) (HB.alloc HB.size _);obtain⟨_,rfl⟩:=HX.inj e1 HX1.out (e2.trans HN1.symm);rw[aW e5] at q1;cases q1
   cases q2:(v.m.toList==t.toList)
   ·go_wp2;go_ret;refine av.f (λ⟨i,j,x',v',e1,e2,e3,e4,e5,e6,_⟩=>?_) (HB.alloc HB.size _);obtain⟨_,rfl⟩:=HV.inj e3 HX2.out (e4.trans HN2.symm);rw[aW e6] at q2;cases q2
   by_cases q3:x.z<=v.c;rotate_left
   ·go_wp2;go_ret;refine av.f (λ⟨i,j,x',v',e1,e2,e3,e4,e5,e6,e7,_⟩=>?_) (HB.alloc HB.size _);obtain⟨_,rfl⟩:=HX.inj e1 HX1.out (e2.trans HN1.symm);obtain⟨_,rfl⟩:=HV.inj e3 HX2.out (e4.trans HN2.symm);omega
   cases q4:(v.k.toList==x.k.toList)
   ·go_wp2;go_ret;refine av.f (λ⟨i,j,x',v',e1,e2,e3,e4,e5,e6,e7,e8,_⟩=>?_) (HB.alloc HB.size _);obtain⟨_,rfl⟩:=HX.inj e1 HX1.out (e2.trans HN1.symm);obtain⟨_,rfl⟩:=HV.inj e3 HX2.out (e4.trans HN2.symm);rw[aW e8] at q4;cases q4
   cases q5:(v.x==x.x)
   ·go_wp2;go_ret;refine av.f (λ⟨i,j,x',v',e1,e2,e3,e4,e5,e6,e7,e8,e9⟩=>?_) (HB.alloc HB.size _);obtain⟨_,rfl⟩:=HX.inj e1 HX1.out (e2.trans HN1.symm);obtain⟨_,rfl⟩:=HV.inj e3 HX2.out (e4.trans HN2.symm);rw[e9] at q5;simp at q5
   ·go_wp2;go_ret;exact av.t ⟨_,_,x,v,HX1.out,HN1.out,HX2.out,HN2.out,cY q1,cY q2,q3,cY q4,by simpa using q5⟩ (HB.alloc HB.size _)
  ·have HH2:=ae hh;clear hh;obtain⟨x0,x1,x2,x3,x4⟩:=cs5 Bx;have ltx_2:=aa Bx.out;go_wp2;go_ret;refine av.f (λ⟨i,j,x',v',e1,e2,e3,e4,_⟩=>?_) (HB.alloc HB.size _);have:=(bl HV.out e3 e4).2;rw[HH2.out] at this;cases this
 ·have HH1:=ae hh;clear hh;obtain⟨k0,k1,k2,k3,k4,k5⟩:=cs6 Bk;have ltk_1:=aa Bk.out;go_wp2_with fail;refine (eT d c.now c.vs s w _ HR.v (HB.trans ((aq _ _).mono HB.size))).mono ?_;rintro e w2 ⟨hb,hf⟩;clear k0 k1 k2 k3 k4 k5 ltk_1;obtain⟨HA0,hbx⟩:=aT hb;replace Bk:=upK Bk hbx;have Bx:=ae HA0;replace HB:=upB HB hbx;clear hb hbx HA0;rcases hf with ⟨hh,v,va,vl,vc,hx,hn,rfl,z0,z2,z3,z5,hvr⟩|⟨hh,rfl⟩
  ·have HX2:=ae hx;have HN2:=ae hn;clear hx hn hh z0 z2 z3 z5 hvr;exact yF
  ·have HH2:=ae hh;clear hh;exact yF
theorem qG(d:Ad) (c:Cl) (w:World) (hr:aE w d c.raw) (hxr:aJ Xd.n c.xs) (hvr:aJ Vd.n c.vs) (hG:ens w):
  Calls Tryz.prog 74 #[Hc #[J d.a1 d.l1 d.c1,J d.a2 d.l2 d.c2,J d.a3 d.l3 d.c3,J d.a4 d.l4 d.c4,J d.a5 d.l5 d.c5,GZ G6 c.now]] w (av (qZ c) w):=by
 obtain⟨a1,l1,y1,a2,l2,y2,a3,l3,y3,a4,l4,y4,a5,l5,y5⟩:=d;dsimp only;have HR:=ae hr;have hl3:c.vs.length=l3:=j5
 have hm3:l3<=9223372036854775807:=FA hr.v.2.1 hr.v.2.2.1;have hl4:c.xs.length=l4:=uv
 have hm4:l4<=9223372036854775807:=FA hr.x.2.1 hr.x.2.2.1;clear hr;have HE:=ae hG;have HXR:=ae hxr;have HVR:=ae hvr;clear hG hxr hvr;go_enter Tryz.func74,Tryz.ntmps74;go_wp2;go_loopw [10] (λi wr=> ∃k:Nat,k<=l3/\i=GZ G6 k/\Hid (∀(j:Nat) z,j<k->c.vs[j]?=F_ z->QV c z)/\Hid (Below w.heap.size w wr)/\Hid (wr.heap[w.heap.size]?=F_ (G7 (clo6 a1 l1 y1 a2 l2 y2 a3 l3 y3 a4 l4 y4 a5 l5 y5 c.now) 29 (0,0)))) (λi _=>l3 - (intOf i).toNat);case atStart=>exact⟨0,by omega,rfl,λ_ _ h=>absurd h af,aq _ _,Fs⟩
 case round=>
  obtain⟨k,hk,rfl,HQ,HB,Bk⟩:=hrel;by_cases hlt:k<l3
  ·obtain⟨b,o,v,rfl,hb,hx,hat⟩:=bM (HR.v.below HB.out) hlt;obtain⟨va,vl,vc,hvr,z0,z2,z3,z5,c0,c1,c2,c3,c4,c5,c6,c7⟩:=aP hat;have HXv:=ae hx;clear hat hx z0 z2 z3 z5 hvr;obtain⟨k0,k1,k2,k3,k4,k5⟩:=cs6 Bk;have ltk_0:=aa Bk.out;go_wp2_with fail;refine (gI ⟨a1,l1,y1,a2,l2,y2,(F_ ⟨b,o,U⟩),l3,y3,a4,l4,y4,a5,l5,y5⟩ c.now c.ks v.k _ (HR.k.below (HB.trans ((aq _ _).mono HB.size))) (HE.below (HB.trans ((aq _ _).mono HB.size)))).mono ?_;rintro e w1 ⟨hb2,hf⟩;clear k0 k1 k2 k3 k4 k5 ltk_0;obtain⟨HA0,hbx⟩:=aT hb2;replace Bk:=upK Bk hbx;have Br:=ae HA0;replace HB:=upB HB hbx;clear hb2 hbx HA0;clear hb c0 c1 c2 c3 c4 c5 c6 c7;rcases hf with ⟨hh,rfl⟩|⟨hh,T,q,rfl⟩;rotate_left
   ·have HH:=ae hh;clear hh;obtain⟨k0,k1,k2,k3,k4,k5⟩:=cs6 Bk;obtain⟨r0,r1,r2,r3,r4,r5,r6,r7⟩:=cs8 Br;go_wp2;go_ret;exact av.f (λh=>HH.out (h.1 k v HXv.out).1) HB.out
   have HH:=ae hh;clear hh;by_cases he:v.m=⟨#[]⟩
   ·have hq:=cC he;have HEm:=ae he;clear he;obtain⟨k0,k1,k2,k3,k4,k5⟩:=cs6 Bk;obtain⟨r0,r1,r2,r3,r4,r5,r6,r7⟩:=cs8 Br;go_wp2_with fail;refine⟨⟨k+1,by omega,by go_num,λj z hj hz=>?_,HB.out,Bk.out⟩,by simp[intOf];omega⟩;by_cases e:j=k
    ·subst e;rw[HXv.out] at hz;exact pN
    ·exact HQ.out j z af hz
   ·have hq:=bg he;have HEm:=ae he;clear he;obtain⟨k0,k1,k2,k3,k4,k5⟩:=cs6 Bk;obtain⟨r0,r1,r2,r3,r4,r5,r6,r7⟩:=cs8 Br;go_wp2_with fail;refine (lF ⟨a1,l1,y1,a2,l2,y2,(F_ ⟨b,o,U⟩),l3,y3,a4,l4,y4,a5,l5,y5⟩ c v.m v.n _ (HR.below HB.out) HXR.out HVR.out).mono ?_;rintro e w2 ⟨r,rfl,hi,hb3⟩;clear k0 k1 k2 k3 k4 k5 r0 r1 r2 r3 r4 r5 r6 r7;replace Bk:=upK Bk hb3;replace Br:=upK Br hb3;replace HB:=upB HB hb3;clear hb3;have HI:=ae hi;clear hi;cases r
    ·go_wp2;go_ret;refine av.f (λh=>?_) HB.out;rcases (h.1 k v HXv.out).2 with h2|h2
     ·exact HEm.out h2
     ·have:=HI.2 h2;cases this
    ·go_wp2_with fail;refine⟨⟨k+1,by omega,by go_num,λj z hj hz=>?_,HB.out,Bk.out⟩,by simp[intOf];omega⟩;by_cases e:j=k
     ·subst e;rw[HXv.out] at hz;exact pS
     ·exact HQ.out j z af hz
  ·obtain rfl:l3=k:=af
   have HQ1:Hid (∀(j:Nat) z,c.vs[j]?=F_ z->QV c z):=λj z hz=>HQ.out j z da hz;clear HQ;have k3:=ck3 Bk;go_wp2;go_loopw [37] (λi wr=> ∃k:Nat,k<=l4/\i=GZ G6 k/\Hid (∀(j:Nat) z,j<k->c.xs[j]?=F_ z->QX c z)/\Hid (Below w.heap.size w wr)/\Hid (wr.heap[w.heap.size]?=F_ (G7 (clo6 a1 l1 y1 a2 l2 y2 a3 l3 y3 a4 l4 y4 a5 l5 y5 c.now) 29 (0,0)))) (λi _=>l4 - (intOf i).toNat);case atStart=>exact⟨0,by omega,rfl,λ_ _ h=>absurd h af,HB.out,Bk.out⟩
   case round=>
    obtain⟨k,hk,rfl,HQ,HB,Bk⟩:=hrel;by_cases hlt:k<l4
    ·obtain⟨b,o,x,rfl,hb,hx,hat⟩:=dM (HR.x.below HB.out) hlt;obtain⟨z0,z2,z4,c0,c1,c2,c3,c4⟩:=bS hat;have HXx:=ae hx;clear hat hx z0 z2 z4;obtain⟨k0,k1,k2,k3,k4,k5⟩:=cs6 Bk;have ltk_0:=aa Bk.out;go_wp2_with fail;refine (gI ⟨a1,l1,y1,a2,l2,y2,a3,l3,y3,(F_ ⟨b,o,U⟩),l4,y4,a5,l5,y5⟩ c.now c.ks x.k _ (HR.k.below (HB.trans ((aq _ _).mono HB.size))) (HE.below (HB.trans ((aq _ _).mono HB.size)))).mono ?_;rintro e w1 ⟨hb2,hf⟩;clear k0 k1 k2 k3 k4 k5 ltk_0;obtain⟨HA0,hbx⟩:=aT hb2;replace Bk:=upK Bk hbx;have Br:=ae HA0;replace HB:=upB HB hbx;clear hb2 hbx HA0;clear hb c0 c1 c2 c3 c4;rcases hf with ⟨hh,rfl⟩|⟨hh,T,q,rfl⟩;rotate_left
     ·have HH:=ae hh;clear hh;obtain⟨k0,k1,k2,k3,k4,k5⟩:=cs6 Bk;obtain⟨r0,r1,r2,r3,r4⟩:=cs5 Br;go_wp2;go_ret;exact av.f (λh=>HH.out (h.2 k x HXx.out).1) HB.out
     have HH:=ae hh;clear hh;by_cases he:x.v=⟨#[]⟩
     ·have hq:=cC he;have HEm:=ae he;clear he;obtain⟨k0,k1,k2,k3,k4,k5⟩:=cs6 Bk;obtain⟨r0,r1,r2,r3,r4⟩:=cs5 Br;go_wp2_with fail;refine⟨⟨k+1,by omega,by go_num,λj z hj hz=>?_,HB.out,Bk.out⟩,by simp[intOf];omega⟩;by_cases e:j=k
      ·subst e;rw[HXx.out] at hz;exact pN
      ·exact HQ.out j z af hz
     ·have hq:=bg he;have HEm:=ae he;clear he;obtain⟨k0,k1,k2,k3,k4,k5⟩:=cs6 Bk;obtain⟨r0,r1,r2,r3,r4⟩:=cs5 Br;go_wp2_with fail;refine (lF ⟨a1,l1,y1,a2,l2,y2,a3,l3,y3,(F_ ⟨b,o,U⟩),l4,y4,a5,l5,y5⟩ c x.n x.v _ (HR.below HB.out) HXR.out HVR.out).mono ?_;rintro e w2 ⟨r,rfl,hi,hb3⟩;clear k0 k1 k2 k3 k4 k5 r0 r1 r2 r3 r4;replace Bk:=upK Bk hb3;replace Br:=upK Br hb3;replace HB:=upB HB hb3;clear hb3;have HI:=ae hi;clear hi;cases r
      ·go_wp2;go_ret;refine av.f (λh=>?_) HB.out;rcases (h.2 k x HXx.out).2 with h2|h2
       ·exact HEm.out h2
       ·have:=HI.2 h2;cases this
      ·go_wp2_with fail;refine⟨⟨k+1,by omega,by go_num,λj z hj hz=>?_,HB.out,Bk.out⟩,by simp[intOf];omega⟩;by_cases e:j=k
       ·subst e;rw[HXx.out] at hz;exact pS
       ·exact HQ.out j z af hz
    ·obtain rfl:l4=k:=af
     have HQ2:Hid (∀(j:Nat) z,c.xs[j]?=F_ z->QX c z):=λj z hz=>HQ.out j z da hz;exact lU
theorem qC(a:Option Addr) (len cap:Nat) (zs:List ByteArray) (t:ByteArray) (w:World) (hr:aD w a len cap zs):
  Calls Tryz.prog 163 #[J a len cap,I t] w λe w'=>(∃r:Int,e=Ha (GZ G6 r)/\((0<=r/\InL zs t)\/(r= -1/\¬InL zs t)))/\w'=w:=by
 have HR:=ae hr;have hlc:=FA hr.2.1 hr.2.2.1;have hzl:=hr.1;clear hr;go_enter Tryz.func163,Tryz.ntmps163;go_wp2;go_loop [8] (λi=> ∃k:Nat,k<=len/\i=GZ G6 k/\Hid (∀(j:Nat) x,j<k->zs[j]?=F_ x->¬x=t)) (λi=>len - (intOf i).toNat);case atStart=>exact⟨0,by omega,rfl,λ_ _ h=>absurd h af⟩
 case round=>
  obtain⟨k,hk,rfl,HE⟩:=hrel;by_cases hlt:k<len
  ·obtain⟨b,o,x,rfl,hb,hx,hc,hsz⟩:=HR.at hlt;have HX:=ae hx;clear hx;by_cases hn:t=x
   ·have hq:=aW hn;have HN:=ae hn;clear hn;go_wp2;go_ret;exact⟨⟨k,rfl,He ⟨by omega,k,by rw[HX.out,HN.out]⟩⟩,rfl⟩
   ·have hq:=bH hn;have HN:=ae hn;clear hn;go_wp2;refine⟨⟨k+1,by omega,by go_num,λj z hj hz=>?_⟩,by simp[intOf];omega⟩;by_cases e:j=k
    ·subst e;rw[HX.out] at hz;obtain rfl:=Fp hz;exact λq=>HN.out q.symm
    ·exact HE.out j z af hz
  ·obtain rfl:len=k:=af
   go_wp2;go_ret;exact⟨⟨-1,rfl,Hd ⟨rfl,λ⟨j,hj⟩=>HE.out j t nB hj rfl⟩⟩,rfl⟩
theorem dJ(a:Option Addr) (len cap:Nat) (zs:List ByteArray) (t:ByteArray) (w:World) (hr:aD w a len cap zs):
  Calls Tryz.prog 155 #[J a len cap,I t] w (av (InL zs t) w):=by
 have HR:=ae hr;clear hr;go_enter Tryz.func155,Tryz.ntmps155;go_wp2_with fail;refine (qC a len cap zs t _ HR.out).mono ?_;rintro e w1 ⟨⟨r,rfl,hr⟩,rfl⟩;rcases hr with ⟨h0,hi⟩|⟨rfl,hi⟩
 ·go_wp2;go_ret;exact av.t hi (Ft _ _)
 ·go_wp2;go_ret;exact av.f hi (Ft _ _)
theorem ku(d:Ad) (now:Int) (xs:List Xd) (a:Option Addr) (len cap:Nat) (zs:List ByteArray) (w:World) (hr:a_ w d.a4 d.l4 d.c4 5 (xs.map xdF)) (hz:aD w a len cap zs) (hG:ens w):
  Calls Tryz.prog 126 #[Hc #[J d.a1 d.l1 d.c1,J d.a2 d.l2 d.c2,J d.a3 d.l3 d.c3,J d.a4 d.l4 d.c4,J d.a5 d.l5 d.c5,GZ G6 now],J a len cap] w (Eo (∀(j:Nat) t,zs[j]?=F_ t->hit Xd.n xs t=Hb) w):=by
 have HR:=ae hr;have HE:=ae hG;have HZ:=ae hz;have hlc:=FA hz.2.1 hz.2.2.1;have hzl:=hz.1;clear hr hG hz;go_enter Tryz.func126,Tryz.ntmps126;go_wp2;go_loopw [11] (λi wr=> ∃k:Nat,k<=len/\i=GZ G6 k/\Hid (∀(j:Nat) t,j<k->zs[j]?=F_ t->hit Xd.n xs t=Hb)/\Hid (Below w.heap.size w wr)/\Hid (wr.heap[w.heap.size]?=F_ (G7 (clv d now) 29 (0,0)))) (λi _=>len - (intOf i).toNat);case atStart=>exact⟨0,by omega,rfl,λ_ _ h=>absurd h af,aq _ _,Fs⟩
 case round=>
  obtain⟨k,hk,rfl,HQ,HB,Bk⟩:=hrel;by_cases hlt:k<len
  ·obtain⟨b,o,t,rfl,hb,hx,hc,hsz⟩:=(HZ.below HB.out).at hlt;have HX:=ae hx;clear hx;obtain⟨k0,k1,k2,k3,k4,k5⟩:=cs6 Bk;go_wp2_with fail;refine (iK d now xs t w _ HR.out HB.out).mono ?_;rintro e w1 ⟨hb2,hf⟩;clear k0 k1 k2 k3 k4 k5;replace Bk:=upK Bk hb2;replace HB:=upB HB hb2;clear hb2;clear hb hc hsz;obtain⟨T,q,hv⟩:=HE.below HB.out;have hl:=(HE.below HB.out).lt;rcases hf with ⟨hh,x,hx,hn,rfl,z0,z2,z4⟩|⟨hh,rfl⟩
   ·have HH:=ae hh;clear hh hx hn z0 z2 z4 hv hl;go_wp2;refine⟨⟨k+1,by omega,by go_num,λj z hj hz=>?_,HB.alloc HB.size _,(Fy _ _ _ (aa Bk.out)).trans Bk.out⟩,by simp[intOf];omega⟩;by_cases e:j=k
    ·subst e;rw[HX.out] at hz;obtain rfl:=Fp hz;exact HH.out
    ·exact HQ.out j z af hz
   ·have HH:=ae hh;clear hh;go_wp2;go_ret;exact⟨HB.alloc HB.size _,Hd ⟨λh=>(by have:=h k t HX.out;rw[HH.out] at this;cases this),T,q,rfl⟩⟩
  ·obtain rfl:len=k:=af
   go_wp2;go_ret;exact⟨HB.out,He ⟨λj t ht=>HQ.out j t rH ht,rfl⟩⟩
def EC(c:Cl) (t:ByteArray) (r w:World) (e:Ending) (w':World):Prop:=
 Below w.heap.size w w'/\((∃(v:Vd) (va:Option Addr) (vl vc:Nat),bh c t v/\e=Ha (Hg #[Hc #[I v.n,GZ G6 v.c,I v.z,I v.k,G8 v.x,I v.m,G8 v.y,J va vl vc],G8 Hb])/\v.n.size<=9223372036854775807/\v.z.size<=9223372036854775807/\aD r va vl vc v.zs)\/((∀v,¬bh c t v)/\e=Ha (Hg #[Hc #[I ⟨#[]⟩,GZ G6 0,I ⟨#[]⟩,I ⟨#[]⟩,G8 G_,I ⟨#[]⟩,G8 G_,J U 0 0],G8 G_])))
theorem sh(d:Ad) (c:Cl) (t:ByteArray) (r:World) (w:World) (hr:aE r d c.raw) (hrw:Below r.heap.size r w) (hx:aJ Xd.n c.xs) (hv:aJ Vd.n c.vs) (hne:∀(j:Nat) v,c.vs[j]?=F_ v->¬v.n=⟨#[]⟩):
  Calls Tryz.prog 154 #[Hc #[J d.a1 d.l1 d.c1,J d.a2 d.l2 d.c2,J d.a3 d.l3 d.c3,J d.a4 d.l4 d.c4,J d.a5 d.l5 d.c5,GZ G6 c.now],I t] w (EC c t r w):=by
 have HR:=ae hr;have HRW:=ae hrw;obtain⟨HX,HV,HNE⟩:=fK;have HB:=ae (Ft w.heap.size w);clear hr hx hv hrw hne;go_enter Tryz.func154,Tryz.ntmps154;go_wp2_with fail;refine (iK d c.now c.xs t r _ HR.x (HRW.trans ((aM _ _ _).mono HRW.size))).mono ?_;rintro e w1 ⟨hb,hf⟩;obtain⟨HA0,HA1,hbx⟩:=bU hb;have Bk:=ae HA0;have Bs:=ae HA1;replace HB:=upB HB hbx;clear hb hbx HA0 HA1;rcases hf with ⟨hh,x,hx,hn,rfl,z0,z2,z4⟩|⟨hh,rfl⟩
 ·have HX1:=ae hx;have HN1:=ae hn;clear hx hn hh z0 z2 z4;obtain⟨k0,k1,k2,k3,k4,k5⟩:=cs6 Bk;have ltk_1:=aa Bk.out;go_wp2_with fail;refine (eT d c.now c.vs x.v r _ HR.v (HRW.trans ((HB.trans ((aq _ _).mono HB.size)).mono HRW.size))).mono ?_;rintro e w2 ⟨hb,hf⟩;clear k0 k1 k2 k3 k4 k5 ltk_1;obtain⟨HA0,hbx⟩:=aT hb;replace Bk:=upK Bk hbx;replace Bs:=upK Bs hbx;have Bx:=ae HA0;replace HB:=upB HB hbx;clear hb hbx HA0;rcases hf with ⟨hh,v,va,vl,vc,hx,hn,rfl,z0,z2,z3,z5,hvr⟩|⟨hh,rfl⟩
  ·have HX2:=ae hx;have HN2:=ae hn;have HT:=ae hvr;have HZ0:=ae z0;have HZ2:=ae z2;clear hx hn hh z0 z2 z3 z5 hvr;obtain⟨s0,s1,s2,s3,s4,s5,s6,s7⟩:=cs8 Bs;obtain⟨fr0,fr1,fr2,fr3,fr4,fr5,fr6,fr7⟩:=ux;go_wp2;refine bodyPost_ret (v:=Hg #[Hc #[I v.n,GZ G6 v.c,I v.z,I v.k,G8 v.x,I v.m,G8 v.y,J va vl vc],G8 Hb]) ur rfl ⟨ak (FO _) (ak (FO _) (ak (FO _) (ak (FO _) (ak (FO _) (ak (FO _) (ak (FO _) (ak (FO _) (HB.out)))))))),He ⟨v,va,vl,vc,⟨_,_,x,HX1.out,HN1.out,HX2.out,HN2.out⟩,rfl,HZ0.out,HZ2.out,HT.out⟩⟩
  ·have HH2:=ae hh;clear hh;obtain⟨s0,s1,s2,s3,s4,s5,s6,s7⟩:=cs8 Bs;obtain⟨fr0,fr1,fr2,fr3,fr4,fr5,fr6,fr7⟩:=ux;go_wp2;refine bodyPost_ret (v:=Hg #[Hc #[I ⟨#[]⟩,GZ G6 0,I ⟨#[]⟩,I ⟨#[]⟩,G8 G_,I ⟨#[]⟩,G8 G_,J U 0 0],G8 G_]) ur rfl ⟨ak (FO _) (ak (FO _) (ak (FO _) (ak (FO _) (ak (FO _) (ak (FO _) (ak (FO _) (ak (FO _) (HB.out)))))))),Hd ⟨λv ⟨i,j,x2,e1,e2,e3,e4⟩=>(by obtain⟨_,rfl⟩:=HX.inj e1 HX1.out (e2.trans HN1.symm);have:=(bl HV.out e3 e4).2;rw[HH2.out] at this;cases this),rfl⟩⟩
 ·have HH1:=ae hh;clear hh;obtain⟨k0,k1,k2,k3,k4,k5⟩:=cs6 Bk;have ltk_1:=aa Bk.out;go_wp2_with fail;refine (eT d c.now c.vs ⟨#[]⟩ r _ HR.v (HRW.trans ((HB.trans ((aq _ _).mono HB.size)).mono HRW.size))).mono ?_;rintro e w2 ⟨hb,hf⟩;clear k0 k1 k2 k3 k4 k5 ltk_1;obtain⟨HA0,hbx⟩:=aT hb;replace Bk:=upK Bk hbx;replace Bs:=upK Bs hbx;have Bx:=ae HA0;replace HB:=upB HB hbx;clear hb hbx HA0;rcases hf with ⟨hh,v,va,vl,vc,hx,hn,rfl,z0,z2,z3,z5,hvr⟩|⟨hh,rfl⟩
  ·have HX2:=ae hx;have HN2:=ae hn;have HT:=ae hvr;have HZ0:=ae z0;have HZ2:=ae z2;clear hx hn hh z0 z2 z3 z5 hvr;exact absurd HN2.out (HNE.out _ _ HX2.out)
  ·have HH2:=ae hh;clear hh;obtain⟨s0,s1,s2,s3,s4,s5,s6,s7⟩:=cs8 Bs;obtain⟨fr0,fr1,fr2,fr3,fr4,fr5,fr6,fr7⟩:=ux;go_wp2;refine bodyPost_ret (v:=Hg #[Hc #[I ⟨#[]⟩,GZ G6 0,I ⟨#[]⟩,I ⟨#[]⟩,G8 G_,I ⟨#[]⟩,G8 G_,J U 0 0],G8 G_]) ur rfl ⟨ak (FO _) (ak (FO _) (ak (FO _) (ak (FO _) (ak (FO _) (ak (FO _) (ak (FO _) (ak (FO _) (HB.out)))))))),Hd ⟨λv ⟨i,j,x2,e1,e2,e3,e4⟩=>(by have:=(bl HX.out e1 e2).2;rw[HH1.out] at this;cases this),rfl⟩⟩
theorem l_(d:Ad) (now:Int) (ps:List Pd) (t:ByteArray) (w:World) (hr:a_ w d.a5 d.l5 d.c5 6 (ps.map pdF)) (hl:ps.length<=8) (hp:∀(j:Nat) p,ps[j]?=F_ p->0<=p.c/\p.c<=1000000):
  Calls Tryz.prog 128 #[Hc #[J d.a1 d.l1 d.c1,J d.a2 d.l2 d.c2,J d.a3 d.l3 d.c3,J d.a4 d.l4 d.c4,J d.a5 d.l5 d.c5,GZ G6 now],I t] w λe w'=>e=Ha (GZ G6 (cpuOf t ps))/\Below w.heap.size w w':=by
 obtain⟨a1,l1,y1,a2,l2,y2,a3,l3,y3,a4,l4,y4,a5,l5,y5⟩:=d;dsimp only at hr ⊢;have HR:=ae hr;have hxl:ps.length=l5:=eu
 have HP:=ae hp;clear hr hp;go_enter Tryz.func128,Tryz.ntmps128;go_wp2;go_loopw [5,11] (λq i wr=> ∃(k:Nat) (s:Int),k<=l5/\q=GZ G6 s/\i=GZ G6 k/\Hid (s=cpuOf t (ps.take k))/\0<=s/\s<=k*1000000/\Hid (Below w.heap.size w wr)) (λ_ i _=>l5 - (intOf i).toNat);case atStart=>exact⟨0,0,by omega,rfl,rfl,rfl,by omega,by omega,aq _ _⟩
 case round=>
  obtain⟨k,s,hk,rfl,rfl,HS,hs0,hs1,HB⟩:=hrel;by_cases hlt:k<l5
  ·obtain⟨b,o,p,rfl,hb,hx,hat⟩:=bN (HR.below HB.out) hlt;obtain⟨va,vl,vc,hvr,z0,z2,z4,c0,c1,c2,c3,c4,c5⟩:=aR hat;have HX:=ae hx;have hpc:=HP.out k p hx;clear hat hx z0 z2 z4 hvr;by_cases hn:p.d=t
   ·have hq:=aW hn;have HN:=ae hn;clear hn;go_wp2;refine⟨⟨k+1,s+p.c,by omega,by go_num,by go_num,?_,by omega,by omega,HB.alloc HB.size _⟩,by simp[intOf];omega⟩;show _=_;rw[fw HX.out,if_pos HN.out,<-HS.out]
   ·have hq:=bH hn;have HN:=ae hn;clear hn;go_wp2;refine⟨⟨k+1,s,by omega,rfl,by go_num,?_,by omega,by omega,HB.alloc HB.size _⟩,by simp[intOf];omega⟩;show _=_;rw[fw HX.out,if_neg HN.out,<-HS.out,Int.add_zero]
  ·obtain rfl:l5=k:=af
   exact pZ
theorem zi(d:Ad) (c:Cl) (t:ByteArray) (w:World) (hr:aE w d c.raw):
  Calls Tryz.prog 129 #[Hc #[J d.a1 d.l1 d.c1,J d.a2 d.l2 d.c2,J d.a3 d.l3 d.c3,J d.a4 d.l4 d.c4,J d.a5 d.l5 d.c5,GZ G6 c.now],I t] w (av (sw c t) w):=by
 obtain⟨a1,l1,y1,a2,l2,y2,a3,l3,y3,a4,l4,y4,a5,l5,y5⟩:=d;dsimp only;have HR:=ae hr;obtain⟨hl5,hm5⟩:=jx;clear hr;go_enter Tryz.func129,Tryz.ntmps129;go_wp2;go_loopw [5,11] (λq i wr=> ∃(k:Nat) (s:ByteArray),k<=l5/\q=I s/\i=GZ G6 k/\Hid (∀(j:Nat) p,j<k->c.ps[j]?=F_ p->¬p.d=⟨#[]⟩->InL p.zs t->p.d=s)/\Hid (s=⟨#[]⟩\/∃(j:Nat) (p:Pd),j<k/\c.ps[j]?=F_ p/\¬p.d=⟨#[]⟩/\InL p.zs t/\p.d=s)/\Hid (Below w.heap.size w wr)) (λ_ i _=>l5 - (intOf i).toNat);case atStart=>exact⟨0,_,by omega,rfl,rfl,λ_ _ h=>absurd h af,He rfl,aq _ _⟩
 case round=>
  obtain⟨k,s,hk,rfl,rfl,HQ,HS,HB⟩:=hrel;by_cases hlt:k<l5
  ·obtain⟨b,o,p,rfl,hb,hx,hat⟩:=bN (HR.p.below HB.out) hlt;obtain⟨va,vl,vc,hvr,z0,z2,z4,c0,c1,c2,c3,c4,c5⟩:=aR hat;have HX:=ae hx;have HT:=ae hvr;clear hat hx z0 z2 z4 hvr;have skip:(p.d=⟨#[]⟩\/¬InL p.zs t)->∀(j:Nat) q,j<k+1->c.ps[j]?=F_ q->¬q.d=⟨#[]⟩->InL q.zs t->q.d=s:=by
    intro h j q hj hq h1 h2;by_cases e:j=k
    ·subst e;rw[HX.out] at hq;obtain rfl:=Fp hq;rcases h with h|h
     ·exact absurd h h1
     ·exact absurd h2 h
    ·exact HQ.out j q af hq h1 h2
   have SK:=ae skip;clear skip;have keepS:s=⟨#[]⟩\/∃(j:Nat) (p:Pd),j<k+1/\c.ps[j]?=F_ p/\¬p.d=⟨#[]⟩/\InL p.zs t/\p.d=s:=HS.imp id (λ⟨j,p,h1,h2⟩=>⟨j,p,by omega,h2⟩);have KS:=ae keepS;clear keepS;by_cases he:p.d=⟨#[]⟩
   ·have hq:=cC he;have HEm:=ae he;clear he;go_wp2;exact⟨⟨k+1,s,by omega,rfl,by go_num,SK.out (He HEm.out),KS.out,HB.alloc HB.size _⟩,by simp[intOf];omega⟩
   ·have hq:=bg he;have HEm:=ae he;clear he;go_wp2_with fail;refine (dJ va vl vc p.zs t _ (HT.below (aq _ _))).mono ?_;rintro e w1 ⟨r,rfl,hi,hb2⟩;obtain⟨HA0,hbx⟩:=aT hb2;have Br:=ae HA0;replace HB:=upB HB hbx;clear hb2 hbx HA0;have HI:=ae hi;clear hi c0 c1 c2 c3 c4 c5 hb;cases r
    ·obtain⟨r0,r1,r2,r3,r4,r5⟩:=cs6 Br;go_wp2;exact⟨⟨k+1,s,by omega,rfl,by go_num,SK.out (Hd (λh=>by have:=HI.2 h;cases this)),KS.out,HB.out⟩,by simp[intOf];omega⟩
    ·have HIn:=ae (HI.1 bT);clear HI;by_cases hs:s=⟨#[]⟩
     ·have hq2:=cC hs;have HSe:=ae hs;clear hs;obtain⟨r0,r1,r2,r3,r4,r5⟩:=cs6 Br;go_wp2_with fail;refine⟨⟨k+1,p.d,by omega,rfl,by go_num,λj q hj hq h1 h2=>?_,Hd ⟨k,p,by omega,HX.out,HEm.out,HIn.out,rfl⟩,HB.out⟩,by simp[intOf];omega⟩;by_cases e:j=k
      ·subst e;rw[HX.out] at hq;obtain rfl:=Fp hq;rfl
      ·exact absurd (HSe.out ▸ HQ.out j q af hq h1 h2) h1
     ·have hq2:=bg hs;have HSe:=ae hs;clear hs;by_cases hd:p.d=s
      ·have hq3:=aW hd;have HD:=ae hd;clear hd;obtain⟨r0,r1,r2,r3,r4,r5⟩:=cs6 Br;go_wp2_with fail;refine⟨⟨k+1,p.d,by omega,rfl,by go_num,λj q hj hq h1 h2=>?_,Hd ⟨k,p,by omega,HX.out,HEm.out,HIn.out,rfl⟩,HB.out⟩,by simp[intOf];omega⟩;by_cases e:j=k
       ·subst e;rw[HX.out] at hq;obtain rfl:=Fp hq;rfl
       ·exact (HQ.out j q af hq h1 h2).trans HD.symm
      ·have hq3:=bH hd;have HD:=ae hd;clear hd;obtain⟨r0,r1,r2,r3,r4,r5⟩:=cs6 Br;go_wp2;go_ret;refine av.f (λh=>?_) HB.out;rcases HS.out with h1|⟨j,q,h1,h2,h3,h4,h5⟩
       ·exact HSe.out h1
       ·exact HD.out ((h k j p q HX.out h2 HEm.out h3 HIn.out h4).trans h5)
  ·obtain rfl:l5=k:=af
   go_wp2;go_ret;refine av.t (λi j p q hi hj h1 h2 h3 h4=>?_) HB.out;rw[HQ.out i p (by have:=(Fm.1 hi).1;omega) hi h1 h3,HQ.out j q nB hj h2 h4]
theorem tm(d:Ad) (c:Cl) (p:Pd) (pa:Option Addr) (pl pc:Nat) (w:World) (hr:aE w d c.raw) (hn:aJ Nd.n c.ns) (hx:aJ Xd.n c.xs) (hv:aJ Vd.n c.vs) (hne:∀(j:Nat) v,c.vs[j]?=F_ v->¬v.n=⟨#[]⟩) (hp:aD w pa pl pc p.zs):
  Calls Tryz.prog 127 #[Hc #[J d.a1 d.l1 d.c1,J d.a2 d.l2 d.c2,J d.a3 d.l3 d.c3,J d.a4 d.l4 d.c4,J d.a5 d.l5 d.c5,GZ G6 c.now],Hc #[I p.n,GZ G6 p.c,I p.z,J pa pl pc,I p.d,GZ G6 p.p]] w (av (CQ c p) w):=by
 have HR:=ae hr;have HN:=ae hn;obtain⟨HX,HV,HNE⟩:=fK;have HP:=ae hp;have hlc:=FA hp.2.1 hp.2.2.1;have hzl:=hp.1;have HB:=ae (Ft w.heap.size w);clear hr hn hx hv hne hp;go_enter Tryz.func127,Tryz.ntmps127;go_wp2_with fail;refine (fV d c.now c.ns p.d w _ HR.n (aM _ _ _)).mono ?_;rintro e w1 ⟨hb,hf⟩;obtain⟨HA0,HA1,hbx⟩:=bU hb;have Bk:=ae HA0;have Bp:=ae HA1;replace HB:=upB HB hbx;clear hb hbx HA0 HA1;rcases hf with ⟨hh,n,va,vl,vc,hx,hn,rfl,z0,z1,hvr⟩|⟨hh,rfl⟩;rotate_left
 ·exact BU
 have HX1:=ae hx;have HN1:=ae hn;have HT1:=ae hvr;clear hx hn hh z0 z1 hvr;have hz:(p.z=⟨#[]⟩\/p.z=n.z)\/¬(p.z=⟨#[]⟩\/p.z=n.z):=Classical.em _;rcases hz with hz|hz;rotate_left
 ·have q1:=bg (λe=>hz (He e));have q2:=bH (λe=>hz (Hd e));have HC:=ae hz;clear hz;obtain⟨k0,k1,k2,k3,k4,k5⟩:=cs6 Bk;obtain⟨p0,p1,p2,p3,p4,p5⟩:=cs6 Bp;have ltp_1:=aa Bp.out;go_wp2;go_ret;refine av.f (λ⟨i,m,e1,e2,e3,_⟩=>?_) (HB.alloc HB.size _);obtain⟨_,rfl⟩:=HN.inj e1 HX1.out (e2.trans HN1.symm);exact HC.out e3
 have HC:=ae hz;have hq:(p.z.toList.isEmpty=Hb)\/(p.z.toList.isEmpty=G_/\(p.z.toList==n.z.toList)=Hb):=by
  by_cases e:p.z=⟨#[]⟩
  ·exact He (cC e)
  ·exact Hd ⟨bg e,aW (HC.resolve_left e)⟩
 clear hz;rcases hq with hq|⟨hq,hq2⟩
 ·exact CL
 ·exact CL
theorem ze(d:Ad) (c:Cl) (p:Pd) (pa:Option Addr) (pl pc:Nat) (w:World) (hr:aE w d c.raw) (hn:aJ Nd.n c.ns) (hx:aJ Xd.n c.xs) (hv:aJ Vd.n c.vs) (hne:∀(j:Nat) v,c.vs[j]?=F_ v->¬v.n=⟨#[]⟩) (hp:aD w pa pl pc p.zs):
  Calls Tryz.prog 132 #[Hc #[J d.a1 d.l1 d.c1,J d.a2 d.l2 d.c2,J d.a3 d.l3 d.c3,J d.a4 d.l4 d.c4,J d.a5 d.l5 d.c5,GZ G6 c.now],Hc #[I p.n,GZ G6 p.c,I p.z,J pa pl pc,I p.d,GZ G6 p.p]] w (av (Et c p) w):=by
 have HR:=ae hr;have HN:=ae hn;obtain⟨HX,HV,HNE⟩:=fK;have HP:=ae hp;have hlc:=FA hp.2.1 hp.2.2.1;have hzl:=hp.1;have HB:=ae (Ft w.heap.size w);clear hr hn hx hv hne hp;go_enter Tryz.func132,Tryz.ntmps132;go_wp2_with fail;refine (fV d c.now c.ns p.d w _ HR.n (aM _ _ _)).mono ?_;rintro e w1 ⟨hb,hf⟩;obtain⟨HA0,HA1,hbx⟩:=bU hb;have Bk:=ae HA0;have Bp:=ae HA1;replace HB:=upB HB hbx;clear hb hbx HA0 HA1;rcases hf with ⟨hh,n,va,vl,vc,hx,hn,rfl,z0,z1,hvr⟩|⟨hh,rfl⟩;rotate_left
 ·exact BU
 have HX1:=ae hx;have HN1:=ae hn;have HT1:=ae hvr;clear hx hn hh z0 z1 hvr;cases hd:n.d;rotate_left
 ·obtain⟨k0,k1,k2,k3,k4,k5⟩:=cs6 Bk;obtain⟨p0,p1,p2,p3,p4,p5⟩:=cs6 Bp;have ltp_1:=aa Bp.out;go_wp2;go_ret;refine av.f (λ⟨i,m,e1,e2,e3,_⟩=>?_) (HB.alloc HB.size _);obtain⟨_,rfl⟩:=HN.inj e1 HX1.out (e2.trans HN1.symm);rw[hd] at e3;cases e3
 have HC:=ae hd;clear hd;obtain⟨k0,k1,k2,k3,k4,k5⟩:=cs6 Bk;obtain⟨p0,p1,p2,p3,p4,p5⟩:=cs6 Bp;have ltp_1:=aa Bp.out;go_wp2;go_loopw [27] (λi wr=> ∃k:Nat,k<=pl/\i=GZ G6 k/\Hid (∀(j:Nat) t,j<k->p.zs[j]?=F_ t->∃v,bh c t v/\InL n.zs v.n)/\Hid (Below w.heap.size w wr)/\Hid (wr.heap[w.heap.size]?=F_ (G7 (clv d c.now) 29 (0,0)))/\Hid (wr.heap[w1.heap.size]?=F_ (G7 #[I n.n,I n.z,GZ G6 n.c,GZ G6 n.s,GZ G6 n.u,G8 G_,J va vl vc] 38 (0,0)))) (λi _=>pl - (intOf i).toNat);case atStart=>exact⟨0,by omega,rfl,λ_ _ h=>absurd h af,HB.alloc HB.size _,(Fy _ _ _ (aa Bk.out)).trans Bk.out,Fs⟩
 case round=>
  obtain⟨k,hk,rfl,HQ,HB,Bk,Bn⟩:=hrel;by_cases hlt:k<pl
  ·obtain⟨b,o,t,rfl,hb,hx,hc,hsz⟩:=(HP.below HB.out).at hlt;have HXt:=ae hx;clear hx hsz;obtain⟨k0,k1,k2,k3,k4,k5⟩:=cs6 Bk;obtain⟨n0,n1,n2,n3,n4,n5,n6⟩:=cs7 Bn;go_wp2_with fail;refine (sh d c t w _ HR.out HB.out HX.out HV.out HNE.out).mono ?_;rintro e w2 ⟨hb2,hf⟩;clear k0 k1 k2 k3 k4 k5 n0 n1 n2 n3 n4 n5 n6;replace Bk:=upK Bk hb2;replace Bn:=upK Bn hb2;replace HB:=upB HB hb2;clear hb2;clear hb hc;rcases hf with ⟨v,xa,xl,xc,hbd,rfl,z0,z2,hxr⟩|⟨hbd,rfl⟩;rotate_left
   ·exact wT
   have HD:=ae hbd;clear hbd hxr z0 z2;obtain⟨k0,k1,k2,k3,k4,k5⟩:=cs6 Bk;obtain⟨n0,n1,n2,n3,n4,n5,n6⟩:=cs7 Bn;have ltn_1:=aa Bn.out;go_wp2_with fail;refine (dJ va vl vc n.zs v.n _ (HT1.below (HB.trans ((aq _ _).mono HB.size)))).mono ?_;rintro e w3 ⟨r,rfl,hi,hb3⟩;clear k0 k1 k2 k3 k4 k5 n0 n1 n2 n3 n4 n5 n6 ltn_1;obtain⟨HA0,hbx⟩:=aT hb3;replace Bk:=upK Bk hbx;replace Bn:=upK Bn hbx;replace HB:=upB HB hbx;clear hb3 hbx HA0;have HI:=ae hi;clear hi;cases r
   ·go_wp2;go_ret;refine av.f (λ⟨i,m,e1,e2,e3,e4⟩=>?_) HB.out;obtain⟨_,rfl⟩:=HN.inj e1 HX1.out (e2.trans HN1.symm);obtain⟨v',e5,e6⟩:=e4 k t HXt.out;obtain rfl:=bh.inj HX.out HV.out HD.out e5;have:=HI.2 e6;cases this
   ·go_wp2_with fail;refine⟨⟨k+1,by omega,by go_num,λj s hj hs=>?_,HB.out,Bk.out,Bn.out⟩,by simp[intOf];omega⟩;by_cases e:j=k
    ·subst e;rw[HXt.out] at hs;obtain rfl:=Fp hs;exact⟨v,HD.out,HI.1 bT⟩
    ·exact HQ.out j s af hs
  ·exact wI
theorem zm(d:Ad) (c:Cl) (n:Nd) (pa:Option Addr) (pl pc:Nat) (w:World) (hr:aE w d c.raw) (hv:aJ Vd.n c.vs) (hp:aD w pa pl pc n.zs):
  Calls Tryz.prog 131 #[Hc #[J d.a1 d.l1 d.c1,J d.a2 d.l2 d.c2,J d.a3 d.l3 d.c3,J d.a4 d.l4 d.c4,J d.a5 d.l5 d.c5,GZ G6 c.now],Hc #[I n.n,I n.z,GZ G6 n.c,GZ G6 n.s,GZ G6 n.u,G8 n.d,J pa pl pc]] w (av (tJ c n) w):=by
 have HR:=ae hr;have HV:=ae hv;have HP:=ae hp;have hlc:=FA hp.2.1 hp.2.2.1;have hzl:=hp.1;clear hr hv hp;go_enter Tryz.func131,Tryz.ntmps131;go_wp2;go_loopw [12] (λi wr=> ∃k:Nat,k<=pl/\i=GZ G6 k/\Hid (∀(j:Nat) t,j<k->n.zs[j]?=F_ t->∃(i:Nat) (v:Vd),c.vs[i]?=F_ v/\v.n=t/\(n.d=Hb\/InL v.zs n.n))/\Hid (Below w.heap.size w wr)/\Hid (wr.heap[w.heap.size]?=F_ (G7 (clv d c.now) 29 (0,0)))/\Hid (wr.heap[w.heap.size+1]?=F_ (G7 (nov n pa pl pc) 38 (0,0)))) (λi _=>pl - (intOf i).toNat);case atStart=>exact⟨0,by omega,rfl,λ_ _ h=>absurd h af,aM _ _ _,dK _ _ _,cL _ _ _⟩
 case round=>
  obtain⟨k,hk,rfl,HQ,HB,Bk,Bn⟩:=hrel;by_cases hlt:k<pl
  ·obtain⟨b,o,t,rfl,hb,hx,hc,hsz⟩:=(HP.below HB.out).at hlt;have HXt:=ae hx;clear hx hsz;obtain⟨k0,k1,k2,k3,k4,k5⟩:=cs6 Bk;obtain⟨n0,n1,n2,n3,n4,n5,n6⟩:=cs7 Bn;go_wp2_with fail;refine (eT d c.now c.vs t w _ HR.v HB.out).mono ?_;rintro e w2 ⟨hb2,hf⟩;clear k0 k1 k2 k3 k4 k5 n0 n1 n2 n3 n4 n5 n6;replace Bk:=upK Bk hb2;replace Bn:=upK Bn hb2;replace HB:=upB HB hb2;clear hb2;clear hb hc;rcases hf with ⟨hh,v,va,vl,vc,hx,hn,rfl,z0,z2,z3,z5,hvr⟩|⟨hh,rfl⟩;rotate_left
   ·have HH:=ae hh;clear hh;obtain⟨k0,k1,k2,k3,k4,k5⟩:=cs6 Bk;obtain⟨n0,n1,n2,n3,n4,n5,n6⟩:=cs7 Bn;have ltn_1:=aa Bn.out;go_wp2;go_ret;refine av.f (λh=>?_) (HB.alloc HB.size _);obtain⟨i,v,e1,e2,_⟩:=h k t HXt.out;have:=(bl HV.out e1 e2).2;rw[HH.out] at this;cases this
   have HXv:=ae hx;have HNv:=ae hn;have HTv:=ae hvr;clear hx hn hh z0 z2 z3 z5 hvr;rcases Gq n.d with hd|hd
   ·have HD:=ae hd;clear hd;obtain⟨k0,k1,k2,k3,k4,k5⟩:=cs6 Bk;obtain⟨n0,n1,n2,n3,n4,-,n6⟩:=cs7 Bn;have ltn_1:=aa Bn.out;have n5:=(ar Bn.out 5).trans (congrArg (λz=>F_ (Value.bool z)) HD.out);go_wp2_with fail;refine⟨⟨k+1,by omega,by go_num,λj s hj hs=>?_,(HB.alloc HB.size _),(Fy _ _ _ (aa Bk.out)).trans Bk.out,(Fy _ _ _ (aa Bn.out)).trans Bn.out⟩,by simp[intOf];omega⟩;by_cases e:j=k
    ·subst e;rw[HXt.out] at hs;obtain rfl:=Fp hs;exact⟨_,v,HXv.out,HNv.out,He HD.out⟩
    ·exact HQ.out j s af hs
   ·have HD:=ae hd;clear hd;obtain⟨k0,k1,k2,k3,k4,k5⟩:=cs6 Bk;obtain⟨n0,n1,n2,n3,n4,-,n6⟩:=cs7 Bn;have ltn_1:=aa Bn.out;have n5:=(ar Bn.out 5).trans (congrArg (λz=>F_ (Value.bool z)) HD.out);go_wp2_with fail;refine (dJ va vl vc v.zs n.n _ (HTv.below (HB.trans ((aq _ _).mono HB.size)))).mono ?_;rintro e w3 ⟨r,rfl,hi,hb3⟩;clear k0 k1 k2 k3 k4 k5 n0 n1 n2 n3 n4 n6 ltn_1 n5;obtain⟨HA0,hbx⟩:=aT hb3;replace Bk:=upK Bk hbx;replace Bn:=upK Bn hbx;have Bv:=ae HA0;replace HB:=upB HB hbx;clear hb3 hbx HA0;have HI:=ae hi;clear hi;cases r
    ·go_wp2;go_ret;refine av.f (λh=>?_) HB.out;obtain⟨i,v',e1,e2,e3⟩:=h k t HXt.out;obtain⟨_,rfl⟩:=HV.inj e1 HXv.out (e2.trans HNv.symm);rcases e3 with e3|e3
     ·rw[HD.out] at e3;cases e3
     ·have:=HI.2 e3;cases this
    ·go_wp2_with fail;refine⟨⟨k+1,by omega,by go_num,λj s hj hs=>?_,HB.out,Bk.out,Bn.out⟩,by simp[intOf];omega⟩;by_cases e:j=k
     ·subst e;rw[HXt.out] at hs;obtain rfl:=Fp hs;exact⟨_,v,HXv.out,HNv.out,Hd (HI.1 bT)⟩
     ·exact HQ.out j s af hs
  ·exact x8
theorem ko(d:Ad) (now:Int) (vs:List Vd) (t:ByteArray) (w:World) (hr:a_ w d.a3 d.l3 d.c3 8 (vs.map vdF)) (hl:vs.length<=8):
  Calls Tryz.prog 130 #[Hc #[J d.a1 d.l1 d.c1,J d.a2 d.l2 d.c2,J d.a3 d.l3 d.c3,J d.a4 d.l4 d.c4,J d.a5 d.l5 d.c5,GZ G6 now],I t] w λe w'=>e=Ha (GZ G6 (onOf t vs))/\Below w.heap.size w w':=by
 obtain⟨a1,l1,y1,a2,l2,y2,a3,l3,y3,a4,l4,y4,a5,l5,y5⟩:=d;dsimp only at hr ⊢;have HR:=ae hr;have hxl:vs.length=l3:=eu
 clear hr;go_enter Tryz.func130,Tryz.ntmps130;go_wp2;go_loopw [5,11] (λq i wr=> ∃(k:Nat) (s:Int),k<=l3/\q=GZ G6 s/\i=GZ G6 k/\Hid (s=onOf t (vs.take k))/\0<=s/\s<=k/\Hid (Below w.heap.size w wr)) (λ_ i _=>l3 - (intOf i).toNat);case atStart=>exact⟨0,0,by omega,rfl,rfl,rfl,by omega,by omega,aq _ _⟩
 case round=>
  obtain⟨k,s,hk,rfl,rfl,HS,hs0,hs1,HB⟩:=hrel;by_cases hlt:k<l3
  ·obtain⟨b,o,v,rfl,hb,hx,hat⟩:=bM (HR.below HB.out) hlt;obtain⟨va,vl,vc,hvr,z0,z2,z3,z5,c0,c1,c2,c3,c4,c5,c6,c7⟩:=aP hat;have HX:=ae hx;have HT:=ae hvr;clear hat hx z0 z2 z3 z5 hvr;go_wp2_with fail;refine (dJ va vl vc v.zs t _ (HT.below (aq _ _))).mono ?_;rintro e w1 ⟨r,rfl,hi,hb2⟩;obtain⟨HA0,hbx⟩:=aT hb2;replace HB:=upB HB hbx;clear hb2 hbx HA0;have HI:=ae hi;clear hi hb c0 c1 c2 c3 c4 c5 c6 c7;cases r
   ·go_wp2;refine⟨⟨k+1,s,by omega,rfl,by go_num,?_,by omega,by omega,HB.out⟩,by simp[intOf];omega⟩;exact xu
   ·go_wp2;refine⟨⟨k+1,s+1,by omega,by go_num,by go_num,?_,by omega,by omega,HB.out⟩,by simp[intOf];omega⟩;show _=_;rw[je HX.out,if_pos (HI.1 bT),<-HS.out]
  ·obtain rfl:l3=k:=af
   exact pZ
theorem ot(d:Ad) (c:Cl) (w:World) (hr:aE w d c.raw) (hn:aJ Nd.n c.ns) (hx:aJ Xd.n c.xs) (hv:aJ Vd.n c.vs) (hne:∀(j:Nat) v,c.vs[j]?=F_ v->¬v.n=⟨#[]⟩) (hps8:c.ps.length<=8) (hpc:∀(j:Nat) p,c.ps[j]?=F_ p->0<=p.c/\p.c<=1000000) (hG:ens w):
  Calls Tryz.prog 75 #[Hc #[J d.a1 d.l1 d.c1,J d.a2 d.l2 d.c2,J d.a3 d.l3 d.c3,J d.a4 d.l4 d.c4,J d.a5 d.l5 d.c5,GZ G6 c.now]] w (av (mA c) w):=by
 obtain⟨a1,l1,y1,a2,l2,y2,a3,l3,y3,a4,l4,y4,a5,l5,y5⟩:=d;dsimp only;obtain⟨HR,hl1,hm1,hl3⟩:=nK;have hm3:l3<=9223372036854775807:=FA hr.v.2.1 hr.v.2.2.1;obtain⟨hl5,hm5⟩:=jx;clear hr;have HE:=ae hG;have HNR:=ae hn;have HXR:=ae hx;have HVR:=ae hv;have HNE:=ae hne;have HL5:=ae hps8;have HPC:=ae hpc;clear hn hx hv hne hps8 hpc hG;go_enter Tryz.func75,Tryz.ntmps75;go_wp2;go_loopw [12] (λi wr=> ∃k:Nat,k<=l5/\i=GZ G6 k/\Hid (∀(j:Nat) z,j<k->c.ps[j]?=F_ z->PQ1 c z)/\Hid (Below w.heap.size w wr)/\Hid (wr.heap[w.heap.size]?=F_ (G7 (clo6 a1 l1 y1 a2 l2 y2 a3 l3 y3 a4 l4 y4 a5 l5 y5 c.now) 29 (0,0)))) (λi _=>l5 - (intOf i).toNat);case atStart=>exact⟨0,by omega,rfl,λ_ _ h=>absurd h af,aq _ _,Fs⟩
 case round=>
  obtain⟨k,hk,rfl,HQ,HB,Bk⟩:=hrel;by_cases hlt:k<l5
  ·obtain⟨b,o,p,rfl,hb,hx,hat⟩:=bN (HR.p.below HB.out) hlt;obtain⟨va,vl,vc,hvr,z0,z2,z4,c0,c1,c2,c3,c4,c5⟩:=aR hat;have HXp:=ae hx;have HTp:=ae hvr;clear hat hx z0 z2 z4 hvr;obtain⟨k0,k1,k2,k3,k4,k5⟩:=cs6 Bk;have ltk_0:=aa Bk.out;go_wp2_with fail;refine (ku ⟨a1,l1,y1,a2,l2,y2,a3,l3,y3,a4,l4,y4,(F_ ⟨b,o,U⟩),l5,y5⟩ c.now c.xs va vl vc p.zs _ (HR.x.below (HB.trans ((aq _ _).mono HB.size))) (HTp.below (aq _ _)) (HE.below (HB.trans ((aq _ _).mono HB.size)))).mono ?_;rintro e w1 ⟨hb2,hf⟩;clear k0 k1 k2 k3 k4 k5 ltk_0;obtain⟨HA0,hbx⟩:=aT hb2;replace Bk:=upK Bk hbx;have Br:=ae HA0;replace HTp:=ae (HTp.below hbx);replace HB:=upB HB hbx;clear hb2 hbx HA0;clear hb c0 c1 c2 c3 c4 c5;rcases hf with ⟨hh,rfl⟩|⟨hh,T,q,rfl⟩;rotate_left
   ·have HH:=ae hh;clear hh;obtain⟨k0,k1,k2,k3,k4,k5⟩:=cs6 Bk;obtain⟨r0,r1,r2,r3,r4,r5⟩:=cs6 Br;go_wp2;go_ret;exact av.f (λh=>HH.out (h.1 k p HXp.out).1) HB.out
   have HH:=ae hh;clear hh;by_cases he:p.d=⟨#[]⟩
   ·have hq:=cC he;have HEm:=ae he;clear he;obtain⟨k0,k1,k2,k3,k4,k5⟩:=cs6 Bk;obtain⟨r0,r1,r2,r3,r4,r5⟩:=cs6 Br;go_wp2_with fail;refine⟨⟨k+1,by omega,by go_num,λj z hj hz=>?_,HB.out,Bk.out⟩,by simp[intOf];omega⟩;by_cases e:j=k
    ·subst e;rw[HXp.out] at hz;exact pN
    ·exact HQ.out j z af hz
   ·have hq:=bg he;have HEm:=ae he;clear he;obtain⟨k0,k1,k2,k3,k4,k5⟩:=cs6 Bk;obtain⟨r0,r1,r2,r3,r4,r5⟩:=cs6 Br;go_wp2_with fail;refine (tm ⟨a1,l1,y1,a2,l2,y2,a3,l3,y3,a4,l4,y4,(F_ ⟨b,o,U⟩),l5,y5⟩ c p va vl vc _ (HR.below HB.out) HNR.out HXR.out HVR.out HNE.out HTp.out).mono ?_;rintro e w2 ⟨r,rfl,hi,hb3⟩;clear k0 k1 k2 k3 k4 k5 r0 r1 r2 r3 r4 r5;replace Bk:=upK Bk hb3;replace Br:=upK Br hb3;replace HTp:=ae (HTp.below hb3);replace HB:=upB HB hb3;clear hb3;have HI:=ae hi;clear hi;cases r
    ·go_wp2;go_ret;refine av.f (λh=>?_) HB.out;rcases (h.1 k p HXp.out).2 with h2|h2
     ·exact HEm.out h2
     ·have:=HI.2 h2;cases this
    ·go_wp2_with fail;refine⟨⟨k+1,by omega,by go_num,λj z hj hz=>?_,HB.out,Bk.out⟩,by simp[intOf];omega⟩;by_cases e:j=k
     ·subst e;rw[HXp.out] at hz;exact pS
     ·exact HQ.out j z af hz
  ·obtain rfl:l5=k:=af
   have HQ1:Hid (∀(j:Nat) z,c.ps[j]?=F_ z->PQ1 c z):=λj z hz=>HQ.out j z da hz;clear HQ;have kc:=ck0 Bk;go_wp2;go_loopw [36] (λi wr=> ∃k:Nat,k<=l1/\i=GZ G6 k/\Hid (∀(j:Nat) z,j<k->c.ns[j]?=F_ z->PQ2 c z)/\Hid (Below w.heap.size w wr)/\Hid (wr.heap[w.heap.size]?=F_ (G7 (clo6 a1 l1 y1 a2 l2 y2 a3 l3 y3 a4 l4 y4 a5 l5 y5 c.now) 29 (0,0)))) (λi _=>l1 - (intOf i).toNat);case atStart=>exact⟨0,by omega,rfl,λ_ _ h=>absurd h af,HB.out,Bk.out⟩
   case round=>
    obtain⟨k,hk,rfl,HQ,HB,Bk⟩:=hrel;by_cases hlt:k<l1
    ·obtain⟨b,o,n,rfl,hb,hx,hat⟩:=bO (HR.n.below HB.out) hlt;obtain⟨va,vl,vc,hvr,z0,z1,c0,c1,c2,c3,c4,c5,c6⟩:=aU hat;have HXn:=ae hx;clear hat hx z0 z1 hvr;obtain⟨GK,GR,HW⟩:=Bz;obtain⟨k0,k1,k2,k3,k4,k5⟩:=sl6 GK;obtain⟨r0,r1,r2,r3,r4,r5⟩:=sl6 GR;have hne0:=Wd.ne (wr.alloc (G7 (nov n va vl vc) 38));have HC:=ae (λq:Wd (wr.alloc (G7 (nov n va vl vc) 38))=>l_ ⟨(F_ ⟨b,o,U⟩),l1,y1,a2,l2,y2,a3,l3,y3,a4,l4,y4,a5,l5,y5⟩ c.now c.ps n.n q.w (HR.p.below (HW.trans (q.b.mono HW.size))) HL5.out HPC.out);go_wp2_with fail;refine ag au au ?_;repeat (go_big_quiet_step (first|(go_at_call 128;exact Calls.wide (HC.out _))|fail))
     refine wpQuiet_nil ?_;rintro _ ⟨q,rfl⟩;have HB2:=upB HW q.b;have Bk2:=upK GK q.b;clear HC hne0 k0 k1 k2 k3 k4 k5 r0 r1 r2 r3 r4 r5 c0 c1 c2 c3 c4 c5 c6 hb HB Bk HW GK GR;have HB:=HB2;have Bk:=Bk2;clear HB2 Bk2;by_cases hq:cpuOf n.n c.ps<=n.c
     ·exact yG
     ·have HQ2:=ae hq;go_wp2;go_ret;exact av.f (λh=>by have h1:cpuOf n.n c.ps<=n.c:=(h.2.1 k n HXn.out);have h2:=HQ2.out;omega) HB.out
    ·obtain rfl:l1=k:=af
     have HQ2:Hid (∀(j:Nat) z,c.ns[j]?=F_ z->PQ2 c z):=λj z hz=>HQ.out j z da hz;clear HQ;have kc:=ck2 Bk;go_wp2;go_loopw [51] (λi wr=> ∃k:Nat,k<=l3/\i=GZ G6 k/\Hid (∀(j:Nat) z,j<k->c.vs[j]?=F_ z->PQ3 c z)/\Hid (Below w.heap.size w wr)/\Hid (wr.heap[w.heap.size]?=F_ (G7 (clo6 a1 l1 y1 a2 l2 y2 a3 l3 y3 a4 l4 y4 a5 l5 y5 c.now) 29 (0,0)))) (λi _=>l3 - (intOf i).toNat);case atStart=>exact⟨0,by omega,rfl,λ_ _ h=>absurd h af,HB.out,Bk.out⟩
     case round=>
      obtain⟨k,hk,rfl,HQ,HB,Bk⟩:=hrel;by_cases hlt:k<l3
      ·obtain⟨b,o,v,rfl,hb,hx,hat⟩:=bM (HR.v.below HB.out) hlt;obtain⟨va,vl,vc,hvr,z0,z2,z3,z5,c0,c1,c2,c3,c4,c5,c6,c7⟩:=aP hat;have HXv:=ae hx;clear hat hx z0 z2 z3 z5 hvr;have hcase:(v.x=G_\/v.m=⟨#[]⟩)\/(v.x=Hb/\¬v.m=⟨#[]⟩):=by
        rcases Gq v.x with h|h
        ·by_cases e:v.m=⟨#[]⟩
         ·exact He (Hd e)
         ·exact Hd ⟨h,e⟩
        ·exact He (He h)
       rcases hcase with hcase|⟨hs,he⟩
       ·have HCs:=ae hcase;rcases hcase with hs|he
        ·exact vm
        ·have hq:=cC he;clear he;rcases Gq v.x with hs|hs
         ·exact vm
         ·exact vm
       ·have hq:=bg he;have HEm:=ae he;have HSi:=ae hs;rw[hs] at c4;clear he hs;obtain⟨k0,k1,k2,k3,k4,k5⟩:=cs6 Bk;have ltk_0:=aa Bk.out;go_wp2_with fail;refine (zi ⟨a1,l1,y1,a2,l2,y2,(F_ ⟨b,o,U⟩),l3,y3,a4,l4,y4,a5,l5,y5⟩ c v.m _ (HR.below (HB.trans ((aq _ _).mono HB.size)))).mono ?_;rintro e w2 ⟨r,rfl,hi,hb3⟩;clear k0 k1 k2 k3 k4 k5 ltk_0;obtain⟨HA0,hbx⟩:=aT hb3;replace Bk:=upK Bk hbx;have Br:=ae HA0;replace HB:=upB HB hbx;clear hb3 hbx HA0;have HI:=ae hi;clear hi hb c0 c1 c2 c3 c4 c5 c6 c7;cases r
        ·go_wp2;go_ret;exact av.f (λh=>by have:=HI.2 ((h.2.2 k v HXv.out) HSi.out HEm.out);cases this) HB.out
        ·go_wp2_with fail;refine⟨⟨k+1,by omega,by go_num,λj z hj hz=>?_,HB.out,Bk.out⟩,by simp[intOf];omega⟩;by_cases e:j=k
         ·subst e;rw[HXv.out] at hz;obtain rfl:=Fp hz;exact λ_ _=>HI.1 bT
         ·exact HQ.out j z af hz
      ·obtain rfl:l3=k:=af
       have HQ3:Hid (∀(j:Nat) z,c.vs[j]?=F_ z->PQ3 c z):=λj z hz=>HQ.out j z da hz;clear HQ;go_wp2;go_ret;exact av.t ⟨HQ1.out,HQ2.out,HQ3.out⟩ HB.out
theorem kL(d:Ad) (c:Cl) (w:World) (hr:aE w d c.raw) (hn:aJ Nd.n c.ns) (hvs8:c.vs.length<=8):
  Calls Tryz.prog 76 #[Hc #[J d.a1 d.l1 d.c1,J d.a2 d.l2 d.c2,J d.a3 d.l3 d.c3,J d.a4 d.l4 d.c4,J d.a5 d.l5 d.c5,GZ G6 c.now]] w (av (lM c) w):=by
 obtain⟨a1,l1,y1,a2,l2,y2,a3,l3,y3,a4,l4,y4,a5,l5,y5⟩:=d;dsimp only;obtain⟨HR,hl1,hm1,hl3⟩:=nK;have hm3:l3<=9223372036854775807:=FA hr.v.2.1 hr.v.2.2.1;clear hr;have HNR:=ae hn;have HL3:=ae hvs8;clear hn hvs8;go_enter Tryz.func76,Tryz.ntmps76;go_wp2;go_loopw [14] (λi wr=> ∃k:Nat,k<=l3/\i=GZ G6 k/\Hid (∀(j:Nat) z,j<k->c.vs[j]?=F_ z->AQ1 c z)/\Hid (Below w.heap.size w wr)/\Hid (wr.heap[w.heap.size]?=F_ (G7 (clo6 a1 l1 y1 a2 l2 y2 a3 l3 y3 a4 l4 y4 a5 l5 y5 c.now) 29 (0,0)))) (λi _=>l3 - (intOf i).toNat);case atStart=>exact⟨0,by omega,rfl,λ_ _ h=>absurd h af,aq _ _,Fs⟩
 case round=>
  obtain⟨k,hk,rfl,HQ,HB,Bk⟩:=hrel;by_cases hlt:k<l3
  ·obtain⟨b,o,v,rfl,hb,hx,hat⟩:=bM (HR.v.below HB.out) hlt;obtain⟨va,vl,vc,hvr,z0,z2,z3,z5,c0,c1,c2,c3,c4,c5,c6,c7⟩:=aP hat;have HXv:=ae hx;have HTv:=ae hvr;clear hat hx z0 z2 z3 z5 hvr;have hvl:=HTv.1;have hvc:=FA HTv.2.1 HTv.2.2.1;have HVL:=ae hvl;clear hvl;have KV:=ae ((Fy wr (G7 (vov v va vl vc) 95) _ (aa Bk.out)).trans Bk.out);obtain⟨GV,BV⟩:=A9;have TV:=ae (HTv.below (aq wr (G7 (vov v va vl vc) 95)));obtain⟨W,hW⟩:∃W,W=wr.alloc (G7 (vov v va vl vc) 95):=⟨_,rfl⟩;obtain⟨gb,hgb⟩:∃gb,gb=wr.heap.size:=⟨_,rfl⟩;rw[<-hW] at KV GV BV TV;rw[<-hgb] at GV;go_wp2;rw[<-hW,<-hgb];clear hW hgb HB Bk HTv c0 c1 c2 c3 c4 c5 c6 c7 hb;go_loopw [21] (λi wr=> ∃kq:Nat,kq<=vl/\i=GZ G6 kq/\Hid (∀(j:Nat) t,j<kq->v.zs[j]?=F_ t->∃(i:Nat) (n:Nd),c.ns[i]?=F_ n/\n.n=t/\n.z=v.z)/\Hid (Below W.heap.size W wr)) (λi _=>vl - (intOf i).toNat);case atStart=>exact⟨0,by omega,rfl,λ_ _ h=>absurd h af,Ft _ _⟩
   case round=>
    obtain⟨kq,hkq,rfl,HQ2,HBW⟩:=hrel;obtain⟨HB,Bk⟩:=nF;have Bv:=upK GV HBW.out;by_cases hlt2:kq<vl
    ·obtain⟨b2,o2,t,rfl,hb,hx,hc,hsz⟩:=(TV.below HBW.out).at hlt2;have HXt:=ae hx;clear hx hsz;obtain⟨k0,k1,k2,k3,k4,k5⟩:=cs6 Bk;obtain⟨v0,v1,v2,v3,v4,v5,v6,v7⟩:=cs8 Bv;go_wp2_with fail;refine (fV ⟨a1,l1,y1,a2,l2,y2,(F_ ⟨b,o,U⟩),l3,y3,a4,l4,y4,a5,l5,y5⟩ c.now c.ns t w _ HR.n HB.out).mono ?_;rintro e w1 ⟨hb2,hf⟩;have HBW1:=upB HBW hb2;clear k0 k1 k2 k3 k4 k5 v0 v1 v2 v3 v4 v5 v6 v7;replace Bk:=upK Bk hb2;replace Bv:=upK Bv hb2;replace HB:=upB HB hb2;clear hb2;clear hb hc;rcases hf with ⟨hh,m,ma,ml,mc,hx,hn,rfl,z0,z1,hmr⟩|⟨hh,rfl⟩;rotate_left
     ·have HH:=ae hh;clear hh;obtain⟨k0,k1,k2,k3,k4,k5⟩:=cs6 Bk;obtain⟨v0,v1,v2,v3,v4,v5,v6,v7⟩:=cs8 Bv;have ltv_1:=aa Bv.out;go_wp2;go_ret;refine av.f (λh=>?_) (HB.alloc HB.size _);obtain⟨i,m,e1,e2,_⟩:=(h.1 k v HXv.out) kq t HXt.out;have:=(bl HNR.out e1 e2).2;rw[HH.out] at this;cases this
     have HXm:=ae hx;have HNm:=ae hn;clear hx hn hh z0 z1 hmr;by_cases hz:m.z=v.z
     ·have q1:=aW hz;have HZ:=ae hz;clear hz;obtain⟨k0,k1,k2,k3,k4,k5⟩:=cs6 Bk;obtain⟨v0,v1,v2,v3,v4,v5,v6,v7⟩:=cs8 Bv;have ltv_1:=aa Bv.out;go_wp2_with fail;refine⟨⟨kq+1,by omega,by go_num,λj s hj hs=>?_,HBW1.alloc HBW1.size _⟩,by simp[intOf];omega⟩;by_cases e:j=kq
      ·subst e;rw[HXt.out] at hs;obtain rfl:=Fp hs;exact⟨_,m,HXm.out,HNm.out,HZ.out⟩
      ·exact HQ2.out j s af hs
     ·have q1:=bH hz;have HZ:=ae hz;clear hz;obtain⟨k0,k1,k2,k3,k4,k5⟩:=cs6 Bk;obtain⟨v0,v1,v2,v3,v4,v5,v6,v7⟩:=cs8 Bv;have ltv_1:=aa Bv.out;go_wp2;go_ret;refine av.f (λh=>?_) (HB.alloc HB.size _);obtain⟨i,m2,e1,e2,e3⟩:=(h.1 k v HXv.out) kq t HXt.out;obtain⟨_,rfl⟩:=HNR.inj e1 HXm.out (e2.trans HNm.symm);exact HZ.out e3
    ·exact B_
  ·obtain rfl:l3=k:=af
   have HQ1:Hid (∀(j:Nat) z,c.vs[j]?=F_ z->AQ1 c z):=λj z hz=>HQ.out j z da hz;clear HQ;have kc:=ck0 Bk;go_wp2;go_loopw [45] (λi wr=> ∃k:Nat,k<=l1/\i=GZ G6 k/\Hid (∀(j:Nat) z,j<k->c.ns[j]?=F_ z->AQ2 c z)/\Hid (Below w.heap.size w wr)/\Hid (wr.heap[w.heap.size]?=F_ (G7 (clo6 a1 l1 y1 a2 l2 y2 a3 l3 y3 a4 l4 y4 a5 l5 y5 c.now) 29 (0,0)))) (λi _=>l1 - (intOf i).toNat);case atStart=>exact⟨0,by omega,rfl,λ_ _ h=>absurd h af,HB.out,Bk.out⟩
   case round=>
    obtain⟨k,hk,rfl,HQ,HB,Bk⟩:=hrel;by_cases hlt:k<l1
    ·obtain⟨b,o,n,rfl,hb,hx,hat⟩:=bO (HR.n.below HB.out) hlt;obtain⟨va,vl,vc,hvr,z0,z1,c0,c1,c2,c3,c4,c5,c6⟩:=aU hat;have HXn:=ae hx;clear hat hx z0 z1 hvr;obtain⟨GK,GR,HW⟩:=Bz;obtain⟨k0,k1,k2,k3,k4,k5⟩:=sl6 GK;have r0:=λq:Wd (wr.alloc (G7 (nov n va vl vc) 38))=>q.slot (o:=0) GR.out rfl;have r3:=λq:Wd (wr.alloc (G7 (nov n va vl vc) 38))=>q.slot (o:=3) GR.out rfl;have hne0:=Wd.ne (wr.alloc (G7 (nov n va vl vc) 38));have HC:=ae (λq:Wd (wr.alloc (G7 (nov n va vl vc) 38))=>ko ⟨(F_ ⟨b,o,U⟩),l1,y1,a2,l2,y2,a3,l3,y3,a4,l4,y4,a5,l5,y5⟩ c.now c.vs n.n q.w (HR.v.below (HW.trans (q.b.mono HW.size))) HL3.out);go_wp2_with fail;refine ag au au ?_;repeat (go_big_quiet_step (first|(go_at_call 130;exact Calls.wide (HC.out _))|fail))
     refine wpQuiet_nil ?_;rintro _ ⟨q,rfl⟩;have HB2:=upB HW q.b;have Bk2:=upK GK q.b;clear HC hne0 k0 k1 k2 k3 k4 k5 r0 r3 c0 c1 c2 c3 c4 c5 c6 hb HB Bk HW GK GR;have HB:=HB2;have Bk:=Bk2;clear HB2 Bk2;by_cases hq:onOf n.n c.vs<=n.s
     ·exact yG
     ·have HQ2:=ae hq;go_wp2;go_ret;exact av.f (λh=>by have h1:onOf n.n c.vs<=n.s:=(h.2 k n HXn.out);have h2:=HQ2.out;omega) HB.out
    ·obtain rfl:l1=k:=af
     have HQ2:Hid (∀(j:Nat) z,c.ns[j]?=F_ z->AQ2 c z):=λj z hz=>HQ.out j z da hz;exact lU
theorem mm(d:Ad) (c:Cl) (w:World) (hr:aE w d c.raw) (hn:aJ Nd.n c.ns) (hx:aJ Xd.n c.xs) (hv:aJ Vd.n c.vs) (hne:∀(j:Nat) v,c.vs[j]?=F_ v->¬v.n=⟨#[]⟩):
  Calls Tryz.prog 77 #[Hc #[J d.a1 d.l1 d.c1,J d.a2 d.l2 d.c2,J d.a3 d.l3 d.c3,J d.a4 d.l4 d.c4,J d.a5 d.l5 d.c5,GZ G6 c.now]] w (av (kE c) w):=by
 obtain⟨a1,l1,y1,a2,l2,y2,a3,l3,y3,a4,l4,y4,a5,l5,y5⟩:=d;dsimp only;have HR:=ae hr;have hl1:c.ns.length=l1:=rJ
 have hm1:l1<=9223372036854775807:=FA hr.n.2.1 hr.n.2.2.1;obtain⟨hl5,hm5⟩:=jx;clear hr;have HNR:=ae hn;have HXR:=ae hx;have HVR:=ae hv;have HNE:=ae hne;clear hn hx hv hne;go_enter Tryz.func77,Tryz.ntmps77;go_wp2;go_loopw [10] (λi wr=> ∃k:Nat,k<=l1/\i=GZ G6 k/\Hid (∀(j:Nat) z,j<k->c.ns[j]?=F_ z->tJ c z)/\Hid (Below w.heap.size w wr)/\Hid (wr.heap[w.heap.size]?=F_ (G7 (clo6 a1 l1 y1 a2 l2 y2 a3 l3 y3 a4 l4 y4 a5 l5 y5 c.now) 29 (0,0)))) (λi _=>l1 - (intOf i).toNat);case atStart=>exact⟨0,by omega,rfl,λ_ _ h=>absurd h af,aq _ _,Fs⟩
 case round=>
  obtain⟨k,hk,rfl,HQ,HB,Bk⟩:=hrel;by_cases hlt:k<l1
  ·obtain⟨b,o,n,rfl,hb,hx,hat⟩:=bO (HR.n.below HB.out) hlt;obtain⟨va,vl,vc,hvr,z0,z1,c0,c1,c2,c3,c4,c5,c6⟩:=aU hat;have HXn:=ae hx;have HTn:=ae hvr;clear hat hx z0 z1 hvr;obtain⟨k0,k1,k2,k3,k4,k5⟩:=cs6 Bk;have ltk_0:=aa Bk.out;go_wp2_with fail;refine (zm ⟨(F_ ⟨b,o,U⟩),l1,y1,a2,l2,y2,a3,l3,y3,a4,l4,y4,a5,l5,y5⟩ c n va vl vc _ (HR.below (HB.trans ((aq _ _).mono HB.size))) HVR.out (HTn.below (aq _ _))).mono ?_;rintro e w2 ⟨r,rfl,hi,hb3⟩;clear k0 k1 k2 k3 k4 k5 ltk_0;obtain⟨HA0,hbx⟩:=aT hb3;replace Bk:=upK Bk hbx;replace HB:=upB HB hbx;clear hb3 hbx HA0;have HI:=ae hi;clear hi hb c0 c1 c2 c3 c4 c5 c6;cases r
   ·go_wp2;go_ret;exact av.f (λh=>by have:=HI.2 (h.1 k n HXn.out);cases this) HB.out
   ·go_wp2_with fail;refine⟨⟨k+1,by omega,by go_num,λj z hj hz=>?_,HB.out,Bk.out⟩,by simp[intOf];omega⟩;by_cases e:j=k
    ·subst e;rw[HXn.out] at hz;obtain rfl:=Fp hz;exact HI.1 bT
    ·exact HQ.out j z af hz
  ·obtain rfl:l1=k:=af
   have HQ1:Hid (∀(j:Nat) z,c.ns[j]?=F_ z->tJ c z):=λj z hz=>HQ.out j z da hz;clear HQ;have kc:=ck4 Bk;go_wp2;go_loopw [22] (λi wr=> ∃k:Nat,k<=l5/\i=GZ G6 k/\Hid (∀(j:Nat) z,j<k->c.ps[j]?=F_ z->MQ2 c z)/\Hid (Below w.heap.size w wr)/\Hid (wr.heap[w.heap.size]?=F_ (G7 (clo6 a1 l1 y1 a2 l2 y2 a3 l3 y3 a4 l4 y4 a5 l5 y5 c.now) 29 (0,0)))) (λi _=>l5 - (intOf i).toNat);case atStart=>exact⟨0,by omega,rfl,λ_ _ h=>absurd h af,HB.out,Bk.out⟩
   case round=>
    obtain⟨k,hk,rfl,HQ,HB,Bk⟩:=hrel;by_cases hlt:k<l5
    ·obtain⟨b,o,p,rfl,hb,hx,hat⟩:=bN (HR.p.below HB.out) hlt;obtain⟨va,vl,vc,hvr,z0,z2,z4,c0,c1,c2,c3,c4,c5⟩:=aR hat;have HXp:=ae hx;have HTp:=ae hvr;clear hat hx z0 z2 z4 hvr;by_cases hp2:p.p=2;rotate_left
     ·have HP2:=ae hp2;obtain⟨k0,k1,k2,k3,k4,k5⟩:=cs6 Bk;have ltk_0:=aa Bk.out;go_wp2;refine⟨⟨k+1,by omega,by go_num,λj z hj hz=>?_,(HB.alloc HB.size _),(Fy _ _ _ (aa Bk.out)).trans Bk.out⟩,by simp[intOf];omega⟩;exact xZ
     have HP2:=ae hp2;rw[hp2] at c5;clear hp2;obtain⟨k0,k1,k2,k3,k4,k5⟩:=cs6 Bk;have ltk_0:=aa Bk.out;go_wp2_with fail;have HCall:=ae (ze ⟨a1,l1,y1,a2,l2,y2,a3,l3,y3,a4,l4,y4,(F_ ⟨b,o,U⟩),l5,y5⟩ c p va vl vc (wr.alloc (G7 #[I p.n,GZ G6 p.c,I p.z,J va vl vc,I p.d,GZ G6 2] 40)) (HR.below (HB.trans ((aq _ _).mono HB.size))) HNR.out HXR.out HVR.out HNE.out (HTp.below (aq _ _)));rw[HP2.out] at HCall;refine (HCall.out).mono ?_;rintro e w2 ⟨r,rfl,hi,hb3⟩;clear k0 k1 k2 k3 k4 k5 ltk_0;obtain⟨HA0,hbx⟩:=aT hb3;replace Bk:=upK Bk hbx;replace HB:=upB HB hbx;clear hb3 hbx HA0;have HI:=ae hi;clear hi hb HCall c0 c1 c2 c3 c4 c5;cases r
     ·go_wp2;go_ret;exact av.f (λh=>by have:=HI.2 ((h.2 k p HXp.out) HP2.out);cases this) HB.out
     ·go_wp2_with fail;refine⟨⟨k+1,by omega,by go_num,λj z hj hz=>?_,HB.out,Bk.out⟩,by simp[intOf];omega⟩;by_cases e:j=k
      ·subst e;rw[HXp.out] at hz;obtain rfl:=Fp hz;exact λ_=>HI.1 bT
      ·exact HQ.out j z af hz
    ·obtain rfl:l5=k:=af
     have HQ2:Hid (∀(j:Nat) z,c.ps[j]?=F_ z->MQ2 c z):=λj z hz=>HQ.out j z da hz;exact lU
theorem tt(d:Ad) (c:Cl) (w:World) (hr:aE w d c.raw):
  Calls Tryz.prog 73 #[Hc #[J d.a1 d.l1 d.c1,J d.a2 d.l2 d.c2,J d.a3 d.l3 d.c3,J d.a4 d.l4 d.c4,J d.a5 d.l5 d.c5,GZ G6 c.now]] w (av (cJ c) w):=by
 obtain⟨HR,HB⟩:=jr;clear hr;go_enter Tryz.func73,Tryz.ntmps73;go_wp2_with fail;refine (oY _ _ _ c.ns 6 _ (HR.n.below (HB.trans ((aq _ _).mono HB.size)))).mono ?_;rintro e w1 ⟨r,rfl,hi,hb⟩;obtain⟨HA0,hbx⟩:=aT hb;have Bk:=ae HA0;replace HB:=upB HB hbx;clear hb hbx HA0;have HI1:=ae hi;clear hi;cases r
 ·exact pW
 obtain⟨k0,k1,k2,k3,k4,k5⟩:=cs6 Bk;go_wp2_with fail;refine (oZ _ _ _ c.ks 8 _ (HR.k.below HB.out)).mono ?_;rintro e w2 ⟨r,rfl,hi,hb⟩;clear k0 k1 k2 k3 k4 k5;replace Bk:=upK Bk hb;replace HB:=upB HB hb;clear hb;have HI2:=ae hi;clear hi;cases r
 ·exact pX
 obtain⟨k0,k1,k2,k3,k4,k5⟩:=cs6 Bk;go_wp2_with fail;refine (oW _ _ _ c.vs 8 _ (HR.v.below HB.out)).mono ?_;rintro e w3 ⟨r,rfl,hi,hb⟩;clear k0 k1 k2 k3 k4 k5;replace Bk:=upK Bk hb;replace HB:=upB HB hb;clear hb;have HI3:=ae hi;clear hi;cases r
 ·exact xJ
 obtain⟨k0,k1,k2,k3,k4,k5⟩:=cs6 Bk;go_wp2_with fail;refine (oV _ _ _ c.xs 8 _ (HR.x.below HB.out)).mono ?_;rintro e w4 ⟨r,rfl,hi,hb⟩;clear k0 k1 k2 k3 k4 k5;replace Bk:=upK Bk hb;replace HB:=upB HB hb;clear hb;have HI4:=ae hi;clear hi;cases r
 ·exact xP
 obtain⟨k0,k1,k2,k3,k4,k5⟩:=cs6 Bk;go_wp2_with fail;refine (oX _ _ _ c.ps 8 _ (HR.p.below HB.out)).mono ?_;rintro e w5 ⟨r,rfl,hi,hb⟩;clear k0 k1 k2 k3 k4 k5;replace Bk:=upK Bk hb;replace HB:=upB HB hb;clear hb;have HI5:=ae hi;clear hi;cases r
 ·obtain⟨k0,k1,k2,k3,k4,k5⟩:=cs6 Bk;go_wp2;go_ret;exact av.f (λh=>by have:=HI5.2 h.2.2.2.2;cases this) HB.out
 go_wp2;go_ret;exact av.t ⟨HI1.1 bT,HI2.1 bT,HI3.1 bT,HI4.1 bT,HI5.1 bT⟩ HB.out
theorem qx(d:Ad) (c:Cl) (w:World) (hr:aE w d c.raw) (hG:ens w):
  Calls Tryz.prog 38 #[Hc #[J d.a1 d.l1 d.c1,J d.a2 d.l2 d.c2,J d.a3 d.l3 d.c3,J d.a4 d.l4 d.c4,J d.a5 d.l5 d.c5,GZ G6 c.now]] w (av (ay c) w):=by
 have HR:=ae hr;have HE:=ae hG;have HB:=ae (Ft w.heap.size w);clear hr hG;go_enter Tryz.func38,Tryz.ntmps38;go_wp2_with fail;refine (cg c.now 0 1000000 _).mono ?_;rintro e w1 ⟨r,rfl,hi,hw⟩;have hb:Below (w.alloc (G7 (clv d c.now) 29)).heap.size (w.alloc (G7 (clv d c.now) 29)) w1:=by first|(rw[hw];exact Ft _ _)|(rw[<-hw];exact Ft _ _)
 clear hw;obtain⟨HA0,hbx⟩:=aT hb;have Bk:=ae HA0;replace HB:=upB HB hbx;clear hb hbx HA0;have HI1:=ae hi;clear hi;cases r
 ·exact pW
 obtain⟨k0,k1,k2,k3,k4,k5⟩:=cs6 Bk;go_wp2_with fail;refine (tt d c _ (HR.below HB.out)).mono ?_;rintro e w2 ⟨r,rfl,hi,hb⟩;clear k0 k1 k2 k3 k4 k5;replace Bk:=upK Bk hb;replace HB:=upB HB hb;clear hb;have HI2:=ae hi;clear hi;cases r
 ·exact pX
 have HOK:=ae (HI2.1 bT);obtain⟨k0,k1,k2,k3,k4,k5⟩:=cs6 Bk;go_wp2_with fail;refine (qG d c _ (HR.below HB.out) HOK.2.2.2.1.2.2 HOK.2.2.1.2.2 (HE.below HB.out)).mono ?_;rintro e w3 ⟨r,rfl,hi,hb⟩;clear k0 k1 k2 k3 k4 k5;replace Bk:=upK Bk hb;replace HB:=upB HB hb;clear hb;have HI3:=ae hi;clear hi;cases r
 ·exact xJ
 obtain⟨k0,k1,k2,k3,k4,k5⟩:=cs6 Bk;go_wp2_with fail;refine (ot d c _ (HR.below HB.out) HOK.1.2.2 HOK.2.2.2.1.2.2 HOK.2.2.1.2.2 HOK.ne (by have:=HOK.2.2.2.2.1;omega) HOK.EG (HE.below HB.out)).mono ?_;rintro e w4 ⟨r,rfl,hi,hb⟩;clear k0 k1 k2 k3 k4 k5;replace Bk:=upK Bk hb;replace HB:=upB HB hb;clear hb;have HI4:=ae hi;clear hi;cases r
 ·exact xP
 obtain⟨k0,k1,k2,k3,k4,k5⟩:=cs6 Bk;go_wp2_with fail;refine (kL d c _ (HR.below HB.out) HOK.1.2.2 (by have:=HOK.2.2.1.1;omega)).mono ?_;rintro e w5 ⟨r,rfl,hi,hb⟩;clear k0 k1 k2 k3 k4 k5;replace Bk:=upK Bk hb;replace HB:=upB HB hb;clear hb;have HI5:=ae hi;clear hi;cases r
 ·exact xR
 obtain⟨k0,k1,k2,k3,k4,k5⟩:=cs6 Bk;go_wp2_with fail;refine (mm d c _ (HR.below HB.out) HOK.1.2.2 HOK.2.2.2.1.2.2 HOK.2.2.1.2.2 HOK.ne).mono ?_;rintro e w6 ⟨r,rfl,hi,hb⟩;clear k0 k1 k2 k3 k4 k5;replace Bk:=upK Bk hb;replace HB:=upB HB hb;clear hb;have HI6:=ae hi;clear hi;cases r
 ·exact xQ
 go_wp2;go_ret;exact av.t ⟨HI1.1 bT,HI2.1 bT,HI3.1 bT,HI4.1 bT,HI5.1 bT,HI6.1 bT⟩ HB.out
structure Ers (w:World) (E:Nat->Addr):Prop where
 v0:w.cell? ⟨2,0,U⟩=F_ (.iface 193 (Hf (F_ (E 0))))
 v1:w.cell? ⟨3,0,U⟩=F_ (.iface 193 (Hf (F_ (E 1))))
 v2:w.cell? ⟨4,0,U⟩=F_ (.iface 193 (Hf (F_ (E 2))))
 v3:w.cell? ⟨6,0,U⟩=F_ (.iface 193 (Hf (F_ (E 3))))
 v4:w.cell? ⟨8,0,U⟩=F_ (.iface 193 (Hf (F_ (E 4))))
 v5:w.cell? ⟨9,0,U⟩=F_ (.iface 193 (Hf (F_ (E 5))))
 v6:w.cell? ⟨7,0,U⟩=F_ (.iface 193 (Hf (F_ (E 6))))
 v7:w.cell? ⟨1,0,U⟩=F_ (.iface 193 (Hf (F_ (E 7))))
 v8:w.cell? ⟨0,0,U⟩=F_ (.iface 193 (Hf (F_ (E 8))))
 v9:w.cell? ⟨5,0,U⟩=F_ (.iface 193 (Hf (F_ (E 9))))
 blk:∀i,i<10->∃cs T,w.heap[(E i).block]?=F_ (G7 cs T (0,0))
 inj:∀i j,i<10->j<10->E i=E j->i=j
theorem Ers.below(h:Ers w E) (hb:Below w.heap.size w w'):Ers w' E:=
 ⟨(aj hb (br h.v0)).trans h.v0,(aj hb (br h.v1)).trans h.v1,(aj hb (br h.v2)).trans h.v2,(aj hb (br h.v3)).trans h.v3,(aj hb (br h.v4)).trans h.v4,(aj hb (br h.v5)).trans h.v5,(aj hb (br h.v6)).trans h.v6,(aj hb (br h.v7)).trans h.v7,(aj hb (br h.v8)).trans h.v8,(aj hb (br h.v9)).trans h.v9,λi hi=>by
  obtain⟨cs,T,h1⟩:=h.blk i hi;exact⟨cs,T,(hb.block _ (aa h1)).trans h1⟩,h.inj⟩
theorem Ers.ens(h:Ers w E):ens w:=⟨_,_,h.v2⟩
theorem za(v:Value) (w:World):(Extern.ReflectliteType.typeOf #[.iface 193 v]).run Tryz.prog w=.ok (.iface 176 (Hc #[Hf (F_ ⟨10,193,U⟩)])) w:=by kernel_rfl
def Eh:Array Value->Sem Value:=Extern.ReflectliteType.method λt=>do Rtype.noPackHeld "Comparable" t;pure (G8 (<-typeInfo t).comparable)
theorem me(w:World):(Eh #[Hc #[Hf (F_ ⟨10,193,U⟩)]]).run Tryz.prog w=.ok (G8 Hb) w:=by kernel_rfl
theorem gO(v:Value) (w:World):(Go.method 340 176 v "Comparable").run Tryz.prog w=.ok (218,v) w:=by kernel_rfl
theorem zd:(Tryz.prog.info? 193).map (·.comparable)=F_ Hb:=by kernel_rfl
theorem zb:(Tryz.prog.info? 228).map (·.size)=F_ 1:=by kernel_rfl
theorem Ea(v:Value) (xT:TypeId) (w:World):(Instr.typeAssert (.iface 193 v) xT 178 Hb).run Tryz.prog w=.ok (Hg #[.nilIface,G8 G_]) w:=run_typeAssert_lacksB Tryz.underlying178 (by kernel_rfl) (by kernel_rfl) v xT w
theorem s8(v:Value) (xT:TypeId) (w:World):(Instr.typeAssert (.iface 193 v) xT 181 Hb).run Tryz.prog w=.ok (Hg #[.nilIface,G8 G_]) w:=run_typeAssert_lacksB Tryz.underlying181 (by kernel_rfl) (by kernel_rfl) v xT w
theorem qe(v:Value) (xT:TypeId) (w:World):(Instr.typeAssert (.iface 193 v) xT 183 Hb).run Tryz.prog w=.ok (Hg #[.nilIface,G8 G_]) w:=run_typeAssert_lacksB Tryz.underlying183 (by kernel_rfl) (by kernel_rfl) v xT w
theorem eL(a:Addr) (w:World)  :
  Calls Tryz.prog 79 #[.iface 193 (Hf (F_ (a))),.iface 193 (Hf (F_ (a)))] w λe w'=>e=Ha (G8 Hb)/\w'=w:=by
 obtain⟨i,hi,hcmp⟩:=FR.1 zd;obtain⟨j,hj,hjs⟩:=FR.1 zb;obtain⟨h8,h32,tT,cT,mR⟩:=Bu;have heq:=run_eql_iface_ptr_same (P:=Tryz.prog) w a Tryz.underlying51 Tryz.underlying193 hi hcmp hj;exact xF
theorem y_(a b:Addr) (ca cb:Array Value) (ta tb:TypeId) (w:World) (hne:a≠b) (ha:w.heap[a.block]?=F_ (G7 ca ta (0,0))) (hb:w.heap[b.block]?=F_ (G7 cb tb (0,0))):
  Calls Tryz.prog 79 #[.iface 193 (Hf (F_ (a))),.iface 193 (Hf (F_ (b)))] w λe w'=>e=Ha (G8 G_)/\w'=w:=by
 obtain⟨i,hi,hcmp⟩:=FR.1 zd;obtain⟨j,hj,hjs⟩:=FR.1 zb;obtain⟨h8,h32,tT,cT,mR⟩:=Bu;have nE:=Ea;have uE:=s8;have vE:=qe;have heq:=run_eql_iface_ptr_other (P:=Tryz.prog) w Tryz.underlying51 Tryz.underlying193 hi hcmp hj (by rw[hjs];decide) hne ha hb;exact xF
theorem aK(h:Ers w E) (i j:Nat) (hi:i<10) (hj:j<10) (hne:¬i=j):
  Calls Tryz.prog 79 #[.iface 193 (Hf (F_ (E i))),.iface 193 (Hf (F_ (E j)))] w λe w'=>e=Ha (G8 G_)/\w'=w:=by
 obtain⟨ca,ta,h1⟩:=h.blk i hi;obtain⟨cb,tb,h2⟩:=h.blk j hj;exact y_ (E i) (E j) ca cb ta tb w (λe=>hne (h.inj i j hi hj e)) h1 h2
theorem EP(E:Nat->Addr) (w:World) (h:Ers w E):Calls Tryz.prog 40 #[.iface 193 (Hf (F_ (E 0)))] w λe w'=>e=Ha (GZ G6 2)/\w'=w:=by
 obtain⟨HE,v0,v1,v2,v3,v4,v5,v6,v7,v8,v9⟩:=ie;clear h;go_enter Tryz.func40,Tryz.ntmps40;go_wp2_with fail;refine (eL (E 0) _).mono ?_;exact ig
theorem EO(E:Nat->Addr) (w:World) (h:Ers w E):Calls Tryz.prog 40 #[.iface 193 (Hf (F_ (E 1)))] w λe w'=>e=Ha (GZ G6 1)/\w'=w:=by
 obtain⟨HE,v0,v1,v2,v3,v4,v5,v6,v7,v8,v9⟩:=ie;clear h;go_enter Tryz.func40,Tryz.ntmps40;go_wp2_with fail;refine (aK HE.out 1 0 ah ah ah).mono ?_;rintro e w' ⟨rfl,rfl⟩;go_wp2_with fail;refine (aK HE.out 1 9 ah ah ah).mono ?_;rintro e w' ⟨rfl,rfl⟩;go_wp2_with fail;refine (aK HE.out 1 2 ah ah ah).mono ?_;rintro e w' ⟨rfl,rfl⟩;go_wp2_with fail;refine (aK HE.out 1 3 ah ah ah).mono ?_;rintro e w' ⟨rfl,rfl⟩;go_wp2_with fail;refine (aK HE.out 1 6 ah ah ah).mono ?_;rintro e w' ⟨rfl,rfl⟩;go_wp2_with fail;refine (aK HE.out 1 4 ah ah ah).mono ?_;rintro e w' ⟨rfl,rfl⟩;go_wp2_with fail;refine (aK HE.out 1 5 ah ah ah).mono ?_;rintro e w' ⟨rfl,rfl⟩;go_wp2_with fail;refine (aK HE.out 1 7 ah ah ah).mono ?_;rintro e w' ⟨rfl,rfl⟩;go_wp2_with fail;refine (aK HE.out 1 8 ah ah ah).mono ?_;exact ig
theorem EN(E:Nat->Addr) (w:World) (h:Ers w E):Calls Tryz.prog 40 #[.iface 193 (Hf (F_ (E 2)))] w λe w'=>e=Ha (GZ G6 6)/\w'=w:=by
 obtain⟨HE,v0,v1,v2,v3,v4,v5,v6,v7,v8,v9⟩:=ie;clear h;go_enter Tryz.func40,Tryz.ntmps40;go_wp2_with fail;refine (aK HE.out 2 0 ah ah ah).mono ?_;rintro e w' ⟨rfl,rfl⟩;go_wp2_with fail;refine (aK HE.out 2 9 ah ah ah).mono ?_;rintro e w' ⟨rfl,rfl⟩;go_wp2_with fail;refine (eL (E 2) _).mono ?_;exact ig
theorem EM(E:Nat->Addr) (w:World) (h:Ers w E):Calls Tryz.prog 40 #[.iface 193 (Hf (F_ (E 3)))] w λe w'=>e=Ha (GZ G6 7)/\w'=w:=by
 obtain⟨HE,v0,v1,v2,v3,v4,v5,v6,v7,v8,v9⟩:=ie;clear h;go_enter Tryz.func40,Tryz.ntmps40;go_wp2_with fail;refine (aK HE.out 3 0 ah ah ah).mono ?_;rintro e w' ⟨rfl,rfl⟩;go_wp2_with fail;refine (aK HE.out 3 9 ah ah ah).mono ?_;rintro e w' ⟨rfl,rfl⟩;go_wp2_with fail;refine (aK HE.out 3 2 ah ah ah).mono ?_;rintro e w' ⟨rfl,rfl⟩;go_wp2_with fail;refine (eL (E 3) _).mono ?_;exact ig
theorem EL(E:Nat->Addr) (w:World) (h:Ers w E):Calls Tryz.prog 40 #[.iface 193 (Hf (F_ (E 4)))] w λe w'=>e=Ha (GZ G6 9)/\w'=w:=by
 obtain⟨HE,v0,v1,v2,v3,v4,v5,v6,v7,v8,v9⟩:=ie;clear h;go_enter Tryz.func40,Tryz.ntmps40;go_wp2_with fail;refine (aK HE.out 4 0 ah ah ah).mono ?_;rintro e w' ⟨rfl,rfl⟩;go_wp2_with fail;refine (aK HE.out 4 9 ah ah ah).mono ?_;rintro e w' ⟨rfl,rfl⟩;go_wp2_with fail;refine (aK HE.out 4 2 ah ah ah).mono ?_;rintro e w' ⟨rfl,rfl⟩;go_wp2_with fail;refine (aK HE.out 4 3 ah ah ah).mono ?_;rintro e w' ⟨rfl,rfl⟩;go_wp2_with fail;refine (aK HE.out 4 6 ah ah ah).mono ?_;rintro e w' ⟨rfl,rfl⟩;go_wp2_with fail;refine (eL (E 4) _).mono ?_;exact ig
theorem EK(E:Nat->Addr) (w:World) (h:Ers w E):Calls Tryz.prog 40 #[.iface 193 (Hf (F_ (E 5)))] w λe w'=>e=Ha (GZ G6 11)/\w'=w:=by
 obtain⟨HE,v0,v1,v2,v3,v4,v5,v6,v7,v8,v9⟩:=ie;clear h;go_enter Tryz.func40,Tryz.ntmps40;go_wp2_with fail;refine (aK HE.out 5 0 ah ah ah).mono ?_;rintro e w' ⟨rfl,rfl⟩;go_wp2_with fail;refine (aK HE.out 5 9 ah ah ah).mono ?_;rintro e w' ⟨rfl,rfl⟩;go_wp2_with fail;refine (aK HE.out 5 2 ah ah ah).mono ?_;rintro e w' ⟨rfl,rfl⟩;go_wp2_with fail;refine (aK HE.out 5 3 ah ah ah).mono ?_;rintro e w' ⟨rfl,rfl⟩;go_wp2_with fail;refine (aK HE.out 5 6 ah ah ah).mono ?_;rintro e w' ⟨rfl,rfl⟩;go_wp2_with fail;refine (aK HE.out 5 4 ah ah ah).mono ?_;rintro e w' ⟨rfl,rfl⟩;go_wp2_with fail;refine (eL (E 5) _).mono ?_;exact ig
theorem EJ(E:Nat->Addr) (w:World) (h:Ers w E):Calls Tryz.prog 40 #[.iface 193 (Hf (F_ (E 6)))] w λe w'=>e=Ha (GZ G6 7)/\w'=w:=by
 obtain⟨HE,v0,v1,v2,v3,v4,v5,v6,v7,v8,v9⟩:=ie;clear h;go_enter Tryz.func40,Tryz.ntmps40;go_wp2_with fail;refine (aK HE.out 6 0 ah ah ah).mono ?_;rintro e w' ⟨rfl,rfl⟩;go_wp2_with fail;refine (aK HE.out 6 9 ah ah ah).mono ?_;rintro e w' ⟨rfl,rfl⟩;go_wp2_with fail;refine (aK HE.out 6 2 ah ah ah).mono ?_;rintro e w' ⟨rfl,rfl⟩;go_wp2_with fail;refine (aK HE.out 6 3 ah ah ah).mono ?_;rintro e w' ⟨rfl,rfl⟩;go_wp2_with fail;refine (eL (E 6) _).mono ?_;exact ig
theorem EI(E:Nat->Addr) (w:World) (h:Ers w E):Calls Tryz.prog 40 #[.iface 193 (Hf (F_ (E 7)))] w λe w'=>e=Ha (GZ G6 11)/\w'=w:=by
 obtain⟨HE,v0,v1,v2,v3,v4,v5,v6,v7,v8,v9⟩:=ie;clear h;go_enter Tryz.func40,Tryz.ntmps40;go_wp2_with fail;refine (aK HE.out 7 0 ah ah ah).mono ?_;rintro e w' ⟨rfl,rfl⟩;go_wp2_with fail;refine (aK HE.out 7 9 ah ah ah).mono ?_;rintro e w' ⟨rfl,rfl⟩;go_wp2_with fail;refine (aK HE.out 7 2 ah ah ah).mono ?_;rintro e w' ⟨rfl,rfl⟩;go_wp2_with fail;refine (aK HE.out 7 3 ah ah ah).mono ?_;rintro e w' ⟨rfl,rfl⟩;go_wp2_with fail;refine (aK HE.out 7 6 ah ah ah).mono ?_;rintro e w' ⟨rfl,rfl⟩;go_wp2_with fail;refine (aK HE.out 7 4 ah ah ah).mono ?_;rintro e w' ⟨rfl,rfl⟩;go_wp2_with fail;refine (aK HE.out 7 5 ah ah ah).mono ?_;rintro e w' ⟨rfl,rfl⟩;go_wp2_with fail;refine (eL (E 7) _).mono ?_;exact ig
theorem EH(E:Nat->Addr) (w:World) (h:Ers w E):Calls Tryz.prog 40 #[.iface 193 (Hf (F_ (E 8)))] w λe w'=>e=Ha (GZ G6 10)/\w'=w:=by
 obtain⟨HE,v0,v1,v2,v3,v4,v5,v6,v7,v8,v9⟩:=ie;clear h;go_enter Tryz.func40,Tryz.ntmps40;go_wp2_with fail;refine (aK HE.out 8 0 ah ah ah).mono ?_;rintro e w' ⟨rfl,rfl⟩;go_wp2_with fail;refine (aK HE.out 8 9 ah ah ah).mono ?_;rintro e w' ⟨rfl,rfl⟩;go_wp2_with fail;refine (aK HE.out 8 2 ah ah ah).mono ?_;rintro e w' ⟨rfl,rfl⟩;go_wp2_with fail;refine (aK HE.out 8 3 ah ah ah).mono ?_;rintro e w' ⟨rfl,rfl⟩;go_wp2_with fail;refine (aK HE.out 8 6 ah ah ah).mono ?_;rintro e w' ⟨rfl,rfl⟩;go_wp2_with fail;refine (aK HE.out 8 4 ah ah ah).mono ?_;rintro e w' ⟨rfl,rfl⟩;go_wp2_with fail;refine (aK HE.out 8 5 ah ah ah).mono ?_;rintro e w' ⟨rfl,rfl⟩;go_wp2_with fail;refine (aK HE.out 8 7 ah ah ah).mono ?_;rintro e w' ⟨rfl,rfl⟩;go_wp2_with fail;refine (eL (E 8) _).mono ?_;exact ig
theorem mP(E:Nat->Addr) (i:Nat) (w:World) (h:Ers w E) (hi:i<9):Calls Tryz.prog 40 #[.iface 193 (Hf (F_ (E i)))] w λe w'=>e=Ha (GZ G6 (bF i))/\w'=w:=by
 match i,hi with
 | 0,_=>exact EP E w h
 | 1,_=>exact EO E w h
 | 2,_=>exact EN E w h
 | 3,_=>exact EM E w h
 | 4,_=>exact EL E w h
 | 5,_=>exact EK E w h
 | 6,_=>exact EJ E w h
 | 7,_=>exact EI E w h
 | 8,_=>exact EH E w h
theorem eJ(E:Nat->Addr) (i:Nat) (cc:Int) (hcc:cc=bF i) (w:World) (h:Ers w E) (hi:i<9):Calls Tryz.prog 17 #[.iface 193 (Hf (F_ (E i)))] w λe w'=>e=Ha (Hc #[J U 0 0,J U 0 0,J U 0 0,J U 0 0,J U 0 0,GZ G6 0,I ⟨#[]⟩,GZ G6 cc])/\Below w.heap.size w w':=by
 have HE:=ae (h.below (aq w (G7 #[J U 0 0,J U 0 0,J U 0 0,J U 0 0,J U 0 0,GZ G6 0,I ⟨#[]⟩,GZ G6 0] 33)));clear h;go_enter Tryz.func17,Tryz.ntmps17;go_wp2_with fail;refine (mP E i _ HE.out hi).mono ?_;rintro e w' ⟨rfl,rfl⟩;rw[<-hcc];clear hcc;go_wp2;exact bodyPost_ret (v:=Hc #[J U 0 0,J U 0 0,J U 0 0,J U 0 0,J U 0 0,GZ G6 0,I ⟨#[]⟩,GZ G6 cc]) (by simp[results,Tryz.results17,go_sem]) rfl ⟨rfl,aq _ _⟩
end Rc
theorem oh(s:ByteArray) (w:World):
  Calls Tryz.prog 37 #[I s] w λe w'=>e=Ha (G8 (decide (8000<s.size)))/\w=w':=by
 go_enter Tryz.func37,Tryz.ntmps37;go_wp2;go_ret;exact⟨by simp;omega,rfl⟩
theorem y8(s:ByteArray) (w:World) (h:8000<s.size):
  Calls Tryz.prog 37 #[I s] w λe w'=>e=Ha (G8 Hb)/\w=w':=by
 have:=oh s w;rw[decide_eq_true h] at this;exact this
theorem Aq(s:ByteArray) (w:World) (h:¬8000<s.size):
  Calls Tryz.prog 37 #[I s] w λe w'=>e=Ha (G8 G_)/\w=w':=by
 have:=oh s w;rw[decide_eq_false h] at this;exact this
namespace Gi
section
variable {R:Rs} {sp:Tmp} {ex:Ex} {P:Program} {ops:Array Oper} {Q:Exit->Act->World->Prop} {W:World} {a0:Act} {back:Option Oper}
end
def Bel(w w':World):Prop:=Below w.heap.size w w'
theorem Bel.rel(sp:Tmp):Rel (λ_=>Bel) sp:=⟨λ_=>Ft _ _,λh k=>Below.trans h (Below.mono k (Below.size h)),λh=>Below.size h,λ_=>(Ft _ _).drew,λ_ _ _ h=>h,λ_ _ _ _ _ h=>h⟩
end Gi
namespace Rc
section
variable {w:World} {a:Option Addr} {len cap m:Nat} {rs:List (List Fv)}
end
theorem q_ {o:Oper} {a:Act} {K:Act->World->Prop} {Q:Exit->Act->World->Prop} (s x:Operand) (t T:TypeId) (ho:o.op=.call { callee:=.builtin .append,args:=#[s,x],argTypes:=#[t,t] }) (i:TypeInfo) (z:Value) (m bytes:Nat) (ht:Tryz.prog.underlying t=F_ (.slice T)) (hi:Tryz.prog.info? T=F_ i) (hz:i.zero=F_ z)
  (hsize:i.size=m) (hby:i.bytes=bytes) (hzs:z.cells.size=m) (hsz:0<m) (hT:¬T=9) (base:Nat) (v0:Value) (hs:a.eval s=v0) (hown:w.ownsRow base T m v0 0 []) (hbw:base<=w.heap.size) {ad:Addr} {len cap:Nat} {rs:List (List Fv)} (hx:a.eval x=J (F_ ad) len cap) (hr:a_ w (F_ ad) len cap m rs) (hm:∀(j:Nat) r,rs[j]?=F_ r->r.length=m/\fT r) (hl:len<=8) (hb8:bytes<=1000)
  (h:∀a' c' w',aA w' a' len c' m T rs (λk=>base<=k/\k<w'.heap.size)->w.grownBy w' v0.ownBlock->K (a.put o.dst (J a' len c')) w'):o.wp Tryz.prog a w K Q:=by
 have hlen:((rs.map dW).flatten).length=len*m:=by rw[eD (iB λj r hj=>(hm j r hj).1),FB,hr.1]
 have hne:rs=[]\/∃b o,ad=(⟨b,o,U⟩:Addr):=by
  rcases hr.2.2.2 with h1|⟨b,o,e,_⟩
  ·exact He h1
  ·cases e;exact Hd ⟨b,o,rfl⟩
 have hnews:∀(j:Nat) u,((rs.map dW).flatten)[j]?=F_ u->w.cell? (ad.add j)=F_ u:=by
  rcases hne with rfl|⟨b,o,rfl⟩
  ·intro j u hu;simp at hu
  ·exact lH hr hm
 refine wp_append_own w s x t ho base T i z m bytes ht hi hz hsize hby hzs hsz v0 0 [] hs hown ad len cap (rs.map dW).flatten hx hlen hnews (gj hr hm w (λ_=>True)).one bw (by have:(0+len)*bytes<=8*1000:=Nat.mul_le_mul af hb8;omega) hbw ?_;intro v' w' ho' hg' _;rw[FE,List.nil_append] at ho';obtain⟨a',c',rfl,hR⟩:=(gj hr hm w' (λk=>base<=k/\k<w'.heap.size)).own ho' hr.1.symm hT (λg hg=>ho'.lt g hg);rw[hr.1] at hR ⊢;exact h a' c' w' hR hg'
def jJ(B:Nat) (len m:Nat) (T:TypeId) (rs:List (List Fv)):Gi.Fact:=λv w l h=> ∃a c,v=J a len c/\aA w a len c m T rs (λk=>l<=k/\k<h)/\B<=l
theorem jJ.mono(ex:Gi.Ex) (s:Option Tmp) (B len m:Nat) (T:TypeId) (rs:List (List Fv)):Gi.Fact.ck (λ_=>Gi.Bel) ex s (jJ B len m T rs):=by
 rintro s' _ _ _ v w w' l h ⟨a,c,h1,h2,h3⟩ hb;exact⟨a,c,h1,h2.below hb,h3⟩
def ClF(B:Nat) (c:Cl):Gi.Fact:=λv w _ _=> ∃d:Ad,v=Hc #[J d.a1 d.l1 d.c1,J d.a2 d.l2 d.c2,J d.a3 d.l3 d.c3,J d.a4 d.l4 d.c4,J d.a5 d.l5 d.c5,GZ G6 c.now]/\dz w d c.raw (λk=>B<=k)
theorem ClF.mono(ex:Gi.Ex) (s:Option Tmp) (B:Nat) (c:Cl):Gi.Fact.ck (λ_=>Gi.Bel) ex s (ClF B c):=by
 rintro s' _ _ _ v w w' l h ⟨d,h1,h2⟩ hb;exact⟨d,h1,h2.below hb⟩
theorem tu(d:Ad) (c:Cl) (w:World) (hr:aE w d c.raw) (hs:Sm c):
  Calls Tryz.prog 42 #[Hc #[J d.a1 d.l1 d.c1,J d.a2 d.l2 d.c2,J d.a3 d.l3 d.c3,J d.a4 d.l4 d.c4,J d.a5 d.l5 d.c5,GZ G6 c.now]] w λe w'=> ∃d',e=Ha (Hc #[J d'.a1 d'.l1 d'.c1,J d'.a2 d'.l2 d'.c2,J d'.a3 d'.l3 d'.c3,J d'.a4 d'.l4 d'.c4,J d'.a5 d'.l5 d'.c5,GZ G6 c.now])/\dz w' d' c.raw (λk=>w.heap.size<=k)/\Below w.heap.size w w':=by
 have HR:=ae hr;have HS:=ae hs;have hl1:c.ns.length=d.l1:=by simpa using (show (c.ns.map ndF).length=d.l1 from hr.n.1)
 have hl2:c.ks.length=d.l2:=by simpa using (show (c.ks.map kdF).length=d.l2 from hr.k.1)
 have hl3:c.vs.length=d.l3:=by simpa using (show (c.vs.map vdF).length=d.l3 from hr.v.1)
 have hl4:c.xs.length=d.l4:=by simpa using (show (c.xs.map xdF).length=d.l4 from hr.x.1)
 have hl5:c.ps.length=d.l5:=by simpa using (show (c.ps.map pdF).length=d.l5 from hr.p.1)
 clear hr hs;obtain⟨i2,hi2⟩:=FR.1 zl;obtain⟨i4,hi4⟩:=FR.1 mi;have HI2:=ae hi2;have HI4:=ae hi4;clear hi2 hi4;obtain⟨W,hW0⟩:∃W,W=(w.alloc (G7 (clv d c.now) 29)).alloc (G7 (clo6 U 0 0 U 0 0 U 0 0 U 0 0 U 0 0 0) 29):=⟨_,rfl⟩;have HB:Hid (Below w.heap.size w W):=by rw[hW0];exact aM _ _ _
 have Bk:Hid (W.heap[w.heap.size]?=F_ (G7 (clv d c.now) 29 (0,0))):=by rw[hW0];exact dK _ _ _
 obtain⟨Br,hWs⟩:=A5;go_enter Tryz.func42,Tryz.ntmps42;go_wp2_with fail;rw[<-hW0];clear hW0;rename_i K0 hK0;refine Gi.aQ (ex:=λ_=>U) (Gi.Bel.rel 0) au rfl rfl au au ?_;refine' Gi.Grow.stepC _ rfl ?_ ?_;rotate_left 1
 ·exact jb
 refine' Gi.Grow.stepC _ rfl ?_ ?_;rotate_left 1
 ·refine Gi.Obl.plain rfl ?_;intro ac wg K lo hi hsz hW hpr hf hap hK;clear hsz hap hpr;have e3:=hf 3 ah;simp[Gi.ai,Fo] at e3;exact iW
 refine Gi.Grow.step (jJ W.heap.size d.l1 7 38 (c.ns.map ndF)) rfl (jJ.mono _ _ _ _ _ _ _) ?_ ?_
 ·refine Gi.Obl.plain rfl ?_;intro ac wg K lo hi hsz hW hpr hf hap hK;clear hsz hpr hap;have e4:=hf 4 ah;simp[Gi.ai,Fo] at e4;clear hf;go_simp;refine (mh d.a1 d.l1 d.c1 c.ns _ (HR.n.below (HB.trans (Below.mono hW HB.size))) (by have:=HS.n;omega) HS.ns).mono ?_;exact pU
 refine' Gi.Grow.stepC _ rfl ?_ ?_;rotate_left 1
 ·exact jb
 refine' Gi.Grow.stepC _ rfl ?_ ?_;rotate_left 1
 ·refine Gi.Obl.plain rfl ?_;intro ac wg K lo hi hsz hW hpr hf hap hK;clear hsz hap hpr;have e6:=hf 6 ah;simp[Gi.ai,Fo] at e6;exact iW
 refine Gi.Grow.step (jJ W.heap.size d.l2 4 92 (c.ks.map kdF)) rfl (jJ.mono _ _ _ _ _ _ _) ?_ ?_
 ·refine Gi.Obl.plain rfl ?_;intro ac wg K lo hi hsz hW hpr hf hap hK;clear hsz hpr hap;have e7:=hf 7 ah;simp[Gi.ai,Fo] at e7;clear hf;cases hq:d.a2 with
  | none=>
   have h0:c.ks=[]:=by
    rcases HR.k.2.2.2 with h|⟨b,o,e,_⟩
    ·have h9:c.ks.map kdF=[]:=h
     simpa using h9
    ·rw[hq] at e;cases e
   have hl0:d.l2=0:=by rw[<-hl2,h0];rfl
   rw[hq,hl0] at e7;go_simp;refine hK _ _ (Ft _ _) ⟨U,0,by rw[hl0],?_,Below.size hW⟩;rw[hl0,h0];exact aA.nil _ _ _ _ _ af
  | some ad=>
   rw[hq] at e7;have hin:=HR.k.below (HB.trans (Below.mono hW HB.size));have hin2:a_ wg d.a2 d.l2 d.c2 4 (c.ks.map kdF):=hin;rw[hq] at hin2
   have hz:i2.zero=F_ (Hc #[I ⟨#[]⟩,G8 G_,G8 G_,I ⟨#[]⟩])/\i2.size=4/\i2.bytes=40:=by have:=HI2.2;simp only[GU] at this;exact this
   refine q_ _ (.tmp 7) 24 92 rfl i2 (Hc #[I ⟨#[]⟩,G8 G_,G8 G_,I ⟨#[]⟩]) 4 40 Tryz.underlying24 HI2.1 hz.1 hz.2.1 hz.2.2 rfl ah ah wg.heap.size (J U 0 0) rfl (Gj _ _ _ _) (Fq _) (by simpa[Act.eval] using e7) hin2 (iu sf _) (by have:=HS.k;omega) ah ?_;intro a' c' w' hR hg;exact hK _ _ ((Ft _ _).grown hg (Fq _) (λk hk=>by cases hk)) ⟨a',c',rfl,hR,Below.size hW⟩
 refine' Gi.Grow.stepC _ rfl ?_ ?_;rotate_left 1
 ·exact jb
 refine' Gi.Grow.stepC _ rfl ?_ ?_;rotate_left 1
 ·refine Gi.Obl.plain rfl ?_;intro ac wg K lo hi hsz hW hpr hf hap hK;clear hsz hap hpr;have e9:=hf 9 ah;simp[Gi.ai,Fo] at e9;exact iW
 refine Gi.Grow.step (jJ W.heap.size d.l3 8 95 (c.vs.map vdF)) rfl (jJ.mono _ _ _ _ _ _ _) ?_ ?_
 ·refine Gi.Obl.plain rfl ?_;intro ac wg K lo hi hsz hW hpr hf hap hK;clear hsz hpr hap;have e10:=hf 10 ah;simp[Gi.ai,Fo] at e10;clear hf;go_simp;refine (mf d.a3 d.l3 d.c3 c.vs _ (HR.v.below (HB.trans (Below.mono hW HB.size))) (by have:=HS.v;omega) HS.vs).mono ?_;exact pU
 refine' Gi.Grow.stepC _ rfl ?_ ?_;rotate_left 1
 ·exact jb
 refine' Gi.Grow.stepC _ rfl ?_ ?_;rotate_left 1
 ·refine Gi.Obl.plain rfl ?_;intro ac wg K lo hi hsz hW hpr hf hap hK;clear hsz hap hpr;have e12:=hf 12 ah;simp[Gi.ai,Fo] at e12;exact iW
 refine Gi.Grow.step (jJ W.heap.size d.l4 5 97 (c.xs.map xdF)) rfl (jJ.mono _ _ _ _ _ _ _) ?_ ?_
 ·refine Gi.Obl.plain rfl ?_;intro ac wg K lo hi hsz hW hpr hf hap hK;clear hsz hpr hap;have e13:=hf 13 ah;simp[Gi.ai,Fo] at e13;clear hf;cases hq:d.a4 with
  | none=>
   have h0:c.xs=[]:=by
    rcases HR.x.2.2.2 with h|⟨b,o,e,_⟩
    ·have h9:c.xs.map xdF=[]:=h
     simpa using h9
    ·rw[hq] at e;cases e
   have hl0:d.l4=0:=by rw[<-hl4,h0];rfl
   rw[hq,hl0] at e13;go_simp;refine hK _ _ (Ft _ _) ⟨U,0,by rw[hl0],?_,Below.size hW⟩;rw[hl0,h0];exact aA.nil _ _ _ _ _ af
  | some ad=>
   rw[hq] at e13;have hin:=HR.x.below (HB.trans (Below.mono hW HB.size));have hin2:a_ wg d.a4 d.l4 d.c4 5 (c.xs.map xdF):=hin;rw[hq] at hin2
   have hz:i4.zero=F_ (Hc #[I ⟨#[]⟩,GZ G6 0,I ⟨#[]⟩,G8 G_,I ⟨#[]⟩])/\i4.size=5/\i4.bytes=64:=by have:=HI4.2;simp only[GU] at this;exact this
   refine q_ _ (.tmp 13) 26 97 rfl i4 (Hc #[I ⟨#[]⟩,GZ G6 0,I ⟨#[]⟩,G8 G_,I ⟨#[]⟩]) 5 64 Tryz.underlying26 HI4.1 hz.1 hz.2.1 hz.2.2 rfl ah ah wg.heap.size (J U 0 0) rfl (Gj _ _ _ _) (Fq _) (by simpa[Act.eval] using e13) hin2 (iu q7 _) (by have:=HS.x;omega) ah ?_;intro a' c' w' hR hg;exact hK _ _ ((Ft _ _).grown hg (Fq _) (λk hk=>by cases hk)) ⟨a',c',rfl,hR,Below.size hW⟩
 refine' Gi.Grow.stepC _ rfl ?_ ?_;rotate_left 1
 ·exact jb
 refine' Gi.Grow.stepC _ rfl ?_ ?_;rotate_left 1
 ·refine Gi.Obl.plain rfl ?_;intro ac wg K lo hi hsz hW hpr hf hap hK;clear hsz hap hpr;have e15:=hf 15 ah;simp[Gi.ai,Fo] at e15;exact iW
 refine Gi.Grow.step (jJ W.heap.size d.l5 6 40 (c.ps.map pdF)) rfl (jJ.mono _ _ _ _ _ _ _) ?_ ?_
 ·refine Gi.Obl.plain rfl ?_;intro ac wg K lo hi hsz hW hpr hf hap hK;clear hsz hpr hap;have e16:=hf 16 ah;simp[Gi.ai,Fo] at e16;clear hf;go_simp;refine (mg d.a5 d.l5 d.c5 c.ps _ (HR.p.below (HB.trans (Below.mono hW HB.size))) (by have:=HS.p;omega) HS.ps).mono ?_;exact pU
 refine' Gi.Grow.stepC _ rfl ?_ ?_;rotate_left 1
 ·exact jb
 refine' Gi.Grow.stepC _ rfl ?_ ?_;rotate_left 1
 ·refine Gi.Obl.plain rfl ?_;intro ac wg K lo hi hsz hW hpr hf hap hK;clear hsz hap hpr;have e18:=hf 18 ah;simp[Gi.ai,Fo] at e18;exact iW
 refine Gi.Grow.step (ClF W.heap.size c) rfl (ClF.mono _ _ _ _) ?_ ?_
 ·refine Gi.Obl.plain rfl ?_;intro ac wg K lo hi hsz hW hpr hf hap hK;clear hsz hpr;have e5:=hf 5 ah;simp[Gi.ai,Fo] at e5;have e8:=hf 8 ah;simp[Gi.ai,Fo] at e8;have e11:=hf 11 ah;simp[Gi.ai,Fo] at e11;have e14:=hf 14 ah;simp[Gi.ai,Fo] at e14;have e17:=hf 17 ah;simp[Gi.ai,Fo] at e17;have e19:=hf 19 ah;simp[Gi.ai,Fo] at e19;clear hf;obtain⟨a1,c1,e5,ho1,hB1⟩:=e5;obtain⟨a2,c2,e8,ho2,hB2⟩:=e8;obtain⟨a3,c3,e11,ho3,hB3⟩:=e11;obtain⟨a4,c4,e14,ho4,hB4⟩:=e14;obtain⟨a5,c5,e17,ho5,hB5⟩:=e17;have hap2:∀t∈[5,8,11,14,17],∀t'∈[5,8,11,14,17],¬t=t'->hi t<=lo t'\/hi t'<=lo t:=by
   intro t ht t' ht' hne;refine hap t ?_ t' ?_ ?_ ?_ hne
   ·simp only[List.mem_cons,Gl,or_false] at ht;rcases ht with rfl|rfl|rfl|rfl|rfl <;> decide
   ·simp only[List.mem_cons,Gl,or_false] at ht';rcases ht' with rfl|rfl|rfl|rfl|rfl <;> decide
   ·simp only[List.mem_cons,Gl,or_false] at ht;rcases ht with rfl|rfl|rfl|rfl|rfl <;> rfl
   ·simp only[List.mem_cons,Gl,or_false] at ht';rcases ht' with rfl|rfl|rfl|rfl|rfl <;> rfl
  clear hap;have q01:=hap2 5 ah 8 ah ah;have q02:=hap2 5 ah 11 ah ah;have q03:=hap2 5 ah 14 ah ah;have q04:=hap2 5 ah 17 ah ah;have q12:=hap2 8 ah 11 ah ah;have q13:=hap2 8 ah 14 ah ah;have q14:=hap2 8 ah 17 ah ah;have q23:=hap2 11 ah 14 ah ah;have q24:=hap2 11 ah 17 ah ah;have q34:=hap2 14 ah 17 ah ah;clear hap2;have hC:dz wg ⟨a1,d.l1,c1,a2,d.l2,c2,a3,d.l3,c3,a4,d.l4,c4,a5,d.l5,c5⟩ c.raw (λk=>W.heap.size<=k):=by
   refine⟨λk=>if lo 5<=k/\k<hi 5 then 1 else if lo 8<=k/\k<hi 8 then 2 else if lo 11<=k/\k<hi 11 then 3 else if lo 14<=k/\k<hi 14 then 4 else 5,?_,?_,?_,?_,?_⟩
   ·exact ho1.bI (λk _ s=>⟨by have s1:lo 5<=k:=s.1;show W.heap.size<=k;omega,by have s1:lo 5<=k:=s.1;have s2:k<hi 5:=s.2;show (if lo 5<=k/\k<hi 5 then 1 else if lo 8<=k/\k<hi 8 then 2 else if lo 11<=k/\k<hi 11 then 3 else if lo 14<=k/\k<hi 14 then 4 else 5)=1;rw[if_pos ⟨s1,s2⟩]⟩)
   ·exact ho2.bI (λk _ s=>⟨by have s1:lo 8<=k:=s.1;show W.heap.size<=k;omega,by have s1:lo 8<=k:=s.1;have s2:k<hi 8:=s.2;show (if lo 5<=k/\k<hi 5 then 1 else if lo 8<=k/\k<hi 8 then 2 else if lo 11<=k/\k<hi 11 then 3 else if lo 14<=k/\k<hi 14 then 4 else 5)=2;rw[if_neg af];rw[if_pos ⟨s1,s2⟩]⟩)
   ·exact ho3.bI (λk _ s=>⟨by have s1:lo 11<=k:=s.1;show W.heap.size<=k;omega,by have s1:lo 11<=k:=s.1;have s2:k<hi 11:=s.2;show (if lo 5<=k/\k<hi 5 then 1 else if lo 8<=k/\k<hi 8 then 2 else if lo 11<=k/\k<hi 11 then 3 else if lo 14<=k/\k<hi 14 then 4 else 5)=3;rw[if_neg af];rw[if_neg af];rw[if_pos ⟨s1,s2⟩]⟩)
   ·exact ho4.bI (λk _ s=>⟨by have s1:lo 14<=k:=s.1;show W.heap.size<=k;omega,by have s1:lo 14<=k:=s.1;have s2:k<hi 14:=s.2;show (if lo 5<=k/\k<hi 5 then 1 else if lo 8<=k/\k<hi 8 then 2 else if lo 11<=k/\k<hi 11 then 3 else if lo 14<=k/\k<hi 14 then 4 else 5)=4;rw[if_neg af];rw[if_neg af];rw[if_neg af];rw[if_pos ⟨s1,s2⟩]⟩)
   ·exact ho5.bI (λk _ s=>⟨by have s1:lo 17<=k:=s.1;show W.heap.size<=k;omega,by have s1:lo 17<=k:=s.1;have s2:k<hi 17:=s.2;show (if lo 5<=k/\k<hi 5 then 1 else if lo 8<=k/\k<hi 8 then 2 else if lo 11<=k/\k<hi 11 then 3 else if lo 14<=k/\k<hi 14 then 4 else 5)=5;rw[if_neg af];rw[if_neg af];rw[if_neg af];rw[if_neg af]⟩)
  have HC:=ae hC;clear hC ho1 ho2 ho3 ho4 ho5 q01 q02 q03 q04 q12 q13 q14 q23 q24 q34 hB1 hB2 hB3 hB4 hB5;go_simp;exact hK _ _ (Ft _ _) ⟨_,rfl,HC.out⟩
 refine Gi.Grow.done ?_;intro q wz lo hi hW hf hap;clear hap;simp only[FH] at hf;obtain⟨hf20,-⟩:=hf;obtain⟨d',h20,ho⟩:=hf20 bT;have HO:=ae ho;have HBz:=ae (HB.trans (Below.mono hW HB.size));have gr:=(Below.block hW _ (aa Br.out)).trans Br.out;obtain⟨r0,r1,r2,r3,r4,r5⟩:=cs6 gr;have f0:=al gr 0;have f1:=al gr 1;have f2:=al gr 2;have f3:=al gr 3;have f4:=al gr 4;have f5:=al gr 5;clear gr ho hW;intro K hK;rw[if_pos cQ];simp only[Gi.aN,F7,Act.put,FF,FL,FM,h20];simp only[List.getLast];go_simp;refine hK _ _ ?_;refine hK0 _ _ ?_;clear hK hK0 K K0;go_wp2_with fail;refine bodyPost_ret (v:=Hc #[J d'.a1 d'.l1 d'.c1,J d'.a2 d'.l2 d'.c2,J d'.a3 d'.l3 d'.c3,J d'.a4 d'.l4 d'.c4,J d'.a5 d'.l5 d'.c5,GZ G6 c.now]) (by simp[results,Tryz.results42,go_sem, *]) rfl ⟨d',rfl,?_,sb1 (sb1 (sb1 (sb1 (sb1 (sb1 (HBz.out))))))⟩;obtain⟨P,hP⟩:=HO.out;exact⟨P,hP.aB (λk _ s=>by have s1:W.heap.size<=k:=s;rw[Fl _ _ _ _ (show k≠w.heap.size+1 by omega),Fl _ _ _ _ (show k≠w.heap.size+1 by omega),Fl _ _ _ _ (show k≠w.heap.size+1 by omega),Fl _ _ _ _ (show k≠w.heap.size+1 by omega),Fl _ _ _ _ (show k≠w.heap.size+1 by omega),Fl _ _ _ _ (show k≠w.heap.size+1 by omega)]) (λk _ s=>by have s1:W.heap.size<=k:=s;show w.heap.size<=k;omega)⟩
def E_(Is:Co->Prop) (w:World) (e:Ending) (w':World):Prop:=∃g o,e=Ha (Hc #[J g.a1 g.l1 g.c1,J g.a2 g.l2 g.c2,J g.a3 g.l3 g.c3,J g.a4 g.l4 g.c4,J g.a5 g.l5 g.c5,GZ G6 o.c.now,I o.n,GZ G6 o.p])/\Is o/\dz w' g o.c.raw (λk=>w.heap.size<=k)/\Below w.heap.size w w'
theorem AW(nm:α->ByteArray) (t:ByteArray) (xs:List α):(wo nm t xs).length<=xs.length:=List.length_filter_le _ _
structure Sel {α β:Type} (xs ys:List α) (vss ws:List β) (k:Nat) (f:Nat->Nat):Prop where
 len:ws.length=ys.length
 y:∀j,j<ys.length->ys[j]?=xs[f j]?
 v:∀j,j<ys.length->ws[j]?=vss[f j]?
 lt:∀j,j<ys.length->f j<k
 inj:∀i j,i<ys.length->j<ys.length->f i=f j->i=j
theorem Sel.nil(xs:List α) (vss:List β) (k:Nat) (f:Nat->Nat):Sel xs [] vss [] k f:=⟨rfl,λj h=>by simp at h,λj h=>by simp at h,λj h=>by simp at h,λi j h=>by simp at h⟩
theorem Sel.up {vss ws:List β} (h:Sel xs ys vss ws k f):Sel xs ys vss ws (k+1) f:=⟨h.len,h.y,h.v,λj hj=>Nat.lt_succ_of_lt (h.lt j hj),h.inj⟩
theorem Sel.push {vss ws:List β} (h:Sel xs ys vss ws k f) {x:α} {u:β} (hx:xs[k]?=F_ x) (hu:vss[k]?=F_ u):Sel xs (ys++[x]) vss (ws++[u]) (k+1) (λj=>if j=ys.length then k else f j):=by
 have hl:=h.len;refine⟨by simp[hl],λj hj=>?_,λj hj=>?_,λj hj=>?_,λi j hi hj e=>?_⟩
 ·by_cases e:j=ys.length
  ·subst e;simp[hx]
  ·have hj':j<ys.length:=by simp at hj;omega
   rw[FI hj',if_neg e];exact h.y j hj'
 ·by_cases e:j=ys.length
  ·subst e;rw[if_pos rfl,hu,List.getElem?_append_right af,hl,Nat.sub_self];rfl
  ·have hj':j<ys.length:=by simp at hj;omega
   rw[FI af,if_neg e];exact h.v j hj'
 ·by_cases e:j=ys.length
  ·simp only[if_pos e];omega
  ·have hj':j<ys.length:=by simp at hj;omega
   simp only[if_neg e];have:=h.lt j hj';omega
 ·by_cases e1:i=ys.length <;> by_cases e2:j=ys.length
  ·omega
  ·have hj':j<ys.length:=by simp at hj;omega
   simp only[if_pos e1,if_neg e2] at e;have:=h.lt j hj';omega
  ·have hi':i<ys.length:=by simp at hi;omega
   simp only[if_pos e2,if_neg e1] at e;have:=h.lt i hi';omega
  ·simp only[if_neg e1,if_neg e2] at e;exact h.inj i j (by simp at hi;omega) (by simp at hj;omega) e
theorem Sel.gq {m:Nat} {F:α->List Fv} {ws:List (List Value)} (h:Sel xs ys vss ws k f) (hv:aX w S m (xs.map F) vss H):aX w S m (ys.map F) ws (λj=>H (f j)):=
 hv.Fe f (by rw[h.len,FB]) (λj hj=>by rw[FB] at hj;rw[FG,FG,h.y j hj]) (λj hj=>by rw[FB] at hj;exact h.v j hj) (λi j hi hj e=>h.inj i j (by simpa using hi) (by simpa using hj) e)
theorem tO {vs:List Value} {a0 a1 a2 a3 a4 a5:Value} (hl:vs.length=6) (h0:vs[0]?=F_ a0) (h1:vs[1]?=F_ a1) (h2:vs[2]?=F_ a2) (h3:vs[3]?=F_ a3) (h4:vs[4]?=F_ a4) (h5:vs[5]?=F_ a5):vs=[a0,a1,a2,a3,a4,a5]:=by
 apply List.ext_getElem?;intro i;rcases i with _|_|_|_|_|_|i
 ·exact h0
 ·exact h1
 ·exact h2
 ·exact h3
 ·exact h4
 ·exact h5
 ·rw[Gh af,Gh aH]
theorem fZ {m g:Nat} {rs:List (List Fv)} (hV:aX w S m rs vss H) (hc:∀(k:Nat) u,vss.flatten[k]?=F_ u->w.cell? ⟨g,k,U⟩=F_ u) {k:Nat} {vs:List Value} (hk:vss[k]?=F_ vs) {i:Nat} {u:Value} (hi:i<m) (hu:w.cell? ⟨g,k*m+i,U⟩=F_ u):vs[i]?=F_ u:=by
 have hl:=hV.all k vs hk;have h1:vs[i]?=F_ (vs[i]'(by omega)):=Fu _;have h2:=hc _ _ (fu hV.all hk h1);rw[hu] at h2;rw[h1];exact h2.symm
theorem tl(a:Option Addr) (len cap:Nat) (xs:List Pd) (t:ByteArray) (Q:Nat->Prop) (w:World) (ho:aA w a len cap 6 40 (xs.map pdF) Q) (hl:len<=8):
  Calls Tryz.prog 43 #[J a len cap,I t] w λe w'=> ∃a' l' c',e=Ha (J a' l' c')/\aA w' a' l' c' 6 40 ((wo Pd.n t xs).map pdF) (λk=>Q k\/w.heap.size<=k)/\Below w.heap.size w w':=by
 have HR:=ae ho.row;have hxl:xs.length=len:=k_
 obtain⟨vss,H,hV,hcell⟩:=ho.gq;have HV:=ae hV;have HC:=ae hcell;have hvl:vss.length=xs.length:=by rw[hV.len,FB]
 clear ho hV hcell;obtain⟨i0,hi,hz0,hz1,hz2⟩:=info_parts fQ;have HI0:=ae (Fk hi (Fk hz0 (Fk hz1 hz2)));clear hi hz0 hz1 hz2;have hmcalled:∀(v:Value) (w:World),(method 340 40 v "loop.example/g00571/impl.called").run Tryz.prog w=.ok (190,v) w:=λ_ _=>by kernel_rfl
 go_enter Tryz.func43,Tryz.ntmps43;go_wp2;go_loopw [5,10] (λvo vi wr=> ∃(k:Nat) (ws:List (List Value)) (f:Nat->Nat),k<=len/\vi=GZ G6 k/\Hid (wr.ownsRow w.heap.size 40 6 vo (wo Pd.n t (xs.take k)).length ws.flatten)/\Hid (Sel xs (wo Pd.n t (xs.take k)) vss ws k f)/\Hid (Below w.heap.size w wr)) (λ_ vi _=>len - (intOf vi).toNat);case atStart=>exact⟨0,[],λ_=>0,by omega,rfl,Gj _ _ _ _,Sel.nil _ _ _ _,Ft _ _⟩
 case round=>
  obtain⟨k,ws,f,hk,rfl,HO,HF,HB⟩:=hrel;have hBs:=HB.size;by_cases hlt:k<len
  ·obtain⟨b,o,x,rfl,hb,hx,hat⟩:=bN HR.out hlt;obtain⟨va,vl,vc,hvr,z0,z2,z4,c0,c1,c2,c3,c4,c5⟩:=aR hat;have hvk:vss[k]?=F_ [I x.n,GZ G6 x.c,I x.z,J va vl vc,I x.d,GZ G6 x.p]:=by
    have hkv:k<vss.length:=af
    have h1:=Fu hkv;have hoz:o=0:=by
     have h2:0<(vss[k]).length:=by rw[HV.all k _ h1];decide
     obtain⟨g,e,_,_⟩:=HC.out _ _ (fu HV.all h1 (Fu h2));cases e;rfl
    subst hoz;have hc2:∀(j:Nat) u,vss.flatten[j]?=F_ u->w.cell? ⟨b,j,U⟩=F_ u:=λj u hj=>by
     obtain⟨g,e,_,h3⟩:=HC.out j u hj;cases e;exact h3
    rw[h1];refine congrArg F_ (tO (HV.all k _ h1) (fZ HV.out hc2 h1 ah (by simpa using c0)) (fZ HV.out hc2 h1 ah (by simpa using c1)) (fZ HV.out hc2 h1 ah (by simpa using c2)) (fZ HV.out hc2 h1 ah (by simpa using c3)) (fZ HV.out hc2 h1 ah (by simpa using c4)) (fZ HV.out hc2 h1 ah (by simpa using c5)))
   have HX:=ae hx;have HVK:=ae hvk;replace c0:=(aj HB.out hb).trans c0;replace c1:=(aj HB.out hb).trans c1;replace c2:=(aj HB.out hb).trans c2;replace c3:=(aj HB.out hb).trans c3;replace c4:=(aj HB.out hb).trans c4;replace c5:=(aj HB.out hb).trans c5;clear hat hx hvk hvr z0 z2 z4;have hn8:=AW Pd.n t (xs.take k);have hn9:(wo Pd.n t (xs.take k)).length<=k:=by rw[FW] at hn8;omega
   go_wp2_with fail;refine (dZ x va vl vc _).mono ?_;rintro e w1 ⟨rfl,hb1⟩;obtain⟨hn1,hbx⟩:=aT hb1;obtain⟨n0,n1,n2,n3,n4,n5⟩:=cs6 hn1;have hs1:=aa hn1;have HO1:=ae (cw HO.out hbx);have HB1:=ae (HB.trans (hbx.mono hBs));clear hb1 hbx hn1 c0 c1 c2 c3 c4 c5;cases hq:(x.n.toList==t.toList)
   ·have hq2:(x.n.toList !=t.toList)=Hb:=by simp[bne,hq]
    go_wp2_with (first|(at_builtin;refine wpList_append_own _ rfl _ _ 82 rfl w.heap.size 40 i0 (Hc #[I ⟨#[]⟩,GZ G6 0,I ⟨#[]⟩,J U 0 0,I ⟨#[]⟩,GZ G6 0]) 6 88 Tryz.underlying82 HI0.1 HI0.2.1 HI0.2.2.1 HI0.2.2.2 rfl ah _ _ _ rfl (HO1.alloc _) ⟨w1.heap.size,0,U⟩ 1 1 [I x.n,GZ G6 x.c,I x.z,J va vl vc,I x.d,GZ G6 x.p] rfl rfl ?c1 ?c2 ?c3 ?c4 ?c5 ?_));case c1=>exact eA _ _ _
    case c2=>intro u hu;simp only[List.mem_cons,Gl,or_false] at hu;rcases hu with rfl|rfl|rfl|rfl|rfl|rfl <;> rfl
    case c3=>unfold maxLen;omega
    case c4=>omega
    case c5=>simp;omega
    rintro v' w3 hown3 hgrow -;have HO3:Hid (w3.ownsRow w.heap.size 40 6 v' (wo Pd.n t (xs.take (k+1))).length (ws++([[I x.n,GZ G6 x.c,I x.z,J va vl vc,I x.d,GZ G6 x.p]]:List (List Value))).flatten):=by
     show World.ownsRow _ _ _ _ _ _ _;rw[oE HX.out hq,List.length_append,List.flatten_append];simpa using hown3
    have hF:=HF.push HX.out HVK.out;rw[<-oE HX.out hq] at hF;have HF3:=ae hF;have HB3:=ae ((HB1.trans ((aq _ _).mono HB1.size)).grown hgrow bD (λg hg=>(HO1.lt g hg).1));clear hown3 hgrow hF;go_wp2;exact⟨⟨k+1,_,_,by omega,by go_num,HO3,HF3,HB3⟩,by simp[intOf];omega⟩
   ·have hq2:(x.n.toList !=t.toList)=G_:=by simp[bne,hq]
    have HF3:=ae HF.up;rw[<-AV HX.out hq] at HF3 HO1;go_wp2;exact⟨⟨k+1,ws,f,by omega,by go_num,HO1,HF3,HB1⟩,by simp[intOf];omega⟩
  ·obtain rfl:len=k:=af
   have h5:=HF.out;have HO5:=HO;rw[FT af] at h5 HO5;have h6:=(h5.gq (HV.below HB.out)).aB (w':=wr) (S':=λk=>Q k\/w.heap.size<=k) (λ_ _ _ _=>rfl) (λ_ _ s=>He s);obtain⟨a',c',e,hR⟩:=h6.own HO5.out aH ah (λg hg=>Hd (HO5.lt g hg).1);subst e;have HR5:=ae hR;clear h5 h6 hR HF HO HO5;go_wp2;go_ret;exact⟨a',_,c',rfl,by simpa using HR5.out,HB.out⟩
theorem fU.E1 {w2 w3 w4:World} {B:Nat} (h:fU w2 d c (λk=>B<=k) P) (hB:B<=w2.heap.size) {a:Option Addr} {l cp:Nat} {rs:List (List Fv)} (hN:aA w3 a l cp 6 40 rs (λk=>((B<=k/\P k=5)/\k<w2.heap.size)\/w2.heap.size+1<=k)) (hb:Below w2.heap.size w2 w3) (hk:∀k,B<=k->¬k=w2.heap.size->w4.heap[k]?=w3.heap[k]?):dz w4 ⟨d.a1,d.l1,d.c1,d.a2,d.l2,d.c2,d.a3,d.l3,d.c3,d.a4,d.l4,d.c4,a,l,cp⟩ ⟨c.n,c.k,c.v,c.x,rs⟩ (λk=>B<=k):=by
 refine⟨λk=>if w2.heap.size+1<=k then 5 else P k,?_,?_,?_,?_,?_⟩
 ·exact h.n.aB (λk hl s=>(hk k s.1 af).trans (hb.block k hl)) (λk hl s=>⟨s.1,by show (if w2.heap.size+1<=k then 5 else P k)=1;rw[if_neg af];exact s.2⟩)
 ·exact h.k.aB (λk hl s=>(hk k s.1 af).trans (hb.block k hl)) (λk hl s=>⟨s.1,by show (if w2.heap.size+1<=k then 5 else P k)=2;rw[if_neg af];exact s.2⟩)
 ·exact h.v.aB (λk hl s=>(hk k s.1 af).trans (hb.block k hl)) (λk hl s=>⟨s.1,by show (if w2.heap.size+1<=k then 5 else P k)=3;rw[if_neg af];exact s.2⟩)
 ·exact h.x.aB (λk hl s=>(hk k s.1 af).trans (hb.block k hl)) (λk hl s=>⟨s.1,by show (if w2.heap.size+1<=k then 5 else P k)=4;rw[if_neg af];exact s.2⟩)
 ·refine hN.aB (λk _ s=>hk k (by rcases s with s|s;exact s.1.1;omega) fb) (λk _ s=>?_);rcases s with s|s
  ·exact⟨s.1.1,by show (if w2.heap.size+1<=k then 5 else P k)=5;rw[if_neg af];exact s.1.2⟩
  ·exact⟨by show B<=k;omega,if_pos s⟩
end Rc
end Go.Proofs.YtiplhgedmjoliaaGreatDoor
