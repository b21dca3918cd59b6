import Derived.Test.YtiplhgedmjoliaaGreatDoorV3
import Derived.Test.YtiplhgedmjoliaaGreatDoorRows
import Derived.WalkKit
import Derived.WalkSpells
import Derived.OwnWalk
import Derived.Outline
import Derived.Laws.Cover1
import Derived.Lib.BufferWrite
import Derived.Laws.CopyOwn
import Derived.Deep.QuietTactic
import Derived.BigQuiet
import Derived.WalkSmall
import Derived.Laws.AppendOwn
import Derived.Laws.AppendOwnNone
import Derived.Deep.AppendLies
import Derived.Deep.RegionWith
import Derived.LaidEql
import Derived.Stop.Asserts
import Derived.RowKitTokens
set_option maxRecDepth 100000
set_option maxHeartbeats 12800000
open Bool renaming false→Y8,true→Y_
open Go.Ending renaming returned→Y9
open Go.IntKind renaming i64→Y5
open Go.Obj renaming cells→Y6
open Go.Value renaming string→I,slice→J,int→Y4,bool→Y7,agg→Za,pointer→Zd,tuple→Ze
open Option renaming none→U,some→Y3
open Or renaming inr→Zb,inl→Zc
open And renaming intro→Yb
open Array renaming getElem?_push_size→Yg, getD_eq_getD_getElem?→Yp, getElem?_eq_some_iff→Yw
open Bool renaming and_eq_true→YE
open Go.Addr renaming add_lit→Yo
open Go.Calls renaming quiet_of_same→YC
open Go.Lib renaming toList_data→Y2
open Go.Op renaming bytesLess→Yk
open Go.Region renaming ready→YR
open Go.RowKit.Below renaming heap_setCell→Ya, refl→Yh, heap_alloc→Ym
open Go.Value renaming string→Yn, ownBlock→YJ
open Go.World renaming setCell→YO
open List renaming getElem?_eq_some_iff→Yc, lookup→Yf, getElem?_eq_getElem→Yi, length_map→Yr, setIfInBounds_toArray→Ys, getElem?_map→Yt, mem_of_getElem?→Yu, getElem?_append_left→Yv, drop_eq_nil_of_le→Yx, set_cons_zero→YA, set_cons_succ→YB, getElem?_take→YD, getElem?_of_mem→YF, length_take→YG, take_of_length_le→YH, length_set→YK, take_add_one→YL, foldr→YQ
open Nat renaming le_refl→Ye, lt_of_lt_of_le→Yj, le_trans→Yl, zero_add→Yq, le_succ→Yy, zero_le→YI
open Option renaming map_eq_some_iff→Yz
open Option.some renaming inj→Yd
namespace Go.Proofs.YtiplhgedmjoliaaGreatDoor
variable {p:Prop}
namespace Mk
end Mk
open Go.RowKit Mk Go.Extern.Stop Go.Stop Go.Extern
variable {α β:Type} {E:Nat->Addr} {H:Nat->Nat->Nat} {P f:Nat->Nat} {S:Nat->Prop} {c:Cr} {d:Ad} {k:Nat} {vss:List (List Value)} {w w':World} {xs ys:List α}
theorem fD(h:p:=by rcases s with s|s <;> omega):p:=h
theorem M4(h:p:=by simp[results,Tryz.results154,go_sem, *]):p:=h
theorem ahf(h:p:=by
 have z994z:=@aa _ @Q_;exact jb):p:=h
theorem tY(h:p:=by
 go_wp2_with fail;refine⟨⟨k+1,x.n,by omega,rfl,by go_num,λh=>absurd h af,λz _ hz=>?_,λj z hj hz=>?_,λj z u hj hz hu=>?_,HB4.out⟩,by simp[intOf];omega⟩
 ·rw[Nat.add_sub_cancel,HX.out] at hz;rw[Yd hz]
 ·by_cases e:j=k
  ·subst e;rw[HX.out] at hz;obtain rfl:=Yd hz;exact HOK.out
  ·exact HE.out j z af hz
 ·by_cases e:j+1=k
  ·subst e;rw[HX.out] at hz;obtain rfl:=Yd hz;have:=H1.out u af (by rw[Nat.add_sub_cancel];exact hu);rw[this];exact hless
  ·exact HO.out j z u af hz hu):p:=h
theorem tU(h:p:=by
 rw[hless] at htri;go_wp2;go_ret;refine ar.f (λh=>?_) HB3.out;by_cases hk0:0<k
 ·have hz:xs[k - 1]?=Y3 (xs[k - 1]'(by omega)):=Yi _;have h2:=H1.out _ hk0 hz;have h3:=h.2.2 (k - 1) x _ (by rw[Nat.sub_add_cancel hk0];exact HX.out) hz;rw[h2,hless] at h3;cases h3
 ·have:=H0.out af;subst this;have hnm:=HOK.1.1;rw[ur hnm] at hless;cases hless):p:=h
theorem tS(h:p:=by
 obtain rfl:k=len:=af
 go_wp2;go_ret;refine ar.t ⟨by omega,λj z hz=>HE.out j z dD hz,λj z u hz hu=>HO.out j z u dD hz hu⟩ HB.out):p:=h
theorem NI(h:p:=by
 rw[hs] at c4;clear hs;have z373z:=@aa _ @abD;exact zg):p:=h
theorem tR(h:p:=by
 go_wp2_with fail;refine⟨⟨k+1,by omega,by go_num,λj y hj hy=>?_,HB2.out⟩,by simp[intOf];omega⟩;by_cases e:j=k
 ·subst e;rw[HX.out] at hy;obtain rfl:=Yd hy;exact hless
 ·exact HE.out j y af hy):p:=h
theorem alh(h:p:=by
 have F3:Hid (∀w,Calls Tryz.prog 186 #[I k] w λe w'=>e=Y9 (Y7 Y8)/\w'=w):=λw=>(br k w hk).mono λ_ _ h=>h.no p3;have HP:=aa p3;clear p3;go_enter Tryz.func204,Tryz.ntmps204;go_wp2_with fail;go_quiet ((first|(go_at_call_of 186 (Yn n);exact YC (F0.out _))|(go_at_call_of 72 (Value.int Y5 c);exact YC (F1.out _))|(go_at_call_of 186 (Yn z);exact YC (F2.out _))|(go_at_call_of 186 (Yn k);exact YC (F3.out _))));go_wp2_with fail;go_ret;exact⟨Y8,rfl,⟨λh=>bY,λh=>(HP.out (h.2.2.2.1)).elim⟩,below_drewN (ak _ _) _⟩):p:=h
theorem alf(h:p:=by
 have F2:Hid (∀w,Calls Tryz.prog 186 #[I z] w λe w'=>e=Y9 (Y7 Y8)/\w'=w):=λw=>(br z w hz).mono λ_ _ h=>h.no p2;have HP:=aa p2;clear p2;go_enter Tryz.func204,Tryz.ntmps204;go_wp2_with fail;go_quiet ((first|(go_at_call_of 186 (Yn n);exact YC (F0.out _))|(go_at_call_of 72 (Value.int Y5 c);exact YC (F1.out _))|(go_at_call_of 186 (Yn z);exact YC (F2.out _))));go_wp2_with fail;go_ret;exact⟨Y8,rfl,⟨λh=>bY,λh=>(HP.out (h.2.2.1)).elim⟩,below_drewN (ak _ _) _⟩):p:=h
theorem ale(h:p:=by
 have F1:Hid (∀w,Calls Tryz.prog 72 #[Y4 Y5 c,Y4 Y5 1,Y4 Y5 1048576] w λe w'=>e=Y9 (Y7 Y8)/\w'=w):=λw=>(cH c 1 1048576 w).mono λ_ _ h=>h.no p1;have HP:=aa p1;clear p1;go_enter Tryz.func204,Tryz.ntmps204;go_wp2_with fail;go_quiet ((first|(go_at_call_of 186 (Yn n);exact YC (F0.out _))|(go_at_call_of 72 (Value.int Y5 c);exact YC (F1.out _))));go_wp2_with fail;go_ret;exact⟨Y8,rfl,⟨λh=>bY,λh=>(HP.out (h.2.1)).elim⟩,below_drewN (ak _ _) _⟩):p:=h
theorem tP(h:p:=by
 rintro e w1 ⟨r,rfl,hr1,hb⟩;have HB:=aa (ix hb).2.1;have HI:=aa hr1;clear hb hr1;go_wp2;go_ret;exact⟨r,rfl,HI.out,HB.out⟩):p:=h
theorem Nt(h:p:=by
 rw[<-e1] at hV;have HV3:=aa hV;have HB3:=aa ((HB.trans (hb23.mono hBs)).grown hgrow bJ (λg hg=>(HO2.lt g hg).1));clear hown3 hgrow hb23 hV e1;go_wp2;exact⟨⟨k+1,_,_,by omega,by go_num,HO3,HV3,HB3⟩,by simp[intOf];omega⟩):p:=h
theorem ak_(h:p:=by
 have F0:Hid (∀w,Calls Tryz.prog 186 #[I n] w λe w'=>e=Y9 (Y7 Y8)/\w'=w):=λw=>(br n w hn).mono λ_ _ h=>h.no p0;have HP:=aa p0;clear p0;go_enter Tryz.func204,Tryz.ntmps204;go_wp2_with fail;go_quiet ((first|(go_at_call_of 186 (Yn n);exact YC (F0.out _))));go_wp2_with fail;go_ret;exact⟨Y8,rfl,⟨λh=>bY,λh=>(HP.out (h.1)).elim⟩,below_drewN (ak _ _) _⟩):p:=h
theorem jL(h:p:=by
 rintro e w' ⟨rfl,rfl⟩;go_wp2;go_ret;exact⟨rfl,rfl⟩):p:=h
theorem ak8(h:p:=by
 go_wp2;go_ret;exact ar.f (λh=>by have:=HI.2 (h.2.1 k x HX.out);cases this) HB2.out):p:=h
theorem ak4(h:p:=by
 have HH:=aa hh;clear hh;have z314z:=@aa _ @acj;exact pJ):p:=h
theorem nh(h:p:=by
 go_wp2;go_ret;exact ar.f (λh=>by have:=h.1;omega) (Yh _ _)):p:=h
theorem PH(h:p:=by
 have z162z:=@aa _ @aec;exact cS):p:=h
theorem PF(h:p:=by
 have z1117z:=@aa _ @Lx;exact sV):p:=h
theorem PC(h:p:=by
 exact ah (Yy _) (ah (Yy _) (ah (Yy _) (ah (Yy _) (ah (Yy _) (ah (Yy _) (ah (Yy _) (ah (Yy _) (HB.out))))))))):p:=h
theorem vN(h:p:=by
 rintro e w6 ⟨a',c',rfl,ho,hb6⟩;exact hK _ _ hb6 ⟨a',c',rfl,ho.bl (λk hk s=>⟨s,hk⟩),Below.size hW⟩):p:=h
theorem Ps(h:p:=by
 exact ah (Yy _) (ah (Yy _) (ah (Yy _) (ah (Yy _) (ah (Yy _) (ah (Yy _) (ah (Yy _) (HB.out)))))))):p:=h
theorem vM(h:p:=by
 rw[hl5] at HR5;rw[hl5];clear h5 hR HV HO;go_wp2;go_ret;exact⟨a',c',rfl,HR5.out,HB.out⟩):p:=h
theorem vL(h:p:=by
 obtain rfl:=Yd hz;exact⟨HH.out,Zb (HI.1 bX)⟩):p:=h
theorem Pf(h:p:=by
 exact ah (Yy _) (ah (Yy _) (ah (Yy _) (ah (Yy _) (ah (Yy _) (HB.out)))))):p:=h
theorem O_(h:p:=by
 go_wp2_with fail;go_ret;exact⟨Y8,rfl,⟨λh=>bY,λh=>(HP.out (h.2.2.2.2.1)).elim⟩,below_drewN (ak _ _) _⟩):p:=h
theorem O4(h:p:=by
 obtain⟨k0,k1,k2,k3,k4,k5⟩:=cs6 Bk;go_wp2;go_ret;exact ar.f (λh=>by have:=HI4.2 h.2.2.2.1;cases this) HB.out):p:=h
theorem ajH(h:p:=by
 obtain⟨k0,k1,k2,k3,k4,k5⟩:=cs6 Bk;go_wp2;go_ret;exact ar.f (λh=>by have:=HI3.2 h.2.2.1;cases this) HB.out):p:=h
theorem OY(h:p:=by
 exact ah (Yy _) (ah (Yy _) (ah (Yy _) (ah (Yy _) (HB.out))))):p:=h
theorem OX(h:p:=by
 go_enter Tryz.func79,Tryz.ntmps79;go_wp2;refine wp_loop_rounds 1 ?_;rw[rounds_succ];go_wp2;go_ret;exact⟨rfl,rfl⟩):p:=h
theorem vF(h:p:=by
 obtain rfl:=Yd hz;exact⟨HH.out,Zc HEm.out⟩):p:=h
theorem kr(h:p:=by
 have z587z:=@aa _ @Wz;exact fQ):p:=h
theorem ki(h:p:=by
 clear hf;obtain⟨k0,k1,k2,k3,k4,k5⟩:=cs6 ((Below.block hW _ (ae Bk.out)).trans Bk.out);exact aL):p:=h
theorem ajC(h:p:=by
 have HD:=aa hbd;clear hbd;have z689z:=@aa _ @Vi;exact jg):p:=h
theorem Om(h:p:=by
 obtain rfl:pl=k:=af
 go_wp2;go_ret;exact ar.t ⟨_,n,HX1.out,HN1.out,HC.out,λj t ht=>HQ.out j t zM ht⟩ HB.out):p:=h
theorem vv(h:p:=by
 show World.ownsRow _ _ _ _ _ _ _;rw[List.flatten_append];simpa using hown3):p:=h
theorem tM(h:p:=by
 have hbw:=Yj hbl HRW.size;have e0:=(ai hb1 hbw).trans ((ai HRW.out hbl).trans c0);have e1:=(ai hb1 hbw).trans ((ai HRW.out hbl).trans c1);have e2:=(ai hb1 hbw).trans ((ai HRW.out hbl).trans c2);have e3:=(ai hb1 hbw).trans ((ai HRW.out hbl).trans c3);exact Yb hbw (Yb e0 (Yb e1 (Yb e2 e3)))):p:=h
theorem akZ(h:p:=by
 have HE:=aa h;have v0:=h.v0;have v1:=h.v1;have v2:=h.v2;have v3:=h.v3;have v4:=h.v4;have v5:=h.v5;have v6:=h.v6;have v7:=h.v7;have v8:=h.v8;have v9:=h.v9;exact Yb HE (Yb v0 (Yb v1 (Yb v2 (Yb v3 (Yb v4 (Yb v5 (Yb v6 (Yb v7 (Yb v8 v9)))))))))):p:=h
theorem Ni(h:p:=by
 have d0:=ck0 g1;have f0:=al g1 0;have d1:=ck1 g1;have f1:=al g1 1;have d2:=ck2 g1;have f2:=al g1 2;have d3:=ck3 g1;have f3:=al g1 3;exact Yb d0 (Yb f0 (Yb d1 (Yb f1 (Yb d2 (Yb f2 (Yb d3 f3))))))):p:=h
theorem akY(h:p:=by
 have HB3:=aa (HB2.trans (hb2.mono (Yl HB.size (Yl (Yy _) hs1))));have g2:=(hb2.block wr.heap.size af).trans HG.out;have hs2:=hb2.size;have htri:=gR y.toList x.n.toList;exact Yb HB3 (Yb g2 (Yb hs2 htri))):p:=h
theorem oB(h:p:=by
 have HR:=aa hr;have hxl:xs.length=len:=fe
 have hlc:=Yl hr.2.1 hr.2.2.1;exact Yb HR (Yb hxl hlc)):p:=h
theorem oA(h:p:=by
 have HB2:=upB HB1 hb1;have d0:=ck0 g1;have d1:=ck1 g1;have d2:=ck2 g1;have d3:=ck3 g1;exact Yb HB2 (Yb d0 (Yb d1 (Yb d2 d3)))):p:=h
theorem akU(h:p:=by
 have HB3:=aa (HB2.trans (hb2.mono (Yl HB.size (Yl (Yy _) hs1))));have hp:=oG HE.out HX.out hless;exact Yb HB3 hp):p:=h
theorem agq(h:p:=by
 have GK:=aa ((Ym wr (Y6 (nov n va vl vc) 38) _ (ae Bk.out)).trans Bk.out);have GR:Hid ((wr.alloc (Y6 (nov n va vl vc) 38)).heap[wr.heap.size]?=Y3 (Y6 (nov n va vl vc) 38 (0,0))):=Yg;have HW:=aa (HB.trans ((ak wr (Y6 (nov n va vl vc) 38)).mono HB.size));exact Yb GK (Yb GR HW)):p:=h
theorem agp(h:p:=by
 have h8:=@run_callFunc_extern Tryz.prog 133 _ Extern.ReflectliteType.typeOf Tryz.func133 ba ba ba ba;have h32:=@run_callFunc_extern Tryz.prog 218 _ alB Tryz.func218 ba ba ba ba;have tT:=P8;have cT:=qd;have mR:=iK;exact Yb h8 (Yb h32 (Yb tT (Yb cT mR)))):p:=h
theorem M7(h:p:=by
 have e4:=(ai hb1 hbw).trans ((ai HRW.out hbl).trans c4);have e5:=(ai hb1 hbw).trans ((ai HRW.out hbl).trans c5);exact Yb e4 e5):p:=h
theorem akJ(h:p:=by
 have HG:=aa hg;have HX2:=aa hbx;have HO2:=aa (cA HO.out hbx);have hs2:wr.heap.size<w2.heap.size:=by have:=hb2.size;rw[db] at this;omega
 exact Yb HG (Yb HX2 (Yb HO2 hs2))):p:=h
theorem akI(h:p:=by
 have fr0:=al Bs.out 0;have fr1:=al Bs.out 1;have fr2:=al Bs.out 2;have fr3:=al Bs.out 3;have fr4:=al Bs.out 4;have fr5:=al Bs.out 5;have fr6:=al Bs.out 6;have fr7:=al Bs.out 7;exact Yb fr0 (Yb fr1 (Yb fr2 (Yb fr3 (Yb fr4 (Yb fr5 (Yb fr6 fr7))))))):p:=h
theorem tH(h:p:=by
 have HR:=aa hr;have HRW:=aa hrw;have hxl:xs.length=len:=fe
 exact Yb HR (Yb HRW hxl)):p:=h
theorem zP(h:p:=by
 have d4:=ck4 g1;have f4:=al g1 4;have d5:=ck5 g1;have f5:=al g1 5;have d6:=ck6 g1;have f6:=al g1 6;exact Yb d4 (Yb f4 (Yb d5 (Yb f5 (Yb d6 f6))))):p:=h
theorem vj(h:p:=by
 have hz8:vl<=8001:=by have h1:=hvr.1;have h2:=HS.out k x hx;omega
 have HX:=aa hx;have HT:=aa hvr;have HZz0:=aa z0;exact Yb hz8 (Yb HX (Yb HT HZz0))):p:=h
theorem afl(h:p:=by
 repeat (go_big_quiet_step (first|(go_at_call 128;exact Calls.wide (HC.out _))|fail))
 refine wpQuiet_nil ?_;rintro _ ⟨q,rfl⟩;have HB2:=upB HW q.b;have Bk2:=upK GK q.b;clear HC hne0 k0 k1 k2 k3 k4 k5 r0 r1 r2 r3 r4 r5 c0 c1 c2 c3 c4 c5 c6 hb HB Bk HW GK GR;have HB:=HB2;have Bk:=Bk2;clear HB2 Bk2;by_cases hq:cpuOf n.n c.ps<=n.c
 ·exact PH
 ·have HQ2:=aa hq;go_wp2;go_ret;exact ar.f (λh=>by have h1:cpuOf n.n c.ps<=n.c:=(h.2.1 k n HXn.out);have h2:=HQ2.out;omega) HB.out):p:=h
theorem afk(h:p:=by
 repeat (go_big_quiet_step (first|(go_at_call 130;exact Calls.wide (HC.out _))|fail))
 refine wpQuiet_nil ?_;rintro _ ⟨q,rfl⟩;have HB2:=upB HW q.b;have Bk2:=upK GK q.b;clear HC hne0 k0 k1 k2 k3 k4 k5 r0 r3 c0 c1 c2 c3 c4 c5 c6 hb HB Bk HW GK GR;have HB:=HB2;have Bk:=Bk2;clear HB2 Bk2;by_cases hq:onOf n.n c.vs<=n.s
 ·exact PH
 ·have HQ2:=aa hq;go_wp2;go_ret;exact ar.f (λh=>by have h1:onOf n.n c.vs<=n.s:=(h.2 k n HXn.out);have h2:=HQ2.out;omega) HB.out):p:=h
theorem ael(h:p:=by
 by_cases e:j=k
 ·subst e;rw[HXv.out] at hz;exact vF
 ·exact HQ.out j z af hz):p:=h
theorem aek(h:p:=by
 by_cases e:j=k
 ·subst e;rw[HXv.out] at hz;exact vL
 ·exact HQ.out j z af hz):p:=h
theorem aej(h:p:=by
 by_cases e:j=k
 ·subst e;rw[HXx.out] at hz;exact vF
 ·exact HQ.out j z af hz):p:=h
theorem aei(h:p:=by
 by_cases e:j=k
 ·subst e;rw[HXx.out] at hz;exact vL
 ·exact HQ.out j z af hz):p:=h
theorem aeh(h:p:=by
 by_cases e:j=k
 ·subst e;rw[HXp.out] at hz;exact vF
 ·exact HQ.out j z af hz):p:=h
theorem aeg(h:p:=by
 by_cases e:j=k
 ·subst e;rw[HXp.out] at hz;exact vL
 ·exact HQ.out j z af hz):p:=h
theorem aef(h:p:=by
 by_cases e:j=k
 ·subst e;rw[HXv.out] at hz;obtain rfl:=Yd hz;exact λ_ _=>HI.1 bX
 ·exact HQ.out j z af hz):p:=h
theorem aee(h:p:=by
 by_cases e:j=k
 ·subst e;rw[HXn.out] at hz;obtain rfl:=Yd hz;exact HI.1 bX
 ·exact HQ.out j z af hz):p:=h
theorem aed(h:p:=by
 by_cases e:j=k
 ·subst e;rw[HXp.out] at hz;obtain rfl:=Yd hz;exact λ_=>HI.1 bX
 ·exact HQ.out j z af hz):p:=h
theorem aec(h:p:=by
 by_cases e:j=k
 ·subst e;rw[HXn.out] at hz;obtain rfl:=Yd hz;exact hq
 ·exact HQ.out j z af hz):p:=h
theorem aeb(h:p:=by
 go_wp2_with fail;refine (fq d c.now c.vs s w _ HR.v (HB.trans ((ak _ _).mono HB.size))).mono ?_;rintro e w2 ⟨hb,hf⟩;have z695z:=@aa _ @Ve;exact ib):p:=h
theorem aea(h:p:=by
 go_wp2_with fail;refine (fq d c.now c.vs s w _ HR.v (HB.trans ((ak _ _).mono HB.size))).mono ?_;rintro e w2 ⟨hb,hf⟩;have z695z:=@aa _ @Vc;exact ib):p:=h
theorem ad_(h:p:=by
 go_wp2_with fail;refine (fq d c.now c.vs x.v r _ HR.v (HRW.trans ((HB.trans ((ak _ _).mono HB.size)).mono HRW.size))).mono ?_;rintro e w2 ⟨hb,hf⟩;have z695z:=@aa _ @Vb;exact ib):p:=h
theorem ad9(h:p:=by
 go_wp2_with fail;refine (fq d c.now c.vs ⟨#[]⟩ r _ HR.v (HRW.trans ((HB.trans ((ak _ _).mono HB.size)).mono HRW.size))).mono ?_;rintro e w2 ⟨hb,hf⟩;have z695z:=@aa _ @Va;exact ib):p:=h
theorem ads(h:p:=by
 refine (br z _ hz).mono ?_;have z572z:=@aa _ @WQ;exact fR):p:=h
theorem adr(h:p:=by
 refine (dV z _ hz).mono ?_;exact Od):p:=h
theorem adq(h:p:=by
 refine (cH z 1 1048576 _).mono ?_;have z572z:=@aa _ @WO;exact fR):p:=h
theorem adp(h:p:=by
 refine (cH c 0 1000000 _).mono ?_;have z572z:=@aa _ @WN;exact fR):p:=h
theorem ado(h:p:=by
 by_cases p4:dA m;case neg=>
  have F4:Hid (∀w,Calls Tryz.prog 193 #[I m] w λe w'=>e=Y9 (Y7 Y8)/\w'=w):=λw=>(dV m w hm).mono λ_ _ h=>h.no p4;have HP:=aa p4;clear p4;go_enter Tryz.func204,Tryz.ntmps204;go_wp2_with fail;go_quiet ((first|(go_at_call_of 186 (Yn n);exact YC (F0.out _))|(go_at_call_of 72 (Value.int Y5 c);exact YC (F1.out _))|(go_at_call_of 186 (Yn z);exact YC (F2.out _))|(go_at_call_of 186 (Yn k);exact YC (F3.out _))|(go_at_call_of 193 (Yn m);exact YC (F4.out _))));exact O_
 have F4:Hid (∀w,Calls Tryz.prog 193 #[I m] w λe w'=>e=Y9 (Y7 Y_)/\w'=w):=λw=>(dV m w hm).mono λ_ _ h=>h.yes p4;obtain⟨q,hq⟩:∃q:Int,q=if x=Y_ then 1 else 6:=⟨_,rfl⟩;have HM:Hid (∀w,Calls Tryz.prog 205 #[Za #[I n,Y4 Y5 c,I z,I k,Y7 x,I m,Y7 Y8,J a len cap]] w λe w'=>e=Y9 (Y4 Y5 q)/\Below w.heap.size w w'):=λw=>by rw[hq];exact nr n c z k x m Y8 a len cap w
 have HQ:Hid (q=if x=Y_ then 1 else 6):=hq;clear hq;go_enter Tryz.func204,Tryz.ntmps204;go_wp2_with fail;go_region_with (first|(go_at_call_of 186 (Yn n);refine (F0.out _).mono ?_;rintro e w1 ⟨rfl,rfl⟩)|(go_at_call_of 72 (Value.int Y5 c);refine (F1.out _).mono ?_;rintro e w1 ⟨rfl,rfl⟩)|(go_at_call_of 186 (Yn z);refine (F2.out _).mono ?_;rintro e w1 ⟨rfl,rfl⟩)|(go_at_call_of 186 (Yn k);refine (F3.out _).mono ?_;rintro e w1 ⟨rfl,rfl⟩)|(go_at_call_of 193 (Yn m);refine (F4.out _).mono ?_;rintro e w1 ⟨rfl,rfl⟩)|(go_at_call 205;refine (HM.out _).mono ?_;rintro e w1 ⟨rfl,hb⟩;have hc7:=an (j8 hb).1 7;simp only[List.getElem?_toArray,List.getElem?_cons_succ,List.getElem?_cons_zero] at hc7)|(go_at_call 187;refine (fV a len cap zs _ _ (HR.below (j8 hb).2.1)).mono ?_;rintro e w2 ⟨r,rfl,hr,rfl⟩));all_goals (
  go_wp2_with fail;go_ret
  exact⟨r,rfl,⟨λh=>⟨p0,p1,p2,p3,p4,HY.out,HQ.out ▸ hr.1 h⟩,λh=>hr.2 (HQ.out ▸ h.2.2.2.2.2.2)⟩,(j8 hb).2.1⟩)):p:=h
theorem adn(h:p:=by
 by_cases p4:dA (⟨#[]⟩:ByteArray);case neg=>
  have F4:Hid (∀w,Calls Tryz.prog 193 #[I (⟨#[]⟩:ByteArray)] w λe w'=>e=Y9 (Y7 Y8)/\w'=w):=λw=>(dV (⟨#[]⟩:ByteArray) w hm).mono λ_ _ h=>h.no p4;have HP:=aa p4;clear p4;go_enter Tryz.func204,Tryz.ntmps204;go_wp2_with fail;go_quiet ((first|(go_at_call_of 186 (Yn n);exact YC (F0.out _))|(go_at_call_of 72 (Value.int Y5 c);exact YC (F1.out _))|(go_at_call_of 186 (Yn z);exact YC (F2.out _))|(go_at_call_of 186 (Yn k);exact YC (F3.out _))|(go_at_call_of 193 (Yn (⟨#[]⟩:ByteArray));exact YC (F4.out _))));exact O_
 have F4:Hid (∀w,Calls Tryz.prog 193 #[I (⟨#[]⟩:ByteArray)] w λe w'=>e=Y9 (Y7 Y_)/\w'=w):=λw=>(dV (⟨#[]⟩:ByteArray) w hm).mono λ_ _ h=>h.yes p4;obtain⟨q,hq⟩:∃q:Int,q=if x=Y_ then 1 else 6:=⟨_,rfl⟩;have HM:Hid (∀w,Calls Tryz.prog 205 #[Za #[I n,Y4 Y5 c,I z,I k,Y7 x,I (⟨#[]⟩:ByteArray),Y7 Y_,J a len cap]] w λe w'=>e=Y9 (Y4 Y5 q)/\Below w.heap.size w w'):=λw=>by rw[hq];exact nr n c z k x (⟨#[]⟩:ByteArray) Y_ a len cap w
 have HQ:Hid (q=if x=Y_ then 1 else 6):=hq;clear hq;go_enter Tryz.func204,Tryz.ntmps204;go_wp2_with fail;go_region_with (first|(go_at_call_of 186 (Yn n);refine (F0.out _).mono ?_;rintro e w1 ⟨rfl,rfl⟩)|(go_at_call_of 72 (Value.int Y5 c);refine (F1.out _).mono ?_;rintro e w1 ⟨rfl,rfl⟩)|(go_at_call_of 186 (Yn z);refine (F2.out _).mono ?_;rintro e w1 ⟨rfl,rfl⟩)|(go_at_call_of 186 (Yn k);refine (F3.out _).mono ?_;rintro e w1 ⟨rfl,rfl⟩)|(go_at_call_of 193 (Yn (⟨#[]⟩:ByteArray));refine (F4.out _).mono ?_;rintro e w1 ⟨rfl,rfl⟩)|(go_at_call 205;refine (HM.out _).mono ?_;rintro e w1 ⟨rfl,hb⟩;have hc7:=an (j8 hb).1 7;simp only[List.getElem?_toArray,List.getElem?_cons_succ,List.getElem?_cons_zero] at hc7)|(go_at_call 187;refine (fV a len cap zs _ _ (HR.below (j8 hb).2.1)).mono ?_;rintro e w2 ⟨r,rfl,hr,rfl⟩));all_goals (
  go_wp2_with fail;go_ret
  exact⟨r,rfl,⟨λh=>⟨p0,p1,p2,p3,p4,(λ_=>rfl),HQ.out ▸ hr.1 h⟩,λh=>hr.2 (HQ.out ▸ h.2.2.2.2.2.2)⟩,(j8 hb).2.1⟩)):p:=h
theorem zA(h:p:=by
 by_cases p0:aO n;case neg=>
  exact ak_
 have F0:Hid (∀w,Calls Tryz.prog 186 #[I n] w λe w'=>e=Y9 (Y7 Y_)/\w'=w):=λw=>(br n w hn).mono λ_ _ h=>h.yes p0;by_cases p1:Inn c 1 1048576;case neg=>
  exact ale
 have F1:Hid (∀w,Calls Tryz.prog 72 #[Y4 Y5 c,Y4 Y5 1,Y4 Y5 1048576] w λe w'=>e=Y9 (Y7 Y_)/\w'=w):=λw=>(cH c 1 1048576 w).mono λ_ _ h=>h.yes p1;by_cases p2:aO z;case neg=>
  exact alf
 have F2:Hid (∀w,Calls Tryz.prog 186 #[I z] w λe w'=>e=Y9 (Y7 Y_)/\w'=w):=λw=>(br z w hz).mono λ_ _ h=>h.yes p2;by_cases p3:aO k;case neg=>
  exact alh
 have F3:Hid (∀w,Calls Tryz.prog 186 #[I k] w λe w'=>e=Y9 (Y7 Y_)/\w'=w):=λw=>(br k w hk).mono λ_ _ h=>h.yes p3;exact z233z):p:=h
theorem adm(h:p:=by
 go_wp2_with fail;refine bodyPost_ret (v:=Za #[J d'.a1 d'.l1 d'.c1,J d'.a2 d'.l2 d'.c2,J d'.a3 d'.l3 d'.c3,J d'.a4 d'.l4 d'.c4,J d'.a5 d'.l5 d'.c5,Y4 Y5 c.now]) (by simp[results,Tryz.results42,go_sem, *]) rfl ⟨d',rfl,?_,sb1 (sb1 (sb1 (sb1 (sb1 (sb1 (HBz.out))))))⟩;obtain⟨P,hP⟩:=HO.out;exact⟨P,hP.az (λk _ s=>by have s1:W.heap.size<=k:=s;rw[Ya _ _ _ _ (show k≠w.heap.size+1 by omega),Ya _ _ _ _ (show k≠w.heap.size+1 by omega),Ya _ _ _ _ (show k≠w.heap.size+1 by omega),Ya _ _ _ _ (show k≠w.heap.size+1 by omega),Ya _ _ _ _ (show k≠w.heap.size+1 by omega),Ya _ _ _ _ (show k≠w.heap.size+1 by omega)]) (λk _ s=>by have s1:W.heap.size<=k:=s;show w.heap.size<=k;omega)⟩):p:=h
theorem adi(h:p:=by
 have z689z:=@aa _ @Vh;exact jg):p:=h
theorem adh(h:p:=by
 by_cases hz2:v.z=n.z
 ·have q3:=aP hz2;have HZ2:=aa hz2;clear hz2;have z689z:=@aa _ @Vg;exact jg
 ·have q3:=bA hz2;have HZ2:=aa hz2;clear hz2;have z689z:=@aa _ @Vf;exact jg):p:=h
theorem zz(h:p:=by
 have z1084z:=@aa _ @LU;exact tg):p:=h
theorem ada(h:p:=by
 refine (ff (E 0) _).mono ?_;exact jL):p:=h
theorem ac_(h:p:=by
 refine (aI HE.out 1 0 ag ag ag).mono ?_;rintro e w' ⟨rfl,rfl⟩;go_wp2_with fail;refine (aI HE.out 1 9 ag ag ag).mono ?_;rintro e w' ⟨rfl,rfl⟩;go_wp2_with fail;refine (aI HE.out 1 2 ag ag ag).mono ?_;rintro e w' ⟨rfl,rfl⟩;go_wp2_with fail;refine (aI HE.out 1 3 ag ag ag).mono ?_;rintro e w' ⟨rfl,rfl⟩;go_wp2_with fail;refine (aI HE.out 1 6 ag ag ag).mono ?_;rintro e w' ⟨rfl,rfl⟩;go_wp2_with fail;refine (aI HE.out 1 4 ag ag ag).mono ?_;rintro e w' ⟨rfl,rfl⟩;go_wp2_with fail;refine (aI HE.out 1 5 ag ag ag).mono ?_;rintro e w' ⟨rfl,rfl⟩;go_wp2_with fail;refine (aI HE.out 1 7 ag ag ag).mono ?_;rintro e w' ⟨rfl,rfl⟩;go_wp2_with fail;refine (aI HE.out 1 8 ag ag ag).mono ?_;exact jL):p:=h
theorem ac9(h:p:=by
 refine (aI HE.out 2 0 ag ag ag).mono ?_;rintro e w' ⟨rfl,rfl⟩;go_wp2_with fail;refine (aI HE.out 2 9 ag ag ag).mono ?_;rintro e w' ⟨rfl,rfl⟩;go_wp2_with fail;refine (ff (E 2) _).mono ?_;exact jL):p:=h
theorem ac8(h:p:=by
 refine (aI HE.out 3 0 ag ag ag).mono ?_;rintro e w' ⟨rfl,rfl⟩;go_wp2_with fail;refine (aI HE.out 3 9 ag ag ag).mono ?_;rintro e w' ⟨rfl,rfl⟩;go_wp2_with fail;refine (aI HE.out 3 2 ag ag ag).mono ?_;rintro e w' ⟨rfl,rfl⟩;go_wp2_with fail;refine (ff (E 3) _).mono ?_;exact jL):p:=h
theorem ac7(h:p:=by
 refine (aI HE.out 4 0 ag ag ag).mono ?_;rintro e w' ⟨rfl,rfl⟩;go_wp2_with fail;refine (aI HE.out 4 9 ag ag ag).mono ?_;rintro e w' ⟨rfl,rfl⟩;go_wp2_with fail;refine (aI HE.out 4 2 ag ag ag).mono ?_;rintro e w' ⟨rfl,rfl⟩;go_wp2_with fail;refine (aI HE.out 4 3 ag ag ag).mono ?_;rintro e w' ⟨rfl,rfl⟩;go_wp2_with fail;refine (aI HE.out 4 6 ag ag ag).mono ?_;rintro e w' ⟨rfl,rfl⟩;go_wp2_with fail;refine (ff (E 4) _).mono ?_;exact jL):p:=h
theorem ac6(h:p:=by
 refine (aI HE.out 5 0 ag ag ag).mono ?_;rintro e w' ⟨rfl,rfl⟩;go_wp2_with fail;refine (aI HE.out 5 9 ag ag ag).mono ?_;rintro e w' ⟨rfl,rfl⟩;go_wp2_with fail;refine (aI HE.out 5 2 ag ag ag).mono ?_;rintro e w' ⟨rfl,rfl⟩;go_wp2_with fail;refine (aI HE.out 5 3 ag ag ag).mono ?_;rintro e w' ⟨rfl,rfl⟩;go_wp2_with fail;refine (aI HE.out 5 6 ag ag ag).mono ?_;rintro e w' ⟨rfl,rfl⟩;go_wp2_with fail;refine (aI HE.out 5 4 ag ag ag).mono ?_;rintro e w' ⟨rfl,rfl⟩;go_wp2_with fail;refine (ff (E 5) _).mono ?_;exact jL):p:=h
theorem ac5(h:p:=by
 refine (aI HE.out 6 0 ag ag ag).mono ?_;rintro e w' ⟨rfl,rfl⟩;go_wp2_with fail;refine (aI HE.out 6 9 ag ag ag).mono ?_;rintro e w' ⟨rfl,rfl⟩;go_wp2_with fail;refine (aI HE.out 6 2 ag ag ag).mono ?_;rintro e w' ⟨rfl,rfl⟩;go_wp2_with fail;refine (aI HE.out 6 3 ag ag ag).mono ?_;rintro e w' ⟨rfl,rfl⟩;go_wp2_with fail;refine (ff (E 6) _).mono ?_;exact jL):p:=h
theorem ac4(h:p:=by
 refine (aI HE.out 7 0 ag ag ag).mono ?_;rintro e w' ⟨rfl,rfl⟩;go_wp2_with fail;refine (aI HE.out 7 9 ag ag ag).mono ?_;rintro e w' ⟨rfl,rfl⟩;go_wp2_with fail;refine (aI HE.out 7 2 ag ag ag).mono ?_;rintro e w' ⟨rfl,rfl⟩;go_wp2_with fail;refine (aI HE.out 7 3 ag ag ag).mono ?_;rintro e w' ⟨rfl,rfl⟩;go_wp2_with fail;refine (aI HE.out 7 6 ag ag ag).mono ?_;rintro e w' ⟨rfl,rfl⟩;go_wp2_with fail;refine (aI HE.out 7 4 ag ag ag).mono ?_;rintro e w' ⟨rfl,rfl⟩;go_wp2_with fail;refine (aI HE.out 7 5 ag ag ag).mono ?_;rintro e w' ⟨rfl,rfl⟩;go_wp2_with fail;refine (ff (E 7) _).mono ?_;exact jL):p:=h
theorem ac3(h:p:=by
 refine (aI HE.out 8 0 ag ag ag).mono ?_;rintro e w' ⟨rfl,rfl⟩;go_wp2_with fail;refine (aI HE.out 8 9 ag ag ag).mono ?_;rintro e w' ⟨rfl,rfl⟩;go_wp2_with fail;refine (aI HE.out 8 2 ag ag ag).mono ?_;rintro e w' ⟨rfl,rfl⟩;go_wp2_with fail;refine (aI HE.out 8 3 ag ag ag).mono ?_;rintro e w' ⟨rfl,rfl⟩;go_wp2_with fail;refine (aI HE.out 8 6 ag ag ag).mono ?_;rintro e w' ⟨rfl,rfl⟩;go_wp2_with fail;refine (aI HE.out 8 4 ag ag ag).mono ?_;rintro e w' ⟨rfl,rfl⟩;go_wp2_with fail;refine (aI HE.out 8 5 ag ag ag).mono ?_;rintro e w' ⟨rfl,rfl⟩;go_wp2_with fail;refine (aI HE.out 8 7 ag ag ag).mono ?_;rintro e w' ⟨rfl,rfl⟩;go_wp2_with fail;refine (ff (E 8) _).mono ?_;exact jL):p:=h
theorem ez(h:p:=by
 obtain⟨HE,v0,v1,v2,v3,v4,v5,v6,v7,v8,v9⟩:=akZ;clear h;go_enter Tryz.func40,Tryz.ntmps40;go_wp2_with fail;exact z250z):p:=h
theorem ac2(h:p:=by
 clear HG hb2 HB2 d0 d1 d2 d3 d4 d5 d6;have d0:=ck0 g2;have d1:=ck1 g2;have d2:=ck2 g2;have d3:=ck3 g2;have d4:=ck4 g2;have d5:=ck5 g2;have d6:=ck6 g2;clear g2;cases hless:Yk y.toList x.n.toList
 ·exact tU
 ·have z595z:=@aa _ @Wy;exact jj):p:=h
theorem ac1(h:p:=by
 clear HG hb2 HB2 d0 d1 d2 d3;have d0:=ck0 g2;have d1:=ck1 g2;have d2:=ck2 g2;have d3:=ck3 g2;clear g2;cases hless:Yk y.toList x.n.toList
 ·exact tU
 ·have z595z:=@aa _ @Wx;exact jj):p:=h
theorem ac0(h:p:=by
 clear HG hb2 HB2 d0 d1 d2 d3 d4 d5 d6 d7;have d0:=ck0 g2;have d1:=ck1 g2;have d2:=ck2 g2;have d3:=ck3 g2;have d4:=ck4 g2;have d5:=ck5 g2;have d6:=ck6 g2;have d7:=ck7 g2;clear g2;cases hless:Yk y.toList x.n.toList
 ·exact tU
 ·have z595z:=@aa _ @Ww;exact jj):p:=h
theorem acZ(h:p:=by
 clear HG hb2 HB2 d0 d1 d2 d3 d4;have d0:=ck0 g2;have d1:=ck1 g2;have d2:=ck2 g2;have d3:=ck3 g2;have d4:=ck4 g2;clear g2;cases hless:Yk y.toList x.n.toList
 ·exact tU
 ·have z595z:=@aa _ @Wv;exact jj):p:=h
theorem acY(h:p:=by
 clear HG hb2 HB2 d0 d1 d2 d3 d4 d5;have d0:=ck0 g2;have d1:=ck1 g2;have d2:=ck2 g2;have d3:=ck3 g2;have d4:=ck4 g2;have d5:=ck5 g2;clear g2;cases hless:Yk y.toList x.n.toList
 ·exact tU
 ·have z595z:=@aa _ @Wu;exact jj):p:=h
theorem jm(h:p:=by
 cases r
 ·exact ak8
 have HOK:=aa (HI.1 rfl);clear HI;go_wp2_with fail;refine (HC.out _).mono ?_;rintro e w2 ⟨rfl,hb2⟩;obtain⟨HB3,g2,hs2,htri⟩:=akY;exact z260z):p:=h
theorem acV(h:p:=by
 obtain⟨p0,p1,p2,p3,p4,p5,p6⟩:=cs7 Bp;obtain⟨r0,r1,r2,r3,r4,r5,r6⟩:=cs7 Br;obtain⟨fr0,fr1,fr2,fr3,fr4,fr5⟩:=kJ;have fp6:=al Bp.out 6;have fr6:=al Br.out 6;go_wp2_with fail;refine bodyPost_ret (v:=Za #[I x.n,I x.z,Y4 Y5 x.c,Y4 Y5 x.s,Y4 Y5 x.u,Y7 x.d,J a' l' c']) (by simp[results,Tryz.results82,go_sem, *]) rfl ⟨a',l',c',rfl,HO.az (λk _ s=>by have s1:w.heap.size+1+1<=k:=s;rw[Ya _ _ _ _ (show k≠w.heap.size+1 by omega),Ya _ _ _ _ (show k≠w.heap.size+1 by omega),Ya _ _ _ _ (show k≠w.heap.size+1 by omega),Ya _ _ _ _ (show k≠w.heap.size+1 by omega),Ya _ _ _ _ (show k≠w.heap.size+1 by omega),Ya _ _ _ _ (show k≠w.heap.size+1 by omega),Ya _ _ _ _ (show k≠w.heap.size+1 by omega),Ya _ _ _ _ (show k≠w.heap.size by omega)]) (λk _ s=>by have s1:w.heap.size+1+1<=k:=s;show w.heap.size<=k;omega),sb1 (sb1 (sb1 (sb1 (sb1 (sb1 (sb1 (ah (Ye _) (HB.out))))))))⟩):p:=h
theorem acU(h:p:=by
 obtain⟨p0,p1,p2,p3,p4,p5⟩:=cs6 Bp;obtain⟨r0,r1,r2,r3,r4,r5⟩:=cs6 Br;have fr0:=al Br.out 0;have fr1:=al Br.out 1;have fr2:=al Br.out 2;have fp3:=al Bp.out 3;have fr3:=al Br.out 3;have fr4:=al Br.out 4;have fr5:=al Br.out 5;go_wp2_with fail;refine bodyPost_ret (v:=Za #[I x.n,Y4 Y5 x.c,I x.z,J a' l' c',I x.d,Y4 Y5 x.p]) (by simp[results,Tryz.results45,go_sem, *]) rfl ⟨a',l',c',rfl,HO.az (λk _ s=>by have s1:w.heap.size+1+1<=k:=s;rw[Ya _ _ _ _ (show k≠w.heap.size+1 by omega),Ya _ _ _ _ (show k≠w.heap.size+1 by omega),Ya _ _ _ _ (show k≠w.heap.size+1 by omega),Ya _ _ _ _ (show k≠w.heap.size+1 by omega),Ya _ _ _ _ (show k≠w.heap.size+1 by omega),Ya _ _ _ _ (show k≠w.heap.size+1 by omega),Ya _ _ _ _ (show k≠w.heap.size by omega)]) (λk _ s=>by have s1:w.heap.size+1+1<=k:=s;show w.heap.size<=k;omega),sb1 (sb1 (sb1 (sb1 (sb1 (sb1 (ah (Ye _) (HB.out)))))))⟩):p:=h
theorem zt(h:p:=by
 go_wp2_with fail;refine (Ap.pX va vl vc x.zs _ (HR.below (HB.trans ((aR _ _ _).mono HB.size))) hl).mono ?_;rintro e w1 ⟨a',l',c',rfl,h1,h2,hb⟩;obtain⟨HA0,HA1,hbx⟩:=eh hb;have Bp:=aa HA0;have Br:=aa HA1;replace HB:=upB HB hbx;clear hb hbx HA0 HA1;have HO:Hid (bN w1 a' l' c' x.zs (λk=>w.heap.size+1+1<=k)):=⟨h1,h2.imp id λ⟨g,cur,e1,e2,e3⟩=>⟨g,cur,e1,by simpa using e2,e3⟩⟩;clear h1 h2;exact z269z):p:=h
theorem acQ(h:p:=by
 refine (Bd d c _ (HR.below HB.out)).mono ?_;have z721z:=@aa _ @UR;exact yu):p:=h
theorem acO(h:p:=by
 obtain⟨hz8,HX,HT,HZz0⟩:=vj;have HZz2:=aa z2;have HZz3:=aa z3;have HZz5:=aa z5;clear hat hx hvr z0 z2 z3 z5;go_wp2_with fail;refine (wB x va vl vc _ (HT.below (ak _ _)) hz8).mono ?_;have z1318z:=@aa _ @IL;exact mG):p:=h
theorem acN(h:p:=by
 have HX:=aa hx;clear hat hx z0 z2 z3 z5 hvr;have HC:=aa (λv:World=>jX x va vl vc v);have HB1:=aa (HB.alloc HB.size (Y6 (vov x va vl vc) 95));have z683z:=@aa _ @Vl;exact jh):p:=h
theorem acM(h:p:=by
 obtain⟨hbw,e0,e1,e2,e3⟩:=tM;obtain⟨e4,e5⟩:=M7;have e6:=(ai hb1 hbw).trans ((ai HRW.out hbl).trans c6);have e7:=(ai hb1 hbw).trans ((ai HRW.out hbl).trans c7);have z740z:=@aa _ @UE;exact yo):p:=h
theorem acL(h:p:=by
 have HX:=aa hx;have HT:=aa hvr;clear hat hx z0 z2 z3 z5 hvr;go_wp2_with fail;refine (dY va vl vc v.zs t _ (HT.below (ak _ _))).mono ?_;rintro e w1 ⟨r,rfl,hi,hb2⟩;obtain⟨HA0,hbx⟩:=bB hb2;replace HB:=upB HB hbx;clear hb2 hbx HA0;have HI:=aa hi;clear hi hb c0 c1 c2 c3 c4 c5 c6 c7;cases r
 ·go_wp2;refine⟨⟨k+1,s,by omega,rfl,by go_num,?_,by omega,by omega,HB.out⟩,by simp[intOf];omega⟩;exact ON
 ·go_wp2;refine⟨⟨k+1,s+1,by omega,by go_num,by go_num,?_,by omega,by omega,HB.out⟩,by simp[intOf];omega⟩;show _=_;rw[kv HX.out,if_pos (HI.1 bX),<-HS.out]):p:=h
theorem acK(h:p:=by
 have HXv:=aa hx;have HTv:=aa hvr;clear hat hx z0 z2 z3 z5 hvr;have hvl:=HTv.1;have hvc:=Yl HTv.2.1 HTv.2.2.1;have HVL:=aa hvl;clear hvl;have KV:=aa ((Ym wr (Y6 (vov v va vl vc) 95) _ (ae Bk.out)).trans Bk.out);obtain⟨GV,BV⟩:=agi;have TV:=aa (HTv.below (ak wr (Y6 (vov v va vl vc) 95)));obtain⟨W,hW⟩:∃W,W=wr.alloc (Y6 (vov v va vl vc) 95):=⟨_,rfl⟩;obtain⟨gb,hgb⟩:∃gb,gb=wr.heap.size:=⟨_,rfl⟩;rw[<-hW] at KV GV BV TV;rw[<-hgb] at GV;go_wp2;rw[<-hW,<-hgb];clear hW hgb HB Bk HTv c0 c1 c2 c3 c4 c5 c6 c7 hb;go_loopw [21] (λi wr=> ∃kq:Nat,kq<=vl/\i=Y4 Y5 kq/\Hid (∀(j:Nat) t,j<kq->v.zs[j]?=Y3 t->∃(i:Nat) (n:Nd),c.ns[i]?=Y3 n/\n.n=t/\n.z=v.z)/\Hid (Below W.heap.size W wr)) (λi _=>vl - (intOf i).toNat);case atStart=>exact⟨0,by omega,rfl,λ_ _ h=>absurd h af,Yh _ _⟩
 case round=>
  obtain⟨kq,hkq,rfl,HQ2,HBW⟩:=hrel;obtain⟨HB,Bk⟩:=tI;have Bv:=upK GV HBW.out;by_cases hlt2:kq<vl
  ·obtain⟨b2,o2,t,rfl,hb,hx,hc,hsz⟩:=(TV.below HBW.out).at hlt2;have HXt:=aa hx;clear hx hsz;obtain⟨k0,k1,k2,k3,k4,k5⟩:=cs6 Bk;obtain⟨v0,v1,v2,v3,v4,v5,v6,v7⟩:=cs8 Bv;go_wp2_with fail;refine (j6 ⟨a1,l1,y1,a2,l2,y2,(Y3 ⟨b,o,U⟩),l3,y3,a4,l4,y4,a5,l5,y5⟩ c.now c.ns t w _ HR.n HB.out).mono ?_;rintro e w1 ⟨hb2,hf⟩;have HBW1:=upB HBW hb2;clear k0 k1 k2 k3 k4 k5 v0 v1 v2 v3 v4 v5 v6 v7;replace Bk:=upK Bk hb2;replace Bv:=upK Bv hb2;replace HB:=upB HB hb2;clear hb2;clear hb hc;rcases hf with ⟨hh,m,ma,ml,mc,hx,hn,rfl,z0,z1,hmr⟩|⟨hh,rfl⟩;rotate_left
   ·have HH:=aa hh;clear hh;have z755z:=@aa _ @Uu;exact yh
   have HXm:=aa hx;have HNm:=aa hn;clear hx hn hh z0 z1 hmr;by_cases hz:m.z=v.z
   ·have q1:=aP hz;have HZ:=aa hz;clear hz;obtain⟨k0,k1,k2,k3,k4,k5⟩:=cs6 Bk;obtain⟨v0,v1,v2,v3,v4,v5,v6,v7⟩:=cs8 Bv;have ltv_1:=ae Bv.out;go_wp2_with fail;refine⟨⟨kq+1,by omega,by go_num,λj s hj hs=>?_,HBW1.alloc HBW1.size _⟩,by simp[intOf];omega⟩;by_cases e:j=kq
    ·subst e;rw[HXt.out] at hs;obtain rfl:=Yd hs;exact⟨_,m,HXm.out,HNm.out,HZ.out⟩
    ·exact HQ2.out j s af hs
   ·have q1:=bA hz;have HZ:=aa hz;clear hz;have z755z:=@aa _ @Ut;exact yh
  ·exact agR):p:=h
theorem acB(h:p:=by
 have hl5:(xs.map ndF).length=len:=by simpa using hxl
 exact vM):p:=h
theorem acA(h:p:=by
 have hl5:(xs.map vdF).length=len:=by simpa using hxl
 exact vM):p:=h
theorem acz(h:p:=by
 have hl5:(xs.map pdF).length=len:=by simpa using hxl
 exact vM):p:=h
theorem pN(h:p:=by
 obtain rfl:len=k:=af
 have h5:=HV.out;rw[YH af] at h5;obtain⟨a',c',rfl,hR⟩:=h5.own HO.out (by simp[hxl]) ag (λg hg=>(HO.lt g hg).1);have HR5:=aa hR;exact z295z):p:=h
theorem acs(h:p:=by
 go_enter Tryz.func78,Tryz.ntmps78;go_wp2;go_loopw [10] (λi wr=> ∃k:Nat,k<=len/\i=Y4 Y5 k/\Hid (∀(j:Nat) y,j<k->xs[j]?=Y3 y->Yk y.n.toList t.toList=Y_)/\Hid (Below w.heap.size w wr)) (λi _=>len - (intOf i).toNat);case atStart=>exact⟨0,by omega,rfl,λj y hj=>by omega,Yh _ _⟩
 case round=>
  obtain⟨k,hk,rfl,HE,HB⟩:=hrel;by_cases hlt:k<len
  ·obtain⟨b,o,x,rfl,hb,hx,hat⟩:=cq (HR.below HB.out) hlt;have z1011z:=@aa _ @MN;exact dv
  ·obtain rfl:k=len:=af
   have hp:pl Pd.n xs t=xs.length:=fU (λj y hy=>HE.out j y jI hy);have hh:hit Pd.n xs t=Y8:=by unfold hit;rw[hp,List.getElem?_eq_none (Ye _)]
   have HP:=aa hp;have HH:=aa hh;clear hp hh;go_wp2;exact bodyPost_ret (v:=Ze #[Y4 Y5 k,Y7 Y8]) (by simp[results,Tryz.results78,go_sem]) rfl ⟨by rw[HP.out,HH.out,hxl],HB.out⟩):p:=h
theorem acr(h:p:=by
 go_enter Tryz.func43,Tryz.ntmps43;go_wp2;go_loopw [5,10] (λvo vi wr=> ∃(k:Nat) (ws:List (List Value)) (f:Nat->Nat),k<=len/\vi=Y4 Y5 k/\Hid (wr.ownsRow w.heap.size 40 6 vo (wo Pd.n t (xs.take k)).length ws.flatten)/\Hid (Sel xs (wo Pd.n t (xs.take k)) vss ws k f)/\Hid (Below w.heap.size w wr)) (λ_ vi _=>len - (intOf vi).toNat);case atStart=>exact⟨0,[],λ_=>0,by omega,rfl,World.ownsRow_nil _ _ _ _,Sel.nil _ _ _ _,Yh _ _⟩
 case round=>
  obtain⟨k,ws,f,hk,rfl,HO,HF,HB⟩:=hrel;have hBs:=HB.size;by_cases hlt:k<len
  ·obtain⟨b,o,x,rfl,hb,hx,hat⟩:=cq HR.out hlt;have z1011z:=@aa _ @MM;exact dv
  ·obtain rfl:len=k:=af
   have h5:=HF.out;have HO5:=HO;rw[YH af] at h5 HO5;have h6:=(h5.i_ (HV.below HB.out)).az (w':=wr) (S':=λk=>Q k\/w.heap.size<=k) (λ_ _ _ _=>rfl) (λ_ _ s=>Zc s);obtain⟨a',c',e,hR⟩:=h6.own HO5.out aF ag (λg hg=>Zb (HO5.lt g hg).1);subst e;have HR5:=aa hR;clear h5 h6 hR HF HO HO5;go_wp2;go_ret;exact⟨a',_,c',rfl,by simpa using HR5.out,HB.out⟩):p:=h
theorem pL(h:p:=by
 have hmcalled:∀(v:Value) (w:World),(method 340 40 v "loop.example/g00571/impl.called").run Tryz.prog w=.ok (190,v) w:=λ_ _=>by kernel_rfl
 exact z306z):p:=h
theorem acp(h:p:=by
 refine bodyPost_ret (v:=Ze #[Y4 Y5 k,Y7 (x.n.toList==t.toList)]) (by simp[results,Tryz.results80,go_sem]) rfl ⟨?_,HB3.out⟩;unfold hit;rw[hp,HX.out]):p:=h
theorem aco(h:p:=by
 refine bodyPost_ret (v:=Ze #[Y4 Y5 k,Y7 (x.n.toList==t.toList)]) (by simp[results,Tryz.results165,go_sem]) rfl ⟨?_,HB3.out⟩;unfold hit;rw[hp,HX.out]):p:=h
theorem acn(h:p:=by
 refine bodyPost_ret (v:=Ze #[Y4 Y5 k,Y7 (x.n.toList==t.toList)]) (by simp[results,Tryz.results166,go_sem]) rfl ⟨?_,HB3.out⟩;unfold hit;rw[hp,HX.out]):p:=h
theorem pK(h:p:=by
 have z1350z:=@aa _ @Im;exact mD):p:=h
theorem acm(h:p:=by
 go_ret;refine ar.f (λ⟨i,m,e1,e2,e3,_⟩=>?_) (HB.alloc HB.size _);obtain⟨_,rfl⟩:=HN.inj e1 HX1.out (e2.trans HN1.symm);exact HC.out e3):p:=h
theorem ack(h:p:=by
 go_ret;refine ar.f (λ⟨i,m,e1,e2,e3,_⟩=>?_) (HB.alloc HB.size _);obtain⟨_,rfl⟩:=HN.inj e1 HX1.out (e2.trans HN1.symm);rw[hd] at e3;cases e3):p:=h
theorem acj(h:p:=by
 go_ret;refine ar.f (λ⟨i,n,e1,e2,_⟩=>?_) (HB.alloc HB.size _);have:=(a_ HN.out e1 e2).2;rw[HH.out] at this;cases this):p:=h
theorem pJ(h:p:=by
 have z994z:=@aa _ @Q9;exact jb):p:=h
theorem ab_(h:p:=by
 obtain⟨d4,f4,d5,f5,d6,f6⟩:=zP;have z1060z:=@aa _ @Mc;exact fC):p:=h
theorem ab9(h:p:=by
 have z1060z:=@aa _ @Mb;exact fC):p:=h
theorem ab8(h:p:=by
 obtain⟨d4,f4,d5,f5,d6,f6⟩:=zP;have d7:=ck7 g1;have f7:=al g1 7;have z1060z:=@aa _ @Ma;exact fC):p:=h
theorem ab7(h:p:=by
 have d4:=ck4 g1;have f4:=al g1 4;have z1060z:=@aa _ @L_;exact fC):p:=h
theorem lu(h:p:=by
 rintro e w1 ⟨hb,hf⟩;have g1:=(hb.block (w.heap.size+1) aF).trans (dZ _ _ _);obtain⟨d0,f0,d1,f1,d2,f2,d3,f3⟩:=Ni;exact z329z):p:=h
theorem abD(h:p:=by
 by_cases e:j=k
 ·subst e;rw[HXv.out] at hz;obtain rfl:=Yd hz;exact λh1 h2=>by rcases HCs.out with h|h;(rw[h] at h1;cases h1);exact absurd h h2
 ·exact HQ.out j z af hz):p:=h
theorem zg(h:p:=by
 have z1507z:=@aa _ @Fc;exact dG):p:=h
theorem abx(h:p:=by
 obtain⟨d4,f4,d5,f5,d6,f6⟩:=zP;have HB:=aa hb1;have hs1:=hb.size;rw[show (w.alloc (Y6 #[I ⟨#[]⟩,I ⟨#[]⟩,Y4 Y5 0,Y4 Y5 0,Y4 Y5 0,Y7 Y8,J U 0 0] 38)).heap.size=w.heap.size+1 from by simp] at hs1;have hlt1:w.heap.size<w1.heap.size:=af
 clear hb g1 HR1 hs1;cases hh:hit Nd.n xs t
 ·generalize pl Nd.n xs t=j;have HH:=aa hh;clear hh hb1 HR hxl;go_wp2;refine bodyPost_ret (v:=Ze #[Za #[I ⟨#[]⟩,I ⟨#[]⟩,Y4 Y5 0,Y4 Y5 0,Y4 Y5 0,Y7 Y8,J U 0 0],Y7 Y8]) (by simp[results,Tryz.results41,go_sem, *]) rfl ⟨?_,Zb ⟨HH.out,rfl⟩⟩;exact Below.alloc (ah (Ye _) (ah (Ye _) (ah (Ye _) (ah (Ye _) (ah (Ye _) (ah (Ye _) (ah (Ye _) (HB.out)))))))) kG _
 ·obtain⟨x,hx,hn⟩:=cv hh;have hj:pl Nd.n xs t<len:=by have:=(Yc.1 hx).1;omega
  obtain⟨b,o,y,rfl,hbl,hy,hat⟩:=dn HR.out hj;rw[hx] at hy;obtain rfl:=Yd hy;obtain⟨va,vl,vc,hvr,z0,z1,c0,c1,c2,c3,c4,c5,c6⟩:=aZ hat;obtain⟨hbw,e0,e1,e2,e3⟩:=tM;obtain⟨e4,e5⟩:=M7;have e6:=(ai hb1 hbw).trans ((ai HRW.out hbl).trans c6);have z743z:=@aa _ @UB;exact ym):p:=h
theorem abw(h:p:=by
 have HB:=aa hb1;have hs1:=hb.size;rw[show (w.alloc (Y6 #[I ⟨#[]⟩,Y7 Y8,Y7 Y8,I ⟨#[]⟩] 92)).heap.size=w.heap.size+1 from by simp] at hs1;have hlt1:w.heap.size<w1.heap.size:=af
 clear hb g1 HR1 hs1;cases hh:hit Kd.n xs t
 ·generalize pl Kd.n xs t=j;have HH:=aa hh;clear hh hb1 HR hxl;go_wp2;refine bodyPost_ret (v:=Ze #[Za #[I ⟨#[]⟩,Y7 Y8,Y7 Y8,I ⟨#[]⟩],Y7 Y8]) (by simp[results,Tryz.results160,go_sem, *]) rfl ⟨?_,Zb ⟨HH.out,rfl⟩⟩;exact Below.alloc (ah (Ye _) (ah (Ye _) (ah (Ye _) (ah (Ye _) (HB.out))))) kG _
 ·obtain⟨x,hx,hn⟩:=cv hh;have hj:pl Kd.n xs t<len:=by have:=(Yc.1 hx).1;omega
  obtain⟨b,o,y,rfl,hbl,hy,hat⟩:=gu HR.out hj;rw[hx] at hy;obtain rfl:=Yd hy;obtain⟨z0,z3,c0,c1,c2,c3⟩:=dh hat;obtain⟨hbw,e0,e1,e2,e3⟩:=tM;have z786z:=@aa _ @T5;exact yb):p:=h
theorem abv(h:p:=by
 have d4:=ck4 g1;have f4:=al g1 4;have HB:=aa hb1;have hs1:=hb.size;rw[show (w.alloc (Y6 #[I ⟨#[]⟩,Y4 Y5 0,I ⟨#[]⟩,Y7 Y8,I ⟨#[]⟩] 97)).heap.size=w.heap.size+1 from by simp] at hs1;have hlt1:w.heap.size<w1.heap.size:=af
 clear hb g1 HR1 hs1;cases hh:hit Xd.n xs t
 ·generalize pl Xd.n xs t=j;have HH:=aa hh;clear hh hb1 HR hxl;go_wp2;refine bodyPost_ret (v:=Ze #[Za #[I ⟨#[]⟩,Y4 Y5 0,I ⟨#[]⟩,Y7 Y8,I ⟨#[]⟩],Y7 Y8]) (by simp[results,Tryz.results161,go_sem, *]) rfl ⟨?_,Zb ⟨HH.out,rfl⟩⟩;exact Below.alloc (ah (Ye _) (ah (Ye _) (ah (Ye _) (ah (Ye _) (ah (Ye _) (HB.out)))))) kG _
 ·obtain⟨x,hx,hn⟩:=cv hh;have hj:pl Xd.n xs t<len:=by have:=(Yc.1 hx).1;omega
  obtain⟨b,o,y,rfl,hbl,hy,hat⟩:=eI HR.out hj;rw[hx] at hy;obtain rfl:=Yd hy;obtain⟨z0,z2,z4,c0,c1,c2,c3,c4⟩:=cn hat;obtain⟨hbw,e0,e1,e2,e3⟩:=tM;have e4:=(ai hb1 hbw).trans ((ai HRW.out hbl).trans c4);have z758z:=@aa _ @Ur;exact yg):p:=h
theorem abu(h:p:=by
 have d4:=ck4 g1;have f4:=al g1 4;have d5:=ck5 g1;have f5:=al g1 5;have HB:=aa hb1;have hs1:=hb.size;rw[show (w.alloc (Y6 #[I ⟨#[]⟩,Y4 Y5 0,I ⟨#[]⟩,J U 0 0,I ⟨#[]⟩,Y4 Y5 0] 40)).heap.size=w.heap.size+1 from by simp] at hs1;have hlt1:w.heap.size<w1.heap.size:=af
 clear hb g1 HR1 hs1;cases hh:hit Pd.n xs t
 ·generalize pl Pd.n xs t=j;have HH:=aa hh;clear hh hb1 HR hxl;go_wp2;refine bodyPost_ret (v:=Ze #[Za #[I ⟨#[]⟩,Y4 Y5 0,I ⟨#[]⟩,J U 0 0,I ⟨#[]⟩,Y4 Y5 0],Y7 Y8]) (by simp[results,Tryz.results39,go_sem, *]) rfl ⟨?_,Zb ⟨HH.out,rfl⟩⟩;exact Below.alloc (ah (Ye _) (ah (Ye _) (ah (Ye _) (ah (Ye _) (ah (Ye _) (ah (Ye _) (HB.out))))))) kG _
 ·obtain⟨x,hx,hn⟩:=cv hh;have hj:pl Pd.n xs t<len:=by have:=(Yc.1 hx).1;omega
  obtain⟨b,o,y,rfl,hbl,hy,hat⟩:=cq HR.out hj;rw[hx] at hy;obtain rfl:=Yd hy;have z1011z:=@aa _ @ML;exact dv):p:=h
theorem lq(h:p:=by
 rintro e w1 ⟨rfl,hb⟩;obtain⟨g1,hb1,-⟩:=ix hb;obtain⟨d0,f0,d1,f1,d2,f2,d3,f3⟩:=Ni;exact z382z):p:=h
theorem abt(h:p:=by
 have z1054z:=@aa _ @Mg;exact tm):p:=h
theorem abr(h:p:=by
 refine (dY va vl vc v.zs n.n _ (HTv.below (HB.trans ((ak _ _).mono HB.size)))).mono ?_;rintro e w3 ⟨r,rfl,hi,hb3⟩;clear k0 k1 k2 k3 k4 k5 n0 n1 n2 n3 n4 n6 ltn_1 n5;obtain⟨HA0,hbx⟩:=bB hb3;replace Bk:=upK Bk hbx;replace Bn:=upK Bn hbx;have Bv:=aa HA0;replace HB:=upB HB hbx;clear hb3 hbx HA0;have HI:=aa hi;clear hi;cases r
 ·go_wp2;go_ret;refine ar.f (λh=>?_) HB.out;obtain⟨i,v',e1,e2,e3⟩:=h k t HXt.out;obtain⟨_,rfl⟩:=HV.inj e1 HXv.out (e2.trans HNv.symm);rcases e3 with e3|e3
  ·rw[HD.out] at e3;cases e3
  ·have:=HI.2 e3;cases this
 ·go_wp2_with fail;refine⟨⟨k+1,by omega,by go_num,λj s hj hs=>?_,HB.out,Bk.out,Bn.out⟩,by simp[intOf];omega⟩;by_cases e:j=k
  ·subst e;rw[HXt.out] at hs;obtain rfl:=Yd hs;exact⟨_,v,HXv.out,HNv.out,Zb (HI.1 bX)⟩
  ·exact HQ.out j s af hs):p:=h
theorem zd(h:p:=by
 have HD:=aa hd;clear hd;obtain⟨k0,k1,k2,k3,k4,k5⟩:=cs6 Bk;obtain⟨n0,n1,n2,n3,n4,-,n6⟩:=cs7 Bn;have ltn_1:=ae Bn.out;have n5:=(an Bn.out 5).trans (congrArg (λz=>Y3 (Value.bool z)) HD.out);go_wp2_with fail;exact z387z):p:=h
theorem abm(h:p:=by
 by_cases e:j=k
 ·subst e;rw[HX.out] at hq;obtain rfl:=Yd hq;rfl
 ·exact absurd (HSe.out ▸ HQ.out j q af hq h1 h2) h1):p:=h
theorem abl(h:p:=by
 by_cases e:j=k
 ·subst e;rw[HX.out] at hq;obtain rfl:=Yd hq;rfl
 ·exact (HQ.out j q af hq h1 h2).trans HD.symm):p:=h
theorem y9(h:p:=by
 obtain⟨r0,r1,r2,r3,r4,r5⟩:=cs6 Br;go_wp2_with fail;refine⟨⟨k+1,p.d,by omega,rfl,by go_num,λj q hj hq h1 h2=>?_,Zb ⟨k,p,by omega,HX.out,HEm.out,HIn.out,rfl⟩,HB.out⟩,by simp[intOf];omega⟩;exact z396z):p:=h
theorem aa6(h:p:=by
 go_enter Tryz.func128,Tryz.ntmps128;go_wp2;go_loopw [5,11] (λq i wr=> ∃(k:Nat) (s:Int),k<=l5/\q=Y4 Y5 s/\i=Y4 Y5 k/\Hid (s=cpuOf t (ps.take k))/\0<=s/\s<=k*1000000/\Hid (Below w.heap.size w wr)) (λ_ i _=>l5 - (intOf i).toNat);case atStart=>exact⟨0,0,by omega,rfl,rfl,rfl,by omega,by omega,ak _ _⟩
 case round=>
  obtain⟨k,s,hk,rfl,rfl,HS,hs0,hs1,HB⟩:=hrel;by_cases hlt:k<l5
  ·obtain⟨b,o,p,rfl,hb,hx,hat⟩:=cq (HR.below HB.out) hlt;have z1011z:=@aa _ @MK;exact dv
  ·obtain rfl:l5=k:=af
   exact vQ):p:=h
theorem XH(h:p:=by
 have HR:=aa hr;have z1618z:=@aa _ @DV;exact rB):p:=h
theorem XG(h:p:=by
 have HR:=aa hr;obtain⟨hl5,hm5⟩:=kK;clear hr;go_enter Tryz.func129,Tryz.ntmps129;go_wp2;go_loopw [5,11] (λq i wr=> ∃(k:Nat) (s:ByteArray),k<=l5/\q=I s/\i=Y4 Y5 k/\Hid (∀(j:Nat) p,j<k->c.ps[j]?=Y3 p->¬p.d=⟨#[]⟩->InL p.zs t->p.d=s)/\Hid (s=⟨#[]⟩\/∃(j:Nat) (p:Pd),j<k/\c.ps[j]?=Y3 p/\¬p.d=⟨#[]⟩/\InL p.zs t/\p.d=s)/\Hid (Below w.heap.size w wr)) (λ_ i _=>l5 - (intOf i).toNat);case atStart=>exact⟨0,_,by omega,rfl,rfl,λ_ _ h=>absurd h af,Zc rfl,ak _ _⟩
 case round=>
  obtain⟨k,s,hk,rfl,rfl,HQ,HS,HB⟩:=hrel;by_cases hlt:k<l5
  ·obtain⟨b,o,p,rfl,hb,hx,hat⟩:=cq (HR.p.below HB.out) hlt;have z1011z:=@aa _ @MJ;exact dv
  ·obtain rfl:l5=k:=af
   go_wp2;go_ret;refine ar.t (λi j p q hi hj h1 h2 h3 h4=>?_) HB.out;rw[HQ.out i p (by have:=(Yc.1 hi).1;omega) hi h1 h3,HQ.out j q tF hj h2 h4]):p:=h
theorem XF(h:p:=by
 obtain⟨HR,hl1,hm1,hl3⟩:=zV;have hm3:l3<=9223372036854775807:=Yl hr.v.2.1 hr.v.2.2.1;obtain⟨hl5,hm5⟩:=kK;clear hr;have HE:=aa hG;have HNR:=aa hn;have HXR:=aa hx;have HVR:=aa hv;have HNE:=aa hne;have HL5:=aa hps8;have HPC:=aa hpc;clear hn hx hv hne hps8 hpc hG;go_enter Tryz.func75,Tryz.ntmps75;go_wp2;go_loopw [12] (λi wr=> ∃k:Nat,k<=l5/\i=Y4 Y5 k/\Hid (∀(j:Nat) z,j<k->c.ps[j]?=Y3 z->PQ1 c z)/\Hid (Below w.heap.size w wr)/\Hid (wr.heap[w.heap.size]?=Y3 (Y6 (clo6 a1 l1 y1 a2 l2 y2 a3 l3 y3 a4 l4 y4 a5 l5 y5 c.now) 29 (0,0)))) (λi _=>l5 - (intOf i).toNat);case atStart=>exact⟨0,by omega,rfl,λ_ _ h=>absurd h af,ak _ _,Yg⟩
 case round=>
  obtain⟨k,hk,rfl,HQ,HB,Bk⟩:=hrel;by_cases hlt:k<l5
  ·have z903z:=@aa _ @Sp;exact xU
  ·obtain rfl:l5=k:=af
   have HQ1:Hid (∀(j:Nat) z,c.ps[j]?=Y3 z->PQ1 c z):=λj z hz=>HQ.out j z dD hz;clear HQ;have kc:=ck0 Bk;go_wp2;go_loopw [36] (λi wr=> ∃k:Nat,k<=l1/\i=Y4 Y5 k/\Hid (∀(j:Nat) z,j<k->c.ns[j]?=Y3 z->PQ2 c z)/\Hid (Below w.heap.size w wr)/\Hid (wr.heap[w.heap.size]?=Y3 (Y6 (clo6 a1 l1 y1 a2 l2 y2 a3 l3 y3 a4 l4 y4 a5 l5 y5 c.now) 29 (0,0)))) (λi _=>l1 - (intOf i).toNat);case atStart=>exact⟨0,by omega,rfl,λ_ _ h=>absurd h af,HB.out,Bk.out⟩
   case round=>
    obtain⟨k,hk,rfl,HQ,HB,Bk⟩:=hrel;by_cases hlt:k<l1
    ·have z851z:=@aa _ @S7;exact fO
    ·obtain rfl:l1=k:=af
     have HQ2:Hid (∀(j:Nat) z,c.ns[j]?=Y3 z->PQ2 c z):=λj z hz=>HQ.out j z dD hz;clear HQ;have kc:=ck2 Bk;go_wp2;go_loopw [51] (λi wr=> ∃k:Nat,k<=l3/\i=Y4 Y5 k/\Hid (∀(j:Nat) z,j<k->c.vs[j]?=Y3 z->PQ3 c z)/\Hid (Below w.heap.size w wr)/\Hid (wr.heap[w.heap.size]?=Y3 (Y6 (clo6 a1 l1 y1 a2 l2 y2 a3 l3 y3 a4 l4 y4 a5 l5 y5 c.now) 29 (0,0)))) (λi _=>l3 - (intOf i).toNat);case atStart=>exact⟨0,by omega,rfl,λ_ _ h=>absurd h af,HB.out,Bk.out⟩
     case round=>
      obtain⟨k,hk,rfl,HQ,HB,Bk⟩:=hrel;by_cases hlt:k<l3
      ·have z1230z:=@aa _ @JQ;exact mJ
      ·obtain rfl:l3=k:=af
       have HQ3:Hid (∀(j:Nat) z,c.vs[j]?=Y3 z->PQ3 c z):=λj z hz=>HQ.out j z dD hz;clear HQ;go_wp2;go_ret;exact ar.t ⟨HQ1.out,HQ2.out,HQ3.out⟩ HB.out):p:=h
theorem XE(h:p:=by
 have z1603z:=@aa _ @D5;exact rG):p:=h
theorem XD(h:p:=by
 have z1370z:=@aa _ @Hx;exact sk):p:=h
theorem WQ(h:p:=by
 refine (cH c 0 1000000 _).mono ?_;have z862z:=@aa _ @SW;exact fN):p:=h
theorem WO(h:p:=by
 refine (br k _ hk).mono ?_;have z862z:=@aa _ @SU;exact fN):p:=h
theorem WN(h:p:=by
 refine (dV z _ hz).mono ?_;have z862z:=@aa _ @SS;exact fN):p:=h
theorem WH(h:p:=by
 have e3:=hf 3 ag;simp[Gi.aj,Yf] at e3;exact ki):p:=h
theorem WG(h:p:=by
 have e6:=hf 6 ag;simp[Gi.aj,Yf] at e6;exact ki):p:=h
theorem WE(h:p:=by
 have e9:=hf 9 ag;simp[Gi.aj,Yf] at e9;exact ki):p:=h
theorem WD(h:p:=by
 have e12:=hf 12 ag;simp[Gi.aj,Yf] at e12;exact ki):p:=h
theorem WC(h:p:=by
 have e15:=hf 15 ag;simp[Gi.aj,Yf] at e15;exact ki):p:=h
theorem WB(h:p:=by
 have e18:=hf 18 ag;simp[Gi.aj,Yf] at e18;exact ki):p:=h
theorem Wz(h:p:=by
 have e1:=hf 1 ag;simp[Gi.aj,Yf] at e1;clear hf;exact aL):p:=h
theorem fQ(h:p:=by
 refine Gi.Obl.plain rfl ?_;intro ac wg K lo hi hsz hW hpr hf hap hK;clear hsz hap hpr;exact z587z):p:=h
theorem Wy(h:p:=by
 clear hb3 d0 d1 d2 d3 d4 d5 d6;exact tY):p:=h
theorem Wx(h:p:=by
 clear hb3 d0 d1 d2 d3;exact tY):p:=h
theorem Ww(h:p:=by
 clear hb3 d0 d1 d2 d3 d4 d5 d6 d7;exact tY):p:=h
theorem Wv(h:p:=by
 clear hb3 d0 d1 d2 d3 d4;exact tY):p:=h
theorem Wu(h:p:=by
 clear hb3 d0 d1 d2 d3 d4 d5;exact tY):p:=h
theorem jj(h:p:=by
 rw[hless] at htri;go_wp2_with fail;refine (HC.out _).mono ?_;rintro e w3 ⟨rfl,hb3⟩;have HB4:=aa (HB3.trans (hb3.mono (Yl HB.size af)));exact z595z):p:=h
theorem We(h:p:=by
 have hz:(p.z=⟨#[]⟩\/p.z=n.z)\/¬(p.z=⟨#[]⟩\/p.z=n.z):=Classical.em _;rcases hz with hz|hz;rotate_left
 ·have q1:=aX (λe=>hz (Zc e));have q2:=bA (λe=>hz (Zb e));have HC:=aa hz;clear hz;have z314z:=@aa _ @acm;exact pJ
 have HC:=aa hz;have hq:(p.z.toList.isEmpty=Y_)\/(p.z.toList.isEmpty=Y8/\(p.z.toList==n.z.toList)=Y_):=by
  by_cases e:p.z=⟨#[]⟩
  ·exact Zc (cN e)
  ·exact Zb ⟨aX e,aP (HC.resolve_left e)⟩
 clear hz;rcases hq with hq|⟨hq,hq2⟩
 ·exact ahf
 ·exact ahf):p:=h
theorem Wb(h:p:=by
 cases hd:n.d;rotate_left
 ·have z314z:=@aa _ @ack;exact pJ
 have HC:=aa hd;clear hd;have z994z:=@aa _ @Q8;exact jb):p:=h
theorem yE(h:p:=by
 go_wp2_with fail;refine (j6 d c.now c.ns p.d w _ HR.n (aR _ _ _)).mono ?_;rintro e w1 ⟨hb,hf⟩;obtain⟨HA0,HA1,hbx⟩:=eh hb;have Bk:=aa HA0;have Bp:=aa HA1;replace HB:=upB HB hbx;clear hb hbx HA0 HA1;rcases hf with ⟨hh,n,va,vl,vc,hx,hn,rfl,z0,z1,hvr⟩|⟨hh,rfl⟩;rotate_left
 ·exact ak4
 have HX1:=aa hx;have HN1:=aa hn;have HT1:=aa hvr;clear hx hn hh z0 z1 hvr;exact z621z):p:=h
theorem Vv(h:p:=by
 have z1108z:=@aa _ @LD;exact sY):p:=h
theorem Vu(h:p:=by
 have z1131z:=@aa _ @Lm;exact sR):p:=h
theorem Vt(h:p:=by
 have z1087z:=@aa _ @LS;exact tf):p:=h
theorem Vs(h:p:=by
 rw[show (wr.alloc (Y6 (xov x) 97)).heap.size=wr.heap.size+1 from by simp] at hs1;obtain⟨HB2,d0,d1,d2,d3⟩:=oA;have d4:=ck4 g1;have HG:=aa g1;have HI:=aa hrt;clear g1 hb1 HB1 HRt hrt c0 c1 c2 c3 c4;have z260z:=@aa _ @acZ;exact jm):p:=h
theorem Vr(h:p:=by
 have z1128z:=@aa _ @Lo;exact sS):p:=h
theorem ji(h:p:=by
 go_wp2_with fail;refine HRt.mono ?_;rintro e w1 ⟨r,rfl,hrt,hb1⟩;obtain⟨g1,-,-⟩:=ix hb1;have hs1:=hb1.size;exact z674z):p:=h
theorem Vo(h:p:=by
 have z1108z:=@aa _ @LC;exact sY):p:=h
theorem Vn(h:p:=by
 have z1131z:=@aa _ @Ll;exact sR):p:=h
theorem Vm(h:p:=by
 rw[show (wr.alloc (Y6 (xov x) 97)).heap.size=wr.heap.size+1 from by simp] at hs1;obtain⟨HB2,d0,d1,d2,d3⟩:=oA;have d4:=ck4 g1;clear g1 hb1 c0 c1 c2 c3 c4 HB1;cases hless:Yk x.n.toList t.toList
 ·have z310z:=@aa _ @acn;exact pK
 ·exact tR):p:=h
theorem Vl(h:p:=by
 have z1087z:=@aa _ @LR;exact tf):p:=h
theorem Vk(h:p:=by
 have z1128z:=@aa _ @Ln;exact sS):p:=h
theorem jh(h:p:=by
 go_wp2_with fail;refine (HC.out _).mono ?_;rintro e w1 ⟨rfl,hb1⟩;obtain⟨g1,-,-⟩:=ix hb1;have hs1:=hb1.size;exact z683z):p:=h
theorem Vj(h:p:=by
 go_wp2;go_ret;refine ar.f (λh=>?_) (HB.alloc HB.size _);obtain⟨i,v,e1,e2,_⟩:=h k t HXt.out;have:=(a_ HV.out e1 e2).2;rw[HH.out] at this;cases this):p:=h
theorem Vi(h:p:=by
 go_wp2;go_ret;refine ar.f (λ⟨i,m,e1,e2,e3,e4⟩=>?_) (HB.alloc HB.size _);obtain⟨v,e5,_⟩:=e4 k t HXt.out;exact HD.out v e5):p:=h
theorem Vh(h:p:=by
 go_wp2_with fail;refine (dY va vl vc n.zs v.n _ (HT1.below (HB.trans ((ak _ _).mono HB.size)))).mono ?_;rintro e w3 ⟨r,rfl,hi,hb3⟩;clear k0 k1 k2 k3 k4 k5 n0 n1 n2 n3 n4 n5 n6 ltn_1;obtain⟨HA0,hbx⟩:=bB hb3;replace Bk:=upK Bk hbx;replace Bn:=upK Bn hbx;replace HB:=upB HB hbx;clear hb3 hbx HA0;have HI:=aa hi;clear hi;cases r
 ·go_wp2;go_ret;refine ar.f (λ⟨i,m,e1,e2,e3,e4⟩=>?_) HB.out;obtain⟨_,rfl⟩:=HN.inj e1 HX1.out (e2.trans HN1.symm);obtain⟨v',e5,e6⟩:=e4 k t HXt.out;obtain rfl:=aY.inj HX.out HV.out HD.out e5;have:=HI.2 e6;cases this
 ·go_wp2_with fail;refine⟨⟨k+1,by omega,by go_num,λj s hj hs=>?_,HB.out,Bk.out,Bn.out⟩,by simp[intOf];omega⟩;by_cases e:j=k
  ·subst e;rw[HXt.out] at hs;obtain rfl:=Yd hs;exact⟨v,HD.out,HI.1 bX⟩
  ·exact HQ.out j s af hs):p:=h
theorem Vg(h:p:=by
 go_wp2_with fail;have z1054z:=@aa _ @Mf;exact tm):p:=h
theorem Vf(h:p:=by
 go_wp2;go_ret;refine ar.f (λ⟨i,m,e1,e2,e3,e4⟩=>?_) (HB.alloc HB.size _);obtain⟨_,rfl⟩:=HN.inj e1 HX1.out (e2.trans HN1.symm);obtain⟨v',e5,e6⟩:=e4 k t HXt.out;obtain rfl:=aY.inj HX.out HV.out HD.out e5;exact HZ2.out e6):p:=h
theorem jg(h:p:=by
 obtain⟨k0,k1,k2,k3,k4,k5⟩:=cs6 Bk;obtain⟨n0,n1,n2,n3,n4,n5,n6⟩:=cs7 Bn;have ltn_1:=ae Bn.out;exact z689z):p:=h
theorem Ve(h:p:=by
 have Bx:=aa HA0;replace HB:=upB HB hbx;clear hb hbx HA0;rcases hf with ⟨hh,v,va,vl,vc,hx,hn,rfl,z0,z2,z3,z5,hvr⟩|⟨hh,rfl⟩
 ·have HX2:=aa hx;have HN2:=aa hn;clear hx hn hh z0 z2 z3 z5 hvr;obtain⟨x0,x1,x2,x3,x4⟩:=cs5 Bx;have ltx_2:=ae Bx.out;cases q1:(x.v.toList==s.toList)
  ·go_wp2;go_ret;refine ar.f (λ⟨i,j,x',v',e1,e2,e3,e4,e5,_⟩=>?_) (HB.alloc HB.size _);obtain⟨_,rfl⟩:=HX.inj e1 HX1.out (e2.trans HN1.symm);rw[aP e5] at q1;cases q1
  cases q2:(v.m.toList==t.toList)
  ·go_wp2;go_ret;refine ar.f (λ⟨i,j,x',v',e1,e2,e3,e4,e5,e6,_⟩=>?_) (HB.alloc HB.size _);obtain⟨_,rfl⟩:=HV.inj e3 HX2.out (e4.trans HN2.symm);rw[aP e6] at q2;cases q2
  by_cases q3:x.z<=v.c;rotate_left
  ·go_wp2;go_ret;refine ar.f (λ⟨i,j,x',v',e1,e2,e3,e4,e5,e6,e7,_⟩=>?_) (HB.alloc HB.size _);have z1071z:=@aa _ @L4;exact mM
  cases q4:(v.k.toList==x.k.toList)
  ·go_wp2;go_ret;refine ar.f (λ⟨i,j,x',v',e1,e2,e3,e4,e5,e6,e7,e8,_⟩=>?_) (HB.alloc HB.size _);have z1071z:=@aa _ @L3;exact mM
  cases q5:(v.x==x.x)
  ·go_wp2;go_ret;refine ar.f (λ⟨i,j,x',v',e1,e2,e3,e4,e5,e6,e7,e8,e9⟩=>?_) (HB.alloc HB.size _);have z1071z:=@aa _ @L2;exact mM
  ·go_wp2;go_ret;exact ar.t ⟨_,_,x,v,HX1.out,HN1.out,HX2.out,HN2.out,dp q1,dp q2,q3,dp q4,by simpa using q5⟩ (HB.alloc HB.size _)
 ·have HH2:=aa hh;clear hh;have z1117z:=@aa _ @Lw;exact sV):p:=h
theorem Vc(h:p:=by
 have Bx:=aa HA0;replace HB:=upB HB hbx;clear hb hbx HA0;rcases hf with ⟨hh,v,va,vl,vc,hx,hn,rfl,z0,z2,z3,z5,hvr⟩|⟨hh,rfl⟩
 ·have HX2:=aa hx;have HN2:=aa hn;clear hx hn hh z0 z2 z3 z5 hvr;exact PF
 ·have HH2:=aa hh;clear hh;exact PF):p:=h
theorem Vb(h:p:=by
 replace Bs:=upK Bs hbx;have Bx:=aa HA0;replace HB:=upB HB hbx;clear hb hbx HA0;rcases hf with ⟨hh,v,va,vl,vc,hx,hn,rfl,z0,z2,z3,z5,hvr⟩|⟨hh,rfl⟩
 ·have HX2:=aa hx;have HN2:=aa hn;have HT:=aa hvr;have HZ0:=aa z0;have HZ2:=aa z2;clear hx hn hh z0 z2 z3 z5 hvr;have z1134z:=@aa _ @Lk;exact mK
 ·have HH2:=aa hh;clear hh;have z1134z:=@aa _ @Lj;exact mK):p:=h
theorem Va(h:p:=by
 replace Bs:=upK Bs hbx;have Bx:=aa HA0;replace HB:=upB HB hbx;clear hb hbx HA0;rcases hf with ⟨hh,v,va,vl,vc,hx,hn,rfl,z0,z2,z3,z5,hvr⟩|⟨hh,rfl⟩
 ·have HX2:=aa hx;have HN2:=aa hn;have HT:=aa hvr;have HZ0:=aa z0;have HZ2:=aa z2;clear hx hn hh z0 z2 z3 z5 hvr;exact absurd HN2.out (HNE.out _ _ HX2.out)
 ·have HH2:=aa hh;clear hh;have z1134z:=@aa _ @Li;exact mK):p:=h
theorem ib(h:p:=by
 clear k0 k1 k2 k3 k4 k5 ltk_1;obtain⟨HA0,hbx⟩:=bB hb;replace Bk:=upK Bk hbx;exact z695z):p:=h
theorem U8(h:p:=by
 go_enter Tryz.func85,Tryz.ntmps85;go_wp2;go_loopw [5,10] (λvo vi wr=> ∃(k:Nat) (vss:List (List Value)) (H:Nat->Nat->Nat),k<=len/\vi=Y4 Y5 k/\Hid (wr.ownsRow w.heap.size 40 6 vo k vss.flatten)/\Hid (aQ wr (λk=>w.heap.size<=k) 6 ((xs.take k).map pdF) vss H)/\Hid (Below w.heap.size w wr)) (λ_ vi _=>len - (intOf vi).toNat);case atStart=>exact⟨0,[],λ_ _=>0,by omega,rfl,World.ownsRow_nil _ _ _ _,aQ.nil _ _ _ _,Yh _ _⟩
 case round=>
  obtain⟨k,vss,H,hk,rfl,HO,HV,HB⟩:=hrel;have hBs:=HB.size;by_cases hlt:k<len
  ·obtain⟨b,o,x,rfl,hb,hx,hat⟩:=cq (HR.below HB.out) hlt;have z1011z:=@aa _ @MI;exact dv
  ·have z295z:=@aa _ @acz;exact pN):p:=h
theorem U7(h:p:=by
 have z306z:=@aa _ @acr;exact pL):p:=h
theorem lh(h:p:=by
 obtain⟨i0,hi,hz0,hz1,hz2⟩:=info_parts qj;have HI0:=aa (Yb hi (Yb hz0 (Yb hz1 hz2)));clear hi hz0 hz1 hz2;exact z702z):p:=h
theorem UX(h:p:=by
 rcases hf with ⟨hh,x,hx,hn,rfl,z0,z2,z4⟩|⟨hh,rfl⟩
 ·have HX1:=aa hx;have HN1:=aa hn;clear hx hn hh z0 z2 z4;have z177z:=@aa _ @aeb;exact dx
 ·have HH1:=aa hh;clear hh;have z177z:=@aa _ @aea;exact dx):p:=h
theorem UW(h:p:=by
 have HI1:=aa hi;clear hi;cases r
 ·exact PG
 obtain⟨k0,k1,k2,k3,k4,k5⟩:=cs6 Bk;go_wp2_with fail;refine (vh _ _ _ c.ks 8 _ (HR.k.below HB.out)).mono ?_;rintro e w2 ⟨r,rfl,hi,hb⟩;have z1257z:=@aa _ @Jv;exact fz):p:=h
theorem UR(h:p:=by
 refine (wI d c _ (HR.below HB.out) HOK.2.2.2.1.2.2 HOK.2.2.1.2.2 (HE.below HB.out)).mono ?_;have z1057z:=@aa _ @Md;exact tl):p:=h
theorem UE(h:p:=by
 clear c0 c1 c2 c3 c4 c5 c6 c7 hat hx hn hy hh z0 z2 z3 z5 hvr HR HRW hb1;obtain⟨j,hjj⟩:∃j,pl Vd.n xs t=j:=⟨_,rfl⟩;rw[hjj] at hj;simp only[hjj] at*;clear hjj;go_wp2;refine bodyPost_ret (v:=Ze #[Za #[I x.n,Y4 Y5 x.c,I x.z,I x.k,Y7 x.x,I x.m,Y7 x.y,J va vl vc],Y7 Y_]) (by simp[results,Tryz.results162,go_sem, *]) rfl ⟨?_,HI.2⟩;exact ah (Ye _) (ah (Ye _) (ah (Ye _) (ah (Ye _) (ah (Ye _) (ah (Ye _) (ah (Ye _) (ah (Ye _) (HB.out))))))))):p:=h
theorem UD(h:p:=by
 clear hx hn hh z0 z2 z3 z5 hvr;go_wp2;refine bodyPost_ret (v:=Ze #[Za #[I x.n,Y4 Y5 x.c,I x.z,I x.k,Y7 x.x,I x.m,Y7 x.y,J va vl vc],Y7 Y_]) (by simp[results,Tryz.results153,go_sem, *]) rfl ⟨?_,HI.2⟩;exact PC):p:=h
theorem yo(h:p:=by
 have HI:Hid (QL xs t r w (Y9 (Ze #[Za #[I x.n,Y4 Y5 x.c,I x.z,I x.k,Y7 x.x,I x.m,Y7 x.y,J va vl vc],Y7 Y_])) w):=⟨Yh _ _,Zc ⟨hh,x,va,vl,vc,hx,hn,rfl,z0,z2,z3,z5,hvr⟩⟩;exact z740z):p:=h
theorem UC(h:p:=by
 clear hx hn hh z0 z1 hvr;go_wp2;refine bodyPost_ret (v:=Ze #[Za #[I x.n,I x.z,Y4 Y5 x.c,Y4 Y5 x.s,Y4 Y5 x.u,Y7 x.d,J va vl vc],Y7 Y_]) (by simp[results,Tryz.results18,go_sem, *]) rfl ⟨?_,HI.2⟩;exact Ps):p:=h
theorem UB(h:p:=by
 clear c0 c1 c2 c3 c4 c5 c6 hat hx hn hy hh z0 z1 hvr HR HRW hb1;obtain⟨j,hjj⟩:∃j,pl Nd.n xs t=j:=⟨_,rfl⟩;rw[hjj] at hj;simp only[hjj] at*;clear hjj;go_wp2;refine bodyPost_ret (v:=Ze #[Za #[I x.n,I x.z,Y4 Y5 x.c,Y4 Y5 x.s,Y4 Y5 x.u,Y7 x.d,J va vl vc],Y7 Y_]) (by simp[results,Tryz.results41,go_sem, *]) rfl ⟨?_,HI.2⟩;exact ah (Ye _) (ah (Ye _) (ah (Ye _) (ah (Ye _) (ah (Ye _) (ah (Ye _) (ah (Ye _) (HB.out)))))))):p:=h
theorem ym(h:p:=by
 have HI:Hid (QM xs t r w (Y9 (Ze #[Za #[I x.n,I x.z,Y4 Y5 x.c,Y4 Y5 x.s,Y4 Y5 x.u,Y7 x.d,J va vl vc],Y7 Y_])) w):=⟨Yh _ _,Zc ⟨hh,x,va,vl,vc,hx,hn,rfl,z0,z1,hvr⟩⟩;exact z743z):p:=h
theorem Uu(h:p:=by
 obtain⟨i,m,e1,e2,_⟩:=(h.1 k v HXv.out) kq t HXt.out;have:=(a_ HNR.out e1 e2).2;rw[HH.out] at this;cases this):p:=h
theorem Ut(h:p:=by
 obtain⟨i,m2,e1,e2,e3⟩:=(h.1 k v HXv.out) kq t HXt.out;obtain⟨_,rfl⟩:=HNR.inj e1 HXm.out (e2.trans HNm.symm);exact HZ.out e3):p:=h
theorem yh(h:p:=by
 obtain⟨k0,k1,k2,k3,k4,k5⟩:=cs6 Bk;obtain⟨v0,v1,v2,v3,v4,v5,v6,v7⟩:=cs8 Bv;have ltv_1:=ae Bv.out;go_wp2;go_ret;refine ar.f (λh=>?_) (HB.alloc HB.size _);exact z755z):p:=h
theorem Us(h:p:=by
 clear hx hn hh z0 z2 z4;go_wp2;refine bodyPost_ret (v:=Ze #[Za #[I x.n,Y4 Y5 x.z,I x.k,Y7 x.x,I x.v],Y7 Y_]) (by simp[results,Tryz.results152,go_sem, *]) rfl ⟨?_,HI.2⟩;exact Pf):p:=h
theorem Ur(h:p:=by
 clear c0 c1 c2 c3 c4 hat hx hn hy hh z0 z2 z4 HR HRW hb1;obtain⟨j,hjj⟩:∃j,pl Xd.n xs t=j:=⟨_,rfl⟩;rw[hjj] at hj;simp only[hjj] at*;clear hjj;go_wp2;refine bodyPost_ret (v:=Ze #[Za #[I x.n,Y4 Y5 x.z,I x.k,Y7 x.x,I x.v],Y7 Y_]) (by simp[results,Tryz.results161,go_sem, *]) rfl ⟨?_,HI.2⟩;exact ah (Ye _) (ah (Ye _) (ah (Ye _) (ah (Ye _) (ah (Ye _) (HB.out)))))):p:=h
theorem yg(h:p:=by
 have HI:Hid (QK xs t r w (Y9 (Ze #[Za #[I x.n,Y4 Y5 x.z,I x.k,Y7 x.x,I x.v],Y7 Y_])) w):=⟨Yh _ _,Zc ⟨hh,x,hx,hn,rfl,z0,z2,z4⟩⟩;exact z758z):p:=h
theorem Un(h:p:=by
 have e4:=hf 4 ag;simp[Gi.aj,Yf] at e4;clear hf;go_simp;refine (qg d.a1 d.l1 d.c1 c.ns _ (HR.n.below (HB.trans (Below.mono hW HB.size))) (by have:=HS.n;omega) HS.ns).mono ?_;exact vN):p:=h
theorem Ul(h:p:=by
 have e7:=hf 7 ag;simp[Gi.aj,Yf] at e7;clear hf;cases hq:d.a2 with
 | none=>
  have h0:c.ks=[]:=by
   rcases HR.k.2.2.2 with h|⟨b,o,e,_⟩
   ·have h9:c.ks.map kdF=[]:=h
    simpa using h9
   ·rw[hq] at e;cases e
  have hl0:d.l2=0:=by rw[<-hl2,h0];rfl
  rw[hq,hl0] at e7;go_simp;refine hK _ _ (Yh _ _) ⟨U,0,by rw[hl0],?_,Below.size hW⟩;rw[hl0,h0];exact aw.nil _ _ _ _ _ af
 | some ad=>
  rw[hq] at e7;have hin:=HR.k.below (HB.trans (Below.mono hW HB.size));have hin2:aT wg d.a2 d.l2 d.c2 4 (c.ks.map kdF):=hin;rw[hq] at hin2
  have hz:i2.zero=Y3 (Za #[I ⟨#[]⟩,Y7 Y8,Y7 Y8,I ⟨#[]⟩])/\i2.size=4/\i2.bytes=40:=by have:=HI2.2;simp only[Prod.mk.injEq] at this;exact this
  refine xo _ (.tmp 7) 24 92 rfl i2 (Za #[I ⟨#[]⟩,Y7 Y8,Y7 Y8,I ⟨#[]⟩]) 4 40 Tryz.underlying24 HI2.1 hz.1 hz.2.1 hz.2.2 rfl ag ag wg.heap.size (J U 0 0) rfl (World.ownsRow_nil _ _ _ _) (Ye _) (by simpa[Act.eval] using e7) hin2 (jO Ah _) (by have:=HS.k;omega) ag ?_;intro a' c' w' hR hg;exact hK _ _ ((Yh _ _).grown hg (Ye _) (λk hk=>by cases hk)) ⟨a',c',rfl,hR,Below.size hW⟩):p:=h
theorem Uk(h:p:=by
 have e10:=hf 10 ag;simp[Gi.aj,Yf] at e10;clear hf;go_simp;refine (qe d.a3 d.l3 d.c3 c.vs _ (HR.v.below (HB.trans (Below.mono hW HB.size))) (by have:=HS.v;omega) HS.vs).mono ?_;exact vN):p:=h
theorem Uj(h:p:=by
 have e13:=hf 13 ag;simp[Gi.aj,Yf] at e13;clear hf;cases hq:d.a4 with
 | none=>
  have h0:c.xs=[]:=by
   rcases HR.x.2.2.2 with h|⟨b,o,e,_⟩
   ·have h9:c.xs.map xdF=[]:=h
    simpa using h9
   ·rw[hq] at e;cases e
  have hl0:d.l4=0:=by rw[<-hl4,h0];rfl
  rw[hq,hl0] at e13;go_simp;refine hK _ _ (Yh _ _) ⟨U,0,by rw[hl0],?_,Below.size hW⟩;rw[hl0,h0];exact aw.nil _ _ _ _ _ af
 | some ad=>
  rw[hq] at e13;have hin:=HR.x.below (HB.trans (Below.mono hW HB.size));have hin2:aT wg d.a4 d.l4 d.c4 5 (c.xs.map xdF):=hin;rw[hq] at hin2
  have hz:i4.zero=Y3 (Za #[I ⟨#[]⟩,Y4 Y5 0,I ⟨#[]⟩,Y7 Y8,I ⟨#[]⟩])/\i4.size=5/\i4.bytes=64:=by have:=HI4.2;simp only[Prod.mk.injEq] at this;exact this
  refine xo _ (.tmp 13) 26 97 rfl i4 (Za #[I ⟨#[]⟩,Y4 Y5 0,I ⟨#[]⟩,Y7 Y8,I ⟨#[]⟩]) 5 64 Tryz.underlying26 HI4.1 hz.1 hz.2.1 hz.2.2 rfl ag ag wg.heap.size (J U 0 0) rfl (World.ownsRow_nil _ _ _ _) (Ye _) (by simpa[Act.eval] using e13) hin2 (jO xj _) (by have:=HS.x;omega) ag ?_;intro a' c' w' hR hg;exact hK _ _ ((Yh _ _).grown hg (Ye _) (λk hk=>by cases hk)) ⟨a',c',rfl,hR,Below.size hW⟩):p:=h
theorem Ui(h:p:=by
 have e16:=hf 16 ag;simp[Gi.aj,Yf] at e16;clear hf;go_simp;refine (qf d.a5 d.l5 d.c5 c.ps _ (HR.p.below (HB.trans (Below.mono hW HB.size))) (by have:=HS.p;omega) HS.ps).mono ?_;exact vN):p:=h
theorem jf(h:p:=by
 refine Gi.Obl.plain rfl ?_;intro ac wg K lo hi hsz hW hpr hf hap hK;clear hsz hpr hap;exact z765z):p:=h
theorem T6(h:p:=by
 clear hx hn hh z0 z3;go_wp2;refine bodyPost_ret (v:=Ze #[Za #[I x.n,Y7 x.x,Y7 x.y,I x.z],Y7 Y_]) (by simp[results,Tryz.results151,go_sem, *]) rfl ⟨?_,HI.2⟩;exact OY):p:=h
theorem T5(h:p:=by
 clear c0 c1 c2 c3 hat hx hn hy hh z0 z3 HR HRW hb1;obtain⟨j,hjj⟩:∃j,pl Kd.n xs t=j:=⟨_,rfl⟩;rw[hjj] at hj;simp only[hjj] at*;clear hjj;go_wp2;refine bodyPost_ret (v:=Ze #[Za #[I x.n,Y7 x.x,Y7 x.y,I x.z],Y7 Y_]) (by simp[results,Tryz.results160,go_sem, *]) rfl ⟨?_,HI.2⟩;exact ah (Ye _) (ah (Ye _) (ah (Ye _) (ah (Ye _) (HB.out))))):p:=h
theorem yb(h:p:=by
 have HI:Hid (QN xs t r w (Y9 (Ze #[Za #[I x.n,Y7 x.x,Y7 x.y,I x.z],Y7 Y_])) w):=⟨Yh _ _,Zc ⟨hh,x,hx,hn,rfl,z0,z3⟩⟩;exact z786z):p:=h
theorem S7(h:p:=by
 clear hat hx z0 z1 hvr;obtain⟨GK,GR,HW⟩:=agq;obtain⟨k0,k1,k2,k3,k4,k5⟩:=sl6 GK;obtain⟨r0,r1,r2,r3,r4,r5⟩:=sl6 GR;have hne0:=Wd.ne (wr.alloc (Y6 (nov n va vl vc) 38));have HC:=aa (λq:Wd (wr.alloc (Y6 (nov n va vl vc) 38))=>p_ ⟨(Y3 ⟨b,o,U⟩),l1,y1,a2,l2,y2,a3,l3,y3,a4,l4,y4,a5,l5,y5⟩ c.now c.ps n.n q.w (HR.p.below (HW.trans (q.b.mono HW.size))) HL5.out HPC.out);have z53z:=@aa _ @afl;exact aC):p:=h
theorem S6(h:p:=by
 clear hat hx z0 z1 hvr;obtain⟨GK,GR,HW⟩:=agq;obtain⟨k0,k1,k2,k3,k4,k5⟩:=sl6 GK;have r0:=λq:Wd (wr.alloc (Y6 (nov n va vl vc) 38))=>q.slot (o:=0) GR.out rfl;have r3:=λq:Wd (wr.alloc (Y6 (nov n va vl vc) 38))=>q.slot (o:=3) GR.out rfl;have hne0:=Wd.ne (wr.alloc (Y6 (nov n va vl vc) 38));have HC:=aa (λq:Wd (wr.alloc (Y6 (nov n va vl vc) 38))=>nt ⟨(Y3 ⟨b,o,U⟩),l1,y1,a2,l2,y2,a3,l3,y3,a4,l4,y4,a5,l5,y5⟩ c.now c.vs n.n q.w (HR.v.below (HW.trans (q.b.mono HW.size))) HL3.out);have z53z:=@aa _ @afk;exact aC):p:=h
theorem S5(h:p:=by
 have HTn:=aa hvr;clear hat hx z0 z1 hvr;have z1237z:=@aa _ @JL;exact gK):p:=h
theorem SW(h:p:=by
 refine (cH s 0 8 _).mono ?_;have z1268z:=@aa _ @Jm;exact jD):p:=h
theorem SU(h:p:=by
 refine (dV v _ hv).mono ?_;exact Oi):p:=h
theorem SS(h:p:=by
 refine (fV a len cap zs 3 _ (HR.below (ak _ _))).mono ?_;have z1268z:=@aa _ @Jl;exact jD):p:=h
theorem Sp(h:p:=by
 have z1237z:=@aa _ @JK;exact gK):p:=h
theorem So(h:p:=by
 by_cases hp2:p.p=2;rotate_left
 ·have HP2:=aa hp2;have z373z:=@aa _ @Pb;exact zg
 have HP2:=aa hp2;rw[hp2] at c5;clear hp2;have z1237z:=@aa _ @JJ;exact gK):p:=h
theorem xU(h:p:=by
 have z1249z:=@aa _ @JC;exact sM):p:=h
theorem RX(h:p:=by
 replace HB:=upB HB hbx;clear hb2 hbx HA0;clear hb c0 c1 c2 c3 c4 c5 c6 c7;rcases hf with ⟨hh,rfl⟩|⟨hh,T,q,rfl⟩;rotate_left
 ·have HH:=aa hh;clear hh;obtain⟨k0,k1,k2,k3,k4,k5⟩:=cs6 Bk;obtain⟨r0,r1,r2,r3,r4,r5,r6,r7⟩:=cs8 Br;go_wp2;go_ret;exact ar.f (λh=>HH.out (h.1 k v HXv.out).1) HB.out
 have HH:=aa hh;clear hh;by_cases he:v.m=⟨#[]⟩
 ·have hq:=cN he;have HEm:=aa he;clear he;obtain⟨k0,k1,k2,k3,k4,k5⟩:=cs6 Bk;obtain⟨r0,r1,r2,r3,r4,r5,r6,r7⟩:=cs8 Br;have z162z:=@aa _ @ael;exact cS
 ·have hq:=aX he;have HEm:=aa he;clear he;obtain⟨k0,k1,k2,k3,k4,k5⟩:=cs6 Bk;obtain⟨r0,r1,r2,r3,r4,r5,r6,r7⟩:=cs8 Br;go_wp2_with fail;refine (oM ⟨a1,l1,y1,a2,l2,y2,(Y3 ⟨b,o,U⟩),l3,y3,a4,l4,y4,a5,l5,y5⟩ c v.m v.n _ (HR.below HB.out) HXR.out HVR.out).mono ?_;rintro e w2 ⟨r,rfl,hi,hb3⟩;clear k0 k1 k2 k3 k4 k5 r0 r1 r2 r3 r4 r5 r6 r7;replace Bk:=upK Bk hb3;replace Br:=upK Br hb3;replace HB:=upB HB hb3;clear hb3;have HI:=aa hi;clear hi;cases r
  ·go_wp2;go_ret;refine ar.f (λh=>?_) HB.out;rcases (h.1 k v HXv.out).2 with h2|h2
   ·exact HEm.out h2
   ·have:=HI.2 h2;cases this
  ·have z162z:=@aa _ @aek;exact cS):p:=h
theorem RW(h:p:=by
 replace HB:=upB HB hbx;clear hb2 hbx HA0;clear hb c0 c1 c2 c3 c4;rcases hf with ⟨hh,rfl⟩|⟨hh,T,q,rfl⟩;rotate_left
 ·have HH:=aa hh;clear hh;obtain⟨k0,k1,k2,k3,k4,k5⟩:=cs6 Bk;obtain⟨r0,r1,r2,r3,r4⟩:=cs5 Br;go_wp2;go_ret;exact ar.f (λh=>HH.out (h.2 k x HXx.out).1) HB.out
 have HH:=aa hh;clear hh;by_cases he:x.v=⟨#[]⟩
 ·have hq:=cN he;have HEm:=aa he;clear he;obtain⟨k0,k1,k2,k3,k4,k5⟩:=cs6 Bk;obtain⟨r0,r1,r2,r3,r4⟩:=cs5 Br;have z162z:=@aa _ @aej;exact cS
 ·have hq:=aX he;have HEm:=aa he;clear he;obtain⟨k0,k1,k2,k3,k4,k5⟩:=cs6 Bk;obtain⟨r0,r1,r2,r3,r4⟩:=cs5 Br;go_wp2_with fail;refine (oM ⟨a1,l1,y1,a2,l2,y2,a3,l3,y3,(Y3 ⟨b,o,U⟩),l4,y4,a5,l5,y5⟩ c x.n x.v _ (HR.below HB.out) HXR.out HVR.out).mono ?_;rintro e w2 ⟨r,rfl,hi,hb3⟩;clear k0 k1 k2 k3 k4 k5 r0 r1 r2 r3 r4;replace Bk:=upK Bk hb3;replace Br:=upK Br hb3;replace HB:=upB HB hb3;clear hb3;have HI:=aa hi;clear hi;cases r
  ·go_wp2;go_ret;refine ar.f (λh=>?_) HB.out;rcases (h.2 k x HXx.out).2 with h2|h2
   ·exact HEm.out h2
   ·have:=HI.2 h2;cases this
  ·have z162z:=@aa _ @aei;exact cS):p:=h
theorem Q_(h:p:=by
 have ltp_1:=ae Bp.out;go_wp2;go_loopw [35] (λi wr=> ∃k:Nat,k<=pl/\i=Y4 Y5 k/\Hid (∀(j:Nat) t,j<k->p.zs[j]?=Y3 t->∃v,aY c t v/\v.z=n.z)/\Hid (Below w.heap.size w wr)/\Hid (wr.heap[w.heap.size]?=Y3 (Y6 (clv d c.now) 29 (0,0)))/\Hid (wr.heap[w1.heap.size]?=Y3 (Y6 (nov n va vl vc) 38 (0,0)))) (λi _=>pl - (intOf i).toNat);case atStart=>exact⟨0,by omega,rfl,λ_ _ h=>absurd h af,HB.alloc HB.size _,(Ym _ _ _ (ae Bk.out)).trans Bk.out,Yg⟩
 case round=>
  obtain⟨k,hk,rfl,HQ,HB,Bk,Bn⟩:=hrel;by_cases hlt:k<pl
  ·have z241z:=@aa _ @adh;exact zz
  ·exact Om):p:=h
theorem Q9(h:p:=by
 have ltp_1:=ae Bp.out;go_wp2;exact z314z):p:=h
theorem Q8(h:p:=by
 have ltp_1:=ae Bp.out;go_wp2;go_loopw [27] (λi wr=> ∃k:Nat,k<=pl/\i=Y4 Y5 k/\Hid (∀(j:Nat) t,j<k->p.zs[j]?=Y3 t->∃v,aY c t v/\InL n.zs v.n)/\Hid (Below w.heap.size w wr)/\Hid (wr.heap[w.heap.size]?=Y3 (Y6 (clv d c.now) 29 (0,0)))/\Hid (wr.heap[w1.heap.size]?=Y3 (Y6 #[I n.n,I n.z,Y4 Y5 n.c,Y4 Y5 n.s,Y4 Y5 n.u,Y7 Y8,J va vl vc] 38 (0,0)))) (λi _=>pl - (intOf i).toNat);case atStart=>exact⟨0,by omega,rfl,λ_ _ h=>absurd h af,HB.alloc HB.size _,(Ym _ _ _ (ae Bk.out)).trans Bk.out,Yg⟩
 case round=>
  obtain⟨k,hk,rfl,HQ,HB,Bk,Bn⟩:=hrel;by_cases hlt:k<pl
  ·have z241z:=@aa _ @adi;exact zz
  ·exact Om):p:=h
theorem MO(h:p:=by
 have HX:=aa hx;have HC:=aa (λv:World=>eB x va vl vc v);have HB1:=aa (HB.alloc HB.size (Y6 (pov x va vl vc) 40));have HRt:=aa (qY x va vl vc (wr.alloc (Y6 (pov x va vl vc) 40)) z0 z2 z4 (hvr.below (ak _ _)));clear hat hx z0 z2 z4 hvr;have z674z:=@aa _ @Vr;exact ji):p:=h
theorem MN(h:p:=by
 have HX:=aa hx;clear hat hx z0 z2 z4 hvr;have HC:=aa (λv:World=>eB x va vl vc v);have HB1:=aa (HB.alloc HB.size (Y6 (pov x va vl vc) 40));have z683z:=@aa _ @Vk;exact jh):p:=h
theorem MM(h:p:=by
 have hvk:vss[k]?=Y3 [I x.n,Y4 Y5 x.c,I x.z,J va vl vc,I x.d,Y4 Y5 x.p]:=by
  have hkv:k<vss.length:=af
  have h1:=Yi hkv;have hoz:o=0:=by
   have h2:0<(vss[k]).length:=by rw[HV.all k _ h1];decide
   obtain⟨g,e,_,_⟩:=HC.out _ _ (fY HV.all h1 (Yi h2));cases e;rfl
  subst hoz;have hc2:∀(j:Nat) u,vss.flatten[j]?=Y3 u->w.cell? ⟨b,j,U⟩=Y3 u:=λj u hj=>by
   obtain⟨g,e,_,h3⟩:=HC.out j u hj;cases e;exact h3
  rw[h1];refine congrArg Y3 (BH (HV.all k _ h1) (h_ HV.out hc2 h1 ag (by simpa using c0)) (h_ HV.out hc2 h1 ag (by simpa using c1)) (h_ HV.out hc2 h1 ag (by simpa using c2)) (h_ HV.out hc2 h1 ag (by simpa using c3)) (h_ HV.out hc2 h1 ag (by simpa using c4)) (h_ HV.out hc2 h1 ag (by simpa using c5)))
 have HX:=aa hx;have HVK:=aa hvk;replace c0:=(ai HB.out hb).trans c0;replace c1:=(ai HB.out hb).trans c1;replace c2:=(ai HB.out hb).trans c2;replace c3:=(ai HB.out hb).trans c3;replace c4:=(ai HB.out hb).trans c4;replace c5:=(ai HB.out hb).trans c5;clear hat hx hvk hvr z0 z2 z4;have hn8:=nU Pd.n t (xs.take k);have hn9:(wo Pd.n t (xs.take k)).length<=k:=by rw[YG] at hn8;omega
 go_wp2_with fail;refine (eB x va vl vc _).mono ?_;rintro e w1 ⟨rfl,hb1⟩;obtain⟨hn1,hbx⟩:=bB hb1;obtain⟨n0,n1,n2,n3,n4,n5⟩:=cs6 hn1;have hs1:=ae hn1;have HO1:=aa (cA HO.out hbx);have HB1:=aa (HB.trans (hbx.mono hBs));clear hb1 hbx hn1 c0 c1 c2 c3 c4 c5;cases hq:(x.n.toList==t.toList)
 ·have hq2:(x.n.toList !=t.toList)=Y_:=by simp[bne,hq]
  go_wp2_with (first|(at_builtin;refine wpList_append_own _ rfl _ _ 82 rfl w.heap.size 40 i0 (Za #[I ⟨#[]⟩,Y4 Y5 0,I ⟨#[]⟩,J U 0 0,I ⟨#[]⟩,Y4 Y5 0]) 6 88 Tryz.underlying82 HI0.1 HI0.2.1 HI0.2.2.1 HI0.2.2.2 rfl ag _ _ _ rfl (HO1.alloc _) ⟨w1.heap.size,0,U⟩ 1 1 [I x.n,Y4 Y5 x.c,I x.z,J va vl vc,I x.d,Y4 Y5 x.p] rfl rfl ?c1 ?c2 ?c3 ?c4 ?c5 ?_));case c1=>exact eP _ _ _
  case c2=>intro u hu;simp only[List.mem_cons,List.not_mem_nil,or_false] at hu;rcases hu with rfl|rfl|rfl|rfl|rfl|rfl <;> rfl
  case c3=>unfold maxLen;omega
  case c4=>omega
  case c5=>simp;omega
  rintro v' w3 hown3 hgrow -;have HO3:Hid (w3.ownsRow w.heap.size 40 6 v' (wo Pd.n t (xs.take (k+1))).length (ws++([[I x.n,Y4 Y5 x.c,I x.z,J va vl vc,I x.d,Y4 Y5 x.p]]:List (List Value))).flatten):=by
   show World.ownsRow _ _ _ _ _ _ _;rw[uJ HX.out hq,List.length_append,List.flatten_append];simpa using hown3
  have hF:=HF.push HX.out HVK.out;rw[<-uJ HX.out hq] at hF;have HF3:=aa hF;have HB3:=aa ((HB1.trans ((ak _ _).mono HB1.size)).grown hgrow bJ (λg hg=>(HO1.lt g hg).1));clear hown3 hgrow hF;go_wp2;exact⟨⟨k+1,_,_,by omega,by go_num,HO3,HF3,HB3⟩,by simp[intOf];omega⟩
 ·have hq2:(x.n.toList !=t.toList)=Y8:=by simp[bne,hq]
  have HF3:=aa HF.up;rw[<-af7 HX.out hq] at HF3 HO1;go_wp2;exact⟨⟨k+1,ws,f,by omega,by go_num,HO1,HF3,HB1⟩,by simp[intOf];omega⟩):p:=h
theorem ML(h:p:=by
 obtain⟨hbw,e0,e1,e2,e3⟩:=tM;obtain⟨e4,e5⟩:=M7;have HI:Hid (ahm xs t r w (Y9 (Ze #[Za #[I x.n,Y4 Y5 x.c,I x.z,J va vl vc,I x.d,Y4 Y5 x.p],Y7 Y_])) w):=⟨Yh _ _,Zc ⟨hh,x,va,vl,vc,hx,hn,rfl,z0,z2,z4,hvr⟩⟩;clear c0 c1 c2 c3 c4 c5 hat hx hn hy hh z0 z2 z4 hvr HR HRW hb1;obtain⟨j,hjj⟩:∃j,pl Pd.n xs t=j:=⟨_,rfl⟩;rw[hjj] at hj;simp only[hjj] at*;clear hjj;go_wp2;refine bodyPost_ret (v:=Ze #[Za #[I x.n,Y4 Y5 x.c,I x.z,J va vl vc,I x.d,Y4 Y5 x.p],Y7 Y_]) (by simp[results,Tryz.results39,go_sem, *]) rfl ⟨?_,HI.2⟩;exact ah (Ye _) (ah (Ye _) (ah (Ye _) (ah (Ye _) (ah (Ye _) (ah (Ye _) (HB.out))))))):p:=h
theorem MK(h:p:=by
 have HX:=aa hx;have hpc:=HP.out k p hx;clear hat hx z0 z2 z4 hvr;by_cases hn:p.d=t
 ·have hq:=aP hn;have HN:=aa hn;clear hn;go_wp2;refine⟨⟨k+1,s+p.c,by omega,by go_num,by go_num,?_,by omega,by omega,HB.alloc HB.size _⟩,by simp[intOf];omega⟩;show _=_;rw[f_ HX.out,if_pos HN.out,<-HS.out]
 ·have hq:=bA hn;have HN:=aa hn;clear hn;go_wp2;refine⟨⟨k+1,s,by omega,rfl,by go_num,?_,by omega,by omega,HB.alloc HB.size _⟩,by simp[intOf];omega⟩;show _=_;rw[f_ HX.out,if_neg HN.out,<-HS.out,Int.add_zero]):p:=h
theorem MJ(h:p:=by
 have HX:=aa hx;have HT:=aa hvr;clear hat hx z0 z2 z4 hvr;have skip:(p.d=⟨#[]⟩\/¬InL p.zs t)->∀(j:Nat) q,j<k+1->c.ps[j]?=Y3 q->¬q.d=⟨#[]⟩->InL q.zs t->q.d=s:=by
  intro h j q hj hq h1 h2;by_cases e:j=k
  ·subst e;rw[HX.out] at hq;obtain rfl:=Yd hq;rcases h with h|h
   ·exact absurd h h1
   ·exact absurd h2 h
  ·exact HQ.out j q af hq h1 h2
 have SK:=aa skip;clear skip;have keepS:s=⟨#[]⟩\/∃(j:Nat) (p:Pd),j<k+1/\c.ps[j]?=Y3 p/\¬p.d=⟨#[]⟩/\InL p.zs t/\p.d=s:=HS.imp id (λ⟨j,p,h1,h2⟩=>⟨j,p,by omega,h2⟩);have KS:=aa keepS;clear keepS;by_cases he:p.d=⟨#[]⟩
 ·have hq:=cN he;have HEm:=aa he;clear he;go_wp2;exact⟨⟨k+1,s,by omega,rfl,by go_num,SK.out (Zc HEm.out),KS.out,HB.alloc HB.size _⟩,by simp[intOf];omega⟩
 ·have hq:=aX he;have HEm:=aa he;clear he;go_wp2_with fail;refine (dY va vl vc p.zs t _ (HT.below (ak _ _))).mono ?_;rintro e w1 ⟨r,rfl,hi,hb2⟩;obtain⟨HA0,hbx⟩:=bB hb2;have Br:=aa HA0;replace HB:=upB HB hbx;clear hb2 hbx HA0;have HI:=aa hi;clear hi c0 c1 c2 c3 c4 c5 hb;cases r
  ·obtain⟨r0,r1,r2,r3,r4,r5⟩:=cs6 Br;go_wp2;exact⟨⟨k+1,s,by omega,rfl,by go_num,SK.out (Zb (λh=>by have:=HI.2 h;cases this)),KS.out,HB.out⟩,by simp[intOf];omega⟩
  ·have HIn:=aa (HI.1 bX);clear HI;by_cases hs:s=⟨#[]⟩
   ·have hq2:=cN hs;have HSe:=aa hs;clear hs;have z396z:=@aa _ @abm;exact y9
   ·have hq2:=aX hs;have HSe:=aa hs;clear hs;by_cases hd:p.d=s
    ·have hq3:=aP hd;have HD:=aa hd;clear hd;have z396z:=@aa _ @abl;exact y9
    ·have hq3:=bA hd;have HD:=aa hd;clear hd;obtain⟨r0,r1,r2,r3,r4,r5⟩:=cs6 Br;go_wp2;go_ret;refine ar.f (λh=>?_) HB.out;rcases HS.out with h1|⟨j,q,h1,h2,h3,h4,h5⟩
     ·exact HSe.out h1
     ·exact HD.out ((h k j p q HX.out h2 HEm.out h3 HIn.out h4).trans h5)):p:=h
theorem MI(h:p:=by
 obtain⟨hz8,HX,HT,HZz0⟩:=vj;have HZz2:=aa z2;have HZz4:=aa z4;clear hat hx hvr z0 z2 z4;go_wp2_with fail;refine (nu x va vl vc _ (HT.below (ak _ _)) hz8).mono ?_;have z1318z:=@aa _ @IK;exact mG):p:=h
theorem Mg(h:p:=by
 by_cases e:j=k
 ·subst e;rw[HXt.out] at hs;obtain rfl:=Yd hs;exact⟨_,v,HXv.out,HNv.out,Zc HD.out⟩
 ·exact HQ.out j s af hs):p:=h
theorem Mf(h:p:=by
 by_cases e:j=k
 ·subst e;rw[HXt.out] at hs;obtain rfl:=Yd hs;exact⟨v,HD.out,HZ2.out⟩
 ·exact HQ.out j s af hs):p:=h
theorem tm(h:p:=by
 refine⟨⟨k+1,by omega,by go_num,λj s hj hs=>?_,(HB.alloc HB.size _),(Ym _ _ _ (ae Bk.out)).trans Bk.out,(Ym _ _ _ (ae Bn.out)).trans Bn.out⟩,by simp[intOf];omega⟩;exact z1054z):p:=h
theorem Me(h:p:=by
 refine (vd _ _ _ c.xs 8 _ (HR.x.below HB.out)).mono ?_;rintro e w4 ⟨r,rfl,hi,hb⟩;have z1257z:=@aa _ @Ju;exact fz):p:=h
theorem Md(h:p:=by
 refine (uw d c _ (HR.below HB.out) HOK.1.2.2 HOK.2.2.2.1.2.2 HOK.2.2.1.2.2 HOK.ne (by have:=HOK.2.2.2.2.1;omega) HOK.cpu (HE.below HB.out)).mono ?_;rintro e w4 ⟨r,rfl,hi,hb⟩;have z1257z:=@aa _ @Jt;exact fz):p:=h
theorem tl(h:p:=by
 rintro e w3 ⟨r,rfl,hi,hb⟩;have z1257z:=@aa _ @Js;exact fz):p:=h
theorem Mc(h:p:=by
 clear g1 hb HR HRW;rcases hf with ⟨hh,x,va,vl,vc,hx,hn,rfl,z0,z1,hvr⟩|⟨hh,rfl⟩
 ·have z743z:=@aa _ @UC;exact ym
 ·have HH:=aa hh;clear hh;go_wp2;refine bodyPost_ret (v:=Ze #[Za #[I ⟨#[]⟩,I ⟨#[]⟩,Y4 Y5 0,Y4 Y5 0,Y4 Y5 0,Y7 Y8,J U 0 0],Y7 Y8]) (by simp[results,Tryz.results18,go_sem, *]) rfl ⟨?_,Zb ⟨HH.out,rfl⟩⟩;exact Ps):p:=h
theorem Mb(h:p:=by
 clear g1 hb HR HRW;rcases hf with ⟨hh,x,hx,hn,rfl,z0,z3⟩|⟨hh,rfl⟩
 ·have z786z:=@aa _ @T6;exact yb
 ·have HH:=aa hh;clear hh;go_wp2;refine bodyPost_ret (v:=Ze #[Za #[I ⟨#[]⟩,Y7 Y8,Y7 Y8,I ⟨#[]⟩],Y7 Y8]) (by simp[results,Tryz.results151,go_sem, *]) rfl ⟨?_,Zb ⟨HH.out,rfl⟩⟩;exact OY):p:=h
theorem Ma(h:p:=by
 clear g1 hb HR HRW;rcases hf with ⟨hh,x,va,vl,vc,hx,hn,rfl,z0,z2,z3,z5,hvr⟩|⟨hh,rfl⟩
 ·have z740z:=@aa _ @UD;exact yo
 ·have HH:=aa hh;clear hh;go_wp2;refine bodyPost_ret (v:=Ze #[Za #[I ⟨#[]⟩,Y4 Y5 0,I ⟨#[]⟩,I ⟨#[]⟩,Y7 Y8,I ⟨#[]⟩,Y7 Y8,J U 0 0],Y7 Y8]) (by simp[results,Tryz.results153,go_sem, *]) rfl ⟨?_,Zb ⟨HH.out,rfl⟩⟩;exact PC):p:=h
theorem L_(h:p:=by
 clear g1 hb HR HRW;rcases hf with ⟨hh,x,hx,hn,rfl,z0,z2,z4⟩|⟨hh,rfl⟩
 ·have z758z:=@aa _ @Us;exact yg
 ·have HH:=aa hh;clear hh;go_wp2;refine bodyPost_ret (v:=Ze #[Za #[I ⟨#[]⟩,Y4 Y5 0,I ⟨#[]⟩,Y7 Y8,I ⟨#[]⟩],Y7 Y8]) (by simp[results,Tryz.results152,go_sem, *]) rfl ⟨?_,Zb ⟨HH.out,rfl⟩⟩;exact Pf):p:=h
theorem fC(h:p:=by
 have HB:Hid (Below w.heap.size w w1):=(aR _ _ _).trans (hb.mono bJ);exact z1060z):p:=h
theorem L7(h:p:=by
 obtain⟨hz8,HX,HT,HZz0⟩:=vj;have HZz1:=aa z1;clear hat hx hvr z0 z1;go_wp2_with fail;refine (wC x va vl vc _ (HT.below (ak _ _)) hz8).mono ?_;have z1318z:=@aa _ @IJ;exact mG):p:=h
theorem L6(h:p:=by
 have HX:=aa hx;clear hat hx z0 z1 hvr;have HC:=aa (λv:World=>jY x va vl vc v);have HB1:=aa (HB.alloc HB.size (Y6 (nov x va vl vc) 38));have z683z:=@aa _ @Vo;exact jh):p:=h
theorem L5(h:p:=by
 have HX:=aa hx;have HC:=aa (λv:World=>jY x va vl vc v);have HB1:=aa (HB.alloc HB.size (Y6 (nov x va vl vc) 38));have HRt:=aa (qZ x va vl vc (wr.alloc (Y6 (nov x va vl vc) 38)) z0 z1 (hvr.below (ak _ _)));clear hat hx z0 z1 hvr;have z674z:=@aa _ @Vv;exact ji):p:=h
theorem mN(h:p:=by
 obtain⟨b,o,x,rfl,hb,hx,hat⟩:=dn (HR.below HB.out) hlt;obtain⟨va,vl,vc,hvr,z0,z1,c0,c1,c2,c3,c4,c5,c6⟩:=aZ hat;exact z1067z):p:=h
theorem L4(h:p:=by
 omega):p:=h
theorem L3(h:p:=by
 rw[aP e8] at q4;cases q4):p:=h
theorem L2(h:p:=by
 rw[e9] at q5;simp at q5):p:=h
theorem mM(h:p:=by
 obtain⟨_,rfl⟩:=HX.inj e1 HX1.out (e2.trans HN1.symm);obtain⟨_,rfl⟩:=HV.inj e3 HX2.out (e4.trans HN2.symm);exact z1071z):p:=h
theorem L1(h:p:=by
 go_enter Tryz.func127,Tryz.ntmps127;have z621z:=@aa _ @We;exact yE):p:=h
theorem L0(h:p:=by
 go_enter Tryz.func132,Tryz.ntmps132;have z621z:=@aa _ @Wb;exact yE):p:=h
theorem tk(h:p:=by
 have HR:=aa hr;have HN:=aa hn;obtain⟨HX,HV,HNE⟩:=iH;have HP:=aa hp;have hlc:=Yl hp.2.1 hp.2.2.1;have hzl:=hp.1;have HB:=aa (Yh w.heap.size w);clear hr hn hx hv hne hp;exact z1075z):p:=h
theorem LV(h:p:=by
 refine (fq d c.now c.vs t w _ HR.v HB.out).mono ?_;have z1373z:=@aa _ @Hw;exact sj):p:=h
theorem LU(h:p:=by
 refine (afE d c t w _ HR.out HB.out HX.out HV.out HNE.out).mono ?_;have z1373z:=@aa _ @Hv;exact sj):p:=h
theorem tg(h:p:=by
 obtain⟨b,o,t,rfl,hb,hx,hc,hsz⟩:=(HP.below HB.out).at hlt;have HXt:=aa hx;clear hx hsz;obtain⟨k0,k1,k2,k3,k4,k5⟩:=cs6 Bk;obtain⟨n0,n1,n2,n3,n4,n5,n6⟩:=cs7 Bn;go_wp2_with fail;exact z1084z):p:=h
theorem LS(h:p:=by
 have HG:=aa g1;have HI:=aa hrt;clear g1 hb1 HB1 HRt hrt c0 c1 c2 c3 c4 c5 c6 c7;have z260z:=@aa _ @ac0;exact jm):p:=h
theorem LR(h:p:=by
 clear g1 hb1 c0 c1 c2 c3 c4 c5 c6 c7 HB1;cases hless:Yk x.n.toList t.toList
 ·have z1350z:=@aa _ @Il;exact mD
 ·exact tR):p:=h
theorem tf(h:p:=by
 rw[show (wr.alloc (Y6 (vov x va vl vc) 95)).heap.size=wr.heap.size+1 from by simp] at hs1;obtain⟨HB2,d0,d1,d2,d3⟩:=oA;have d4:=ck4 g1;have d5:=ck5 g1;have d6:=ck6 g1;have d7:=ck7 g1;exact z1087z):p:=h
theorem LO(h:p:=by
 go_enter Tryz.func166,Tryz.ntmps166;go_wp2;go_loopw [10] (λi wr=> ∃k:Nat,k<=len/\i=Y4 Y5 k/\Hid (∀(j:Nat) y,j<k->xs[j]?=Y3 y->Yk y.n.toList t.toList=Y_)/\Hid (Below w.heap.size w wr)) (λi _=>len - (intOf i).toNat);case atStart=>exact⟨0,by omega,rfl,λj y hj=>by omega,Yh _ _⟩
 case round=>
  obtain⟨k,hk,rfl,HE,HB⟩:=hrel;by_cases hlt:k<len
  ·obtain⟨b,o,x,rfl,hb,hx,hat⟩:=eI (HR.below HB.out) hlt;obtain⟨z0,z2,z4,c0,c1,c2,c3,c4⟩:=cn hat;have HX:=aa hx;clear hat hx z0 z2 z4;have HC:=aa (λv:World=>jW x v);have HB1:=aa (HB.alloc HB.size (Y6 (xov x) 97));have z683z:=@aa _ @Vm;exact jh
  ·obtain rfl:k=len:=af
   have hp:pl Xd.n xs t=xs.length:=fU (λj y hy=>HE.out j y jI hy);have hh:hit Xd.n xs t=Y8:=by unfold hit;rw[hp,List.getElem?_eq_none (Ye _)]
   have HP:=aa hp;have HH:=aa hh;clear hp hh;go_wp2;exact bodyPost_ret (v:=Ze #[Y4 Y5 k,Y7 Y8]) (by simp[results,Tryz.results166,go_sem]) rfl ⟨by rw[HP.out,HH.out,hxl],HB.out⟩):p:=h
theorem LN(h:p:=by
 have hmright:∀(v:Value) (w:World),(method 340 97 v "loop.example/g00571/impl.right").run Tryz.prog w=.ok (207,v) w:=λ_ _=>by kernel_rfl
 by_cases hmo:most<(len:Int)
 ·go_enter Tryz.func122,Tryz.ntmps122;exact nh
 go_enter Tryz.func122,Tryz.ntmps122;go_wp2;go_loopw [5,14] (λq i wr=> ∃(k:Nat) (y:ByteArray),k<=len/\q=I y/\i=Y4 Y5 k/\Hid (k=0->y=⟨#[]⟩)/\Hid (∀z,0<k->xs[k - 1]?=Y3 z->z.n=y)/\Hid (∀(j:Nat) z,j<k->xs[j]?=Y3 z->gB z)/\Hid (∀(j:Nat) z u,j+1<k->xs[j+1]?=Y3 z->xs[j]?=Y3 u->Yk u.n.toList z.n.toList=Y_)/\Hid (Below w.heap.size w wr)) (λ_ i _=>len - (intOf i).toNat);case atStart=>exact⟨0,_,by omega,rfl,rfl,λ_=>rfl,λ_ h=>absurd h af,λ_ _ h=>absurd h af,λ_ _ _ h=>absurd h af,Yh _ _⟩
 case round=>
  obtain⟨k,y,hk,rfl,rfl,H0,H1,HE,HO,HB⟩:=hrel;by_cases hlt:k<len
  ·obtain⟨b,o,x,rfl,hb,hx,hat⟩:=eI (HR.below HB.out) hlt;obtain⟨z0,z2,z4,c0,c1,c2,c3,c4⟩:=cn hat;have HX:=aa hx;have HC:=aa (λv:World=>jW x v);have HB1:=aa (HB.alloc HB.size (Y6 (xov x) 97));have HRt:=aa (qW x (wr.alloc (Y6 (xov x) 97)) z0 z2 z4);clear hat hx z0 z2 z4;have z674z:=@aa _ @Vs;exact ji
  ·exact tS):p:=h
theorem td(h:p:=by
 obtain⟨HR,hxl,hlc⟩:=oB;clear hr;have hmcalled:∀(v:Value) (w:World),(method 340 97 v "loop.example/g00571/impl.called").run Tryz.prog w=.ok (206,v) w:=λ_ _=>by kernel_rfl
 exact z1093z):p:=h
theorem LM(h:p:=by
 go_enter Tryz.func167,Tryz.ntmps167;go_wp2;go_loopw [10] (λi wr=> ∃k:Nat,k<=len/\i=Y4 Y5 k/\Hid (∀(j:Nat) y,j<k->xs[j]?=Y3 y->Yk y.n.toList t.toList=Y_)/\Hid (Below w.heap.size w wr)) (λi _=>len - (intOf i).toNat);case atStart=>exact⟨0,by omega,rfl,λj y hj=>by omega,Yh _ _⟩
 case round=>
  obtain⟨k,hk,rfl,HE,HB⟩:=hrel;by_cases hlt:k<len
  ·obtain⟨b,o,x,rfl,hb,hx,hat⟩:=cj (HR.below HB.out) hlt;have z278z:=@aa _ @acN;exact fS
  ·obtain rfl:k=len:=af
   have hp:pl Vd.n xs t=xs.length:=fU (λj y hy=>HE.out j y jI hy);have hh:hit Vd.n xs t=Y8:=by unfold hit;rw[hp,List.getElem?_eq_none (Ye _)]
   have HP:=aa hp;have HH:=aa hh;clear hp hh;go_wp2;exact bodyPost_ret (v:=Ze #[Y4 Y5 k,Y7 Y8]) (by simp[results,Tryz.results167,go_sem]) rfl ⟨by rw[HP.out,HH.out,hxl],HB.out⟩):p:=h
theorem LL(h:p:=by
 have hmright:∀(v:Value) (w:World),(method 340 95 v "loop.example/g00571/impl.right").run Tryz.prog w=.ok (203,v) w:=λ_ _=>by kernel_rfl
 by_cases hmo:most<(len:Int)
 ·go_enter Tryz.func121,Tryz.ntmps121;exact nh
 go_enter Tryz.func121,Tryz.ntmps121;go_wp2;go_loopw [5,14] (λq i wr=> ∃(k:Nat) (y:ByteArray),k<=len/\q=I y/\i=Y4 Y5 k/\Hid (k=0->y=⟨#[]⟩)/\Hid (∀z,0<k->xs[k - 1]?=Y3 z->z.n=y)/\Hid (∀(j:Nat) z,j<k->xs[j]?=Y3 z->qJ z)/\Hid (∀(j:Nat) z u,j+1<k->xs[j+1]?=Y3 z->xs[j]?=Y3 u->Yk u.n.toList z.n.toList=Y_)/\Hid (Below w.heap.size w wr)) (λ_ i _=>len - (intOf i).toNat);case atStart=>exact⟨0,_,by omega,rfl,rfl,λ_=>rfl,λ_ h=>absurd h af,λ_ _ h=>absurd h af,λ_ _ _ h=>absurd h af,Yh _ _⟩
 case round=>
  obtain⟨k,y,hk,rfl,rfl,H0,H1,HE,HO,HB⟩:=hrel;by_cases hlt:k<len
  ·obtain⟨b,o,x,rfl,hb,hx,hat⟩:=cj (HR.below HB.out) hlt;have z1689z:=@aa _ @CU;exact eM
  ·exact tS):p:=h
theorem s_(h:p:=by
 obtain⟨HR,hxl,hlc⟩:=oB;clear hr;have hmcalled:∀(v:Value) (w:World),(method 340 95 v "loop.example/g00571/impl.called").run Tryz.prog w=.ok (202,v) w:=λ_ _=>by kernel_rfl
 exact z1096z):p:=h
theorem LK(h:p:=by
 go_enter Tryz.func165,Tryz.ntmps165;go_wp2;go_loopw [10] (λi wr=> ∃k:Nat,k<=len/\i=Y4 Y5 k/\Hid (∀(j:Nat) y,j<k->xs[j]?=Y3 y->Yk y.n.toList t.toList=Y_)/\Hid (Below w.heap.size w wr)) (λi _=>len - (intOf i).toNat);case atStart=>exact⟨0,by omega,rfl,λj y hj=>by omega,Yh _ _⟩
 case round=>
  obtain⟨k,hk,rfl,HE,HB⟩:=hrel;by_cases hlt:k<len
  ·obtain⟨b,o,x,rfl,hb,hx,hat⟩:=gu (HR.below HB.out) hlt;obtain⟨z0,z3,c0,c1,c2,c3⟩:=dh hat;have HX:=aa hx;clear hat hx z0 z3;have HC:=aa (λv:World=>jZ x v);have HB1:=aa (HB.alloc HB.size (Y6 #[I x.n,Y7 x.x,Y7 x.y,I x.z] 92));have z683z:=@aa _ @Vn;exact jh
  ·obtain rfl:k=len:=af
   have hp:pl Kd.n xs t=xs.length:=fU (λj y hy=>HE.out j y jI hy);have hh:hit Kd.n xs t=Y8:=by unfold hit;rw[hp,List.getElem?_eq_none (Ye _)]
   have HP:=aa hp;have HH:=aa hh;clear hp hh;go_wp2;exact bodyPost_ret (v:=Ze #[Y4 Y5 k,Y7 Y8]) (by simp[results,Tryz.results165,go_sem]) rfl ⟨by rw[HP.out,HH.out,hxl],HB.out⟩):p:=h
theorem LJ(h:p:=by
 have hmright:∀(v:Value) (w:World),(method 340 92 v "loop.example/g00571/impl.right").run Tryz.prog w=.ok (200,v) w:=λ_ _=>by kernel_rfl
 by_cases hmo:most<(len:Int)
 ·go_enter Tryz.func120,Tryz.ntmps120;exact nh
 go_enter Tryz.func120,Tryz.ntmps120;go_wp2;go_loopw [5,14] (λq i wr=> ∃(k:Nat) (y:ByteArray),k<=len/\q=I y/\i=Y4 Y5 k/\Hid (k=0->y=⟨#[]⟩)/\Hid (∀z,0<k->xs[k - 1]?=Y3 z->z.n=y)/\Hid (∀(j:Nat) z,j<k->xs[j]?=Y3 z->wk z)/\Hid (∀(j:Nat) z u,j+1<k->xs[j+1]?=Y3 z->xs[j]?=Y3 u->Yk u.n.toList z.n.toList=Y_)/\Hid (Below w.heap.size w wr)) (λ_ i _=>len - (intOf i).toNat);case atStart=>exact⟨0,_,by omega,rfl,rfl,λ_=>rfl,λ_ h=>absurd h af,λ_ _ h=>absurd h af,λ_ _ _ h=>absurd h af,Yh _ _⟩
 case round=>
  obtain⟨k,y,hk,rfl,rfl,H0,H1,HE,HO,HB⟩:=hrel;by_cases hlt:k<len
  ·obtain⟨b,o,x,rfl,hb,hx,hat⟩:=gu (HR.below HB.out) hlt;obtain⟨z0,z3,c0,c1,c2,c3⟩:=dh hat;have HX:=aa hx;have HC:=aa (λv:World=>jZ x v);have HB1:=aa (HB.alloc HB.size (Y6 #[I x.n,Y7 x.x,Y7 x.y,I x.z] 92));have HRt:=aa (q7 x (wr.alloc (Y6 #[I x.n,Y7 x.x,Y7 x.y,I x.z] 92)) z0 z3);clear hat hx z0 z3;have z674z:=@aa _ @Vu;exact ji
  ·exact tS):p:=h
theorem s9(h:p:=by
 obtain⟨HR,hxl,hlc⟩:=oB;clear hr;have hmcalled:∀(v:Value) (w:World),(method 340 92 v "loop.example/g00571/impl.called").run Tryz.prog w=.ok (199,v) w:=λ_ _=>by kernel_rfl
 exact z1099z):p:=h
theorem LD(h:p:=by
 have HG:=aa g1;have HI:=aa hrt;clear g1 hb1 HB1 HRt hrt c0 c1 c2 c3 c4 c5 c6;have z260z:=@aa _ @ac2;exact jm):p:=h
theorem LC(h:p:=by
 clear g1 hb1 c0 c1 c2 c3 c4 c5 c6 HB1;cases hless:Yk x.n.toList t.toList
 ·have z310z:=@aa _ @acp;exact pK
 ·exact tR):p:=h
theorem sY(h:p:=by
 rw[show (wr.alloc (Y6 (nov x va vl vc) 38)).heap.size=wr.heap.size+1 from by simp] at hs1;obtain⟨HB2,d0,d1,d2,d3⟩:=oA;have d4:=ck4 g1;have d5:=ck5 g1;have d6:=ck6 g1;exact z1108z):p:=h
theorem Lx(h:p:=by
 have:=(a_ HX.out e1 e2).2;rw[HH1.out] at this;cases this):p:=h
theorem Lw(h:p:=by
 have:=(a_ HV.out e3 e4).2;rw[HH2.out] at this;cases this):p:=h
theorem sV(h:p:=by
 obtain⟨x0,x1,x2,x3,x4⟩:=cs5 Bx;have ltx_2:=ae Bx.out;go_wp2;go_ret;refine ar.f (λ⟨i,j,x',v',e1,e2,e3,e4,_⟩=>?_) (HB.alloc HB.size _);exact z1117z):p:=h
theorem Lo(h:p:=by
 have HG:=aa g1;have HI:=aa hrt;clear g1 hb1 HB1 HRt hrt c0 c1 c2 c3 c4 c5;have z260z:=@aa _ @acY;exact jm):p:=h
theorem Ln(h:p:=by
 clear g1 hb1 c0 c1 c2 c3 c4 c5 HB1;cases hless:Yk x.n.toList t.toList
 ·have z1350z:=@aa _ @Ik;exact mD
 ·exact tR):p:=h
theorem sS(h:p:=by
 rw[show (wr.alloc (Y6 (pov x va vl vc) 40)).heap.size=wr.heap.size+1 from by simp] at hs1;obtain⟨HB2,d0,d1,d2,d3⟩:=oA;have d4:=ck4 g1;have d5:=ck5 g1;exact z1128z):p:=h
theorem Lm(h:p:=by
 have HG:=aa g1;have HI:=aa hrt;clear g1 hb1 HB1 HRt hrt c0 c1 c2 c3;have z260z:=@aa _ @ac1;exact jm):p:=h
theorem Ll(h:p:=by
 clear g1 hb1 c0 c1 c2 c3 HB1;cases hless:Yk x.n.toList t.toList
 ·have z310z:=@aa _ @aco;exact pK
 ·exact tR):p:=h
theorem sR(h:p:=by
 rw[show (wr.alloc (Y6 #[I x.n,Y7 x.x,Y7 x.y,I x.z] 92)).heap.size=wr.heap.size+1 from by simp] at hs1;obtain⟨HB2,d0,d1,d2,d3⟩:=oA;exact z1131z):p:=h
theorem Lk(h:p:=by
 refine bodyPost_ret (v:=Ze #[Za #[I v.n,Y4 Y5 v.c,I v.z,I v.k,Y7 v.x,I v.m,Y7 v.y,J va vl vc],Y7 Y_]) M4 rfl ⟨ah (Yy _) (ah (Yy _) (ah (Yy _) (ah (Yy _) (ah (Yy _) (ah (Yy _) (ah (Yy _) (ah (Yy _) (HB.out)))))))),Zc ⟨v,va,vl,vc,⟨_,_,x,HX1.out,HN1.out,HX2.out,HN2.out⟩,rfl,HZ0.out,HZ2.out,HT.out⟩⟩):p:=h
theorem Lj(h:p:=by
 refine bodyPost_ret (v:=Ze #[Za #[I ⟨#[]⟩,Y4 Y5 0,I ⟨#[]⟩,I ⟨#[]⟩,Y7 Y8,I ⟨#[]⟩,Y7 Y8,J U 0 0],Y7 Y8]) M4 rfl ⟨ah (Yy _) (ah (Yy _) (ah (Yy _) (ah (Yy _) (ah (Yy _) (ah (Yy _) (ah (Yy _) (ah (Yy _) (HB.out)))))))),Zb ⟨λv ⟨i,j,x2,e1,e2,e3,e4⟩=>(by obtain⟨_,rfl⟩:=HX.inj e1 HX1.out (e2.trans HN1.symm);have:=(a_ HV.out e3 e4).2;rw[HH2.out] at this;cases this),rfl⟩⟩):p:=h
theorem Li(h:p:=by
 refine bodyPost_ret (v:=Ze #[Za #[I ⟨#[]⟩,Y4 Y5 0,I ⟨#[]⟩,I ⟨#[]⟩,Y7 Y8,I ⟨#[]⟩,Y7 Y8,J U 0 0],Y7 Y8]) M4 rfl ⟨ah (Yy _) (ah (Yy _) (ah (Yy _) (ah (Yy _) (ah (Yy _) (ah (Yy _) (ah (Yy _) (ah (Yy _) (HB.out)))))))),Zb ⟨λv ⟨i,j,x2,e1,e2,e3,e4⟩=>(by have:=(a_ HX.out e1 e2).2;rw[HH1.out] at this;cases this),rfl⟩⟩):p:=h
theorem mK(h:p:=by
 obtain⟨s0,s1,s2,s3,s4,s5,s6,s7⟩:=cs8 Bs;obtain⟨fr0,fr1,fr2,fr3,fr4,fr5,fr6,fr7⟩:=akI;go_wp2;exact z1134z):p:=h
theorem JR(h:p:=by
 clear hat hx z0 z2 z3 z5 hvr;have z1507z:=@aa _ @Fb;exact dG):p:=h
theorem JQ(h:p:=by
 clear hat hx z0 z2 z3 z5 hvr;have hcase:(v.x=Y8\/v.m=⟨#[]⟩)\/(v.x=Y_/\¬v.m=⟨#[]⟩):=by
  rcases Bool.eq_false_or_eq_true v.x with h|h
  ·by_cases e:v.m=⟨#[]⟩
   ·exact Zc (Zb e)
   ·exact Zb ⟨h,e⟩
  ·exact Zc (Zc h)
 rcases hcase with hcase|⟨hs,he⟩
 ·have HCs:=aa hcase;rcases hcase with hs|he
  ·exact NI
  ·have hq:=cN he;clear he;rcases Bool.eq_false_or_eq_true v.x with hs|hs
   ·exact NI
   ·exact NI
 ·have hq:=aX he;have HEm:=aa he;have HSi:=aa hs;rw[hs] at c4;clear he hs;have z1507z:=@aa _ @Fa;exact dG):p:=h
theorem JM(h:p:=by
 refine (iB ⟨a1,l1,y1,a2,l2,y2,a3,l3,y3,(Y3 ⟨b,o,U⟩),l4,y4,a5,l5,y5⟩ c.now c.ks x.k _ (HR.k.below (HB.trans ((ak _ _).mono HB.size))) (HE.below (HB.trans ((ak _ _).mono HB.size)))).mono ?_;have z933z:=@aa _ @RW;exact o_):p:=h
theorem JL(h:p:=by
 refine (Qi ⟨(Y3 ⟨b,o,U⟩),l1,y1,a2,l2,y2,a3,l3,y3,a4,l4,y4,a5,l5,y5⟩ c n va vl vc _ (HR.below (HB.trans ((ak _ _).mono HB.size))) HVR.out (HTn.below (ak _ _))).mono ?_;have z1594z:=@aa _ @Eb;exact rJ):p:=h
theorem JK(h:p:=by
 refine (ny ⟨a1,l1,y1,a2,l2,y2,a3,l3,y3,a4,l4,y4,(Y3 ⟨b,o,U⟩),l5,y5⟩ c.now c.xs va vl vc p.zs _ (HR.x.below (HB.trans ((ak _ _).mono HB.size))) (HTp.below (ak _ _)) (HE.below (HB.trans ((ak _ _).mono HB.size)))).mono ?_;have z1467z:=@aa _ @FK;exact mA):p:=h
theorem JJ(h:p:=by
 have HCall:=aa (Qa ⟨a1,l1,y1,a2,l2,y2,a3,l3,y3,a4,l4,y4,(Y3 ⟨b,o,U⟩),l5,y5⟩ c p va vl vc (wr.alloc (Y6 #[I p.n,Y4 Y5 p.c,I p.z,J va vl vc,I p.d,Y4 Y5 2] 40)) (HR.below (HB.trans ((ak _ _).mono HB.size))) HNR.out HXR.out HVR.out HNE.out (HTp.below (ak _ _)));rw[HP2.out] at HCall;refine (HCall.out).mono ?_;have z1594z:=@aa _ @Ea;exact rJ):p:=h
theorem JC(h:p:=by
 exact z903z):p:=h
theorem Jv(h:p:=by
 have HI2:=aa hi;clear hi;cases r
 ·exact PK
 obtain⟨k0,k1,k2,k3,k4,k5⟩:=cs6 Bk;go_wp2_with fail;refine (ve _ _ _ c.vs 8 _ (HR.v.below HB.out)).mono ?_;have z1057z:=@aa _ @Me;exact tl):p:=h
theorem Ju(h:p:=by
 have HI4:=aa hi;clear hi;cases r
 ·exact O4
 obtain⟨k0,k1,k2,k3,k4,k5⟩:=cs6 Bk;go_wp2_with fail;refine (vf _ _ _ c.ps 8 _ (HR.p.below HB.out)).mono ?_;rintro e w5 ⟨r,rfl,hi,hb⟩;have z1719z:=@aa _ @Ct;exact fw):p:=h
theorem Jt(h:p:=by
 have HI4:=aa hi;clear hi;cases r
 ·exact O4
 obtain⟨k0,k1,k2,k3,k4,k5⟩:=cs6 Bk;go_wp2_with fail;refine (nM d c _ (HR.below HB.out) HOK.1.2.2 (by have:=HOK.2.2.1.1;omega)).mono ?_;have z1526z:=@aa _ @EZ;exact rT):p:=h
theorem Js(h:p:=by
 have HI3:=aa hi;clear hi;cases r
 ·exact ajH
 obtain⟨k0,k1,k2,k3,k4,k5⟩:=cs6 Bk;go_wp2_with fail;exact z1057z):p:=h
theorem Jm(h:p:=by
 refine (cH u 0 1000000 _).mono ?_;have z1503z:=@aa _ @Fg;exact jt):p:=h
theorem Jl(h:p:=by
 refine (wv n c z a len cap d p _ hd).mono ?_;rintro e w1 ⟨r,rfl,hr,hb⟩;go_wp2_with fail;go_ret;exact⟨r,rfl,⟨λh=>⟨h0.out,h1.out,h2.out,h3.out,hr.1 h⟩,λh=>hr.2 h.2.2.2.2⟩,(ix hb).2.1⟩):p:=h
theorem IL(h:p:=by
 clear ho hb2 hbx hg hb c0 c1 c2 c3 c4 c5 c6 c7;go_wp2_with (first|(at_builtin;refine wpList_append_own _ rfl _ _ 25 rfl w.heap.size 95 i0 (Za #[I ⟨#[]⟩,Y4 Y5 0,I ⟨#[]⟩,I ⟨#[]⟩,Y7 Y8,I ⟨#[]⟩,Y7 Y8,J U 0 0]) 8 112 Tryz.underlying25 HI0.1 HI0.2.1 HI0.2.2.1 HI0.2.2.2 rfl ag _ _ _ rfl (HO2.alloc _) ⟨w2.heap.size,0,U⟩ 1 1 [I x.n,Y4 Y5 x.c,I x.z,I x.k,Y7 x.x,I x.m,Y7 x.y,J a' l' c'] rfl rfl ?c1 ?c2 ?c3 ?c4 ?c5 ?_));case c1=>exact eP _ _ _
 case c2=>intro u hu;simp only[List.mem_cons,List.not_mem_nil,or_false] at hu;rcases hu with rfl|rfl|rfl|rfl|rfl|rfl|rfl|rfl <;> rfl
 case c3=>unfold maxLen;omega
 case c4=>omega
 case c5=>simp;omega
 rintro v' w3 hown3 hgrow -;have HO3:Hid (w3.ownsRow w.heap.size 95 8 v' (k+1) (vss++([[I x.n,Y4 Y5 x.c,I x.z,I x.k,Y7 x.x,I x.m,Y7 x.y,J a' l' c']]:List (List Value))).flatten):=by
  exact vv
 have hb23:Below wr.heap.size wr (w2.alloc (Y6 (vov x a' l' c') 95)):=HX2.trans ((ak _ _).mono (Nat.le_of_lt hs2));have hV:=HV.app (r:=vdF x) (vs:=[I x.n,Y4 Y5 x.c,I x.z,I x.k,Y7 x.x,I x.m,Y7 x.y,J a' l' c']) (hh:=g) hb23 (HO2.alloc _) ag hgrow rfl rfl
  (af8 HZz0.out HZz2.out HZz3.out HZz5.out (HG.az (S':=λk=>w.heap.size<=k) (λcu _ q=>Ym _ _ _ (ae q)) (λ_ s=>by have s1:wr.heap.size+1<=g:=s;show w.heap.size<=g;omega)))
  (λi zs hi hz=>by obtain⟨_,rfl⟩:=AB hi;have s1:wr.heap.size+1<=g:=(HG.lt hz).1;omega) (λi i' zs zs' h1 _ h2 _=>(AB h1).1.trans (AB h2).1.symm)
 have e1:(xs.take (k+1)).map vdF=(xs.take k).map vdF++[vdF x]:=by rw[YL,HX.out];simp
 exact Nt):p:=h
theorem IK(h:p:=by
 clear ho hb2 hbx hg hb c0 c1 c2 c3 c4 c5;go_wp2_with (first|(at_builtin;refine wpList_append_own _ rfl _ _ 27 rfl w.heap.size 40 i0 (Za #[I ⟨#[]⟩,Y4 Y5 0,I ⟨#[]⟩,J U 0 0,I ⟨#[]⟩,Y4 Y5 0]) 6 88 Tryz.underlying27 HI0.1 HI0.2.1 HI0.2.2.1 HI0.2.2.2 rfl ag _ _ _ rfl (HO2.alloc _) ⟨w2.heap.size,0,U⟩ 1 1 [I x.n,Y4 Y5 x.c,I x.z,J a' l' c',I x.d,Y4 Y5 x.p] rfl rfl ?c1 ?c2 ?c3 ?c4 ?c5 ?_));case c1=>exact eP _ _ _
 case c2=>intro u hu;simp only[List.mem_cons,List.not_mem_nil,or_false] at hu;rcases hu with rfl|rfl|rfl|rfl|rfl|rfl <;> rfl
 case c3=>unfold maxLen;omega
 case c4=>omega
 case c5=>simp;omega
 rintro v' w3 hown3 hgrow -;have HO3:Hid (w3.ownsRow w.heap.size 40 6 v' (k+1) (vss++([[I x.n,Y4 Y5 x.c,I x.z,J a' l' c',I x.d,Y4 Y5 x.p]]:List (List Value))).flatten):=by
  exact vv
 have hb23:Below wr.heap.size wr (w2.alloc (Y6 (pov x a' l' c') 40)):=HX2.trans ((ak _ _).mono (Nat.le_of_lt hs2));have hV:=HV.app (r:=pdF x) (vs:=[I x.n,Y4 Y5 x.c,I x.z,J a' l' c',I x.d,Y4 Y5 x.p]) (hh:=g) hb23 (HO2.alloc _) ag hgrow rfl rfl
  (ahg HZz0.out HZz2.out HZz4.out (HG.az (S':=λk=>w.heap.size<=k) (λcu _ q=>Ym _ _ _ (ae q)) (λ_ s=>by have s1:wr.heap.size+1<=g:=s;show w.heap.size<=g;omega)))
  (λi zs hi hz=>by obtain⟨_,rfl⟩:=AW hi;have s1:wr.heap.size+1<=g:=(HG.lt hz).1;omega) (λi i' zs zs' h1 _ h2 _=>(AW h1).1.trans (AW h2).1.symm)
 have e1:(xs.take (k+1)).map pdF=(xs.take k).map pdF++[pdF x]:=by rw[YL,HX.out];simp
 exact Nt):p:=h
theorem IJ(h:p:=by
 clear ho hb2 hbx hg hb c0 c1 c2 c3 c4 c5 c6;go_wp2_with (first|(at_builtin;refine wpList_append_own _ rfl _ _ 23 rfl w.heap.size 38 i0 (Za #[I ⟨#[]⟩,I ⟨#[]⟩,Y4 Y5 0,Y4 Y5 0,Y4 Y5 0,Y7 Y8,J U 0 0]) 7 88 Tryz.underlying23 HI0.1 HI0.2.1 HI0.2.2.1 HI0.2.2.2 rfl ag _ _ _ rfl (HO2.alloc _) ⟨w2.heap.size,0,U⟩ 1 1 [I x.n,I x.z,Y4 Y5 x.c,Y4 Y5 x.s,Y4 Y5 x.u,Y7 x.d,J a' l' c'] rfl rfl ?c1 ?c2 ?c3 ?c4 ?c5 ?_));case c1=>exact eP _ _ _
 case c2=>intro u hu;simp only[List.mem_cons,List.not_mem_nil,or_false] at hu;rcases hu with rfl|rfl|rfl|rfl|rfl|rfl|rfl <;> rfl
 case c3=>unfold maxLen;omega
 case c4=>omega
 case c5=>simp;omega
 rintro v' w3 hown3 hgrow -;have HO3:Hid (w3.ownsRow w.heap.size 38 7 v' (k+1) (vss++([[I x.n,I x.z,Y4 Y5 x.c,Y4 Y5 x.s,Y4 Y5 x.u,Y7 x.d,J a' l' c']]:List (List Value))).flatten):=by
  exact vv
 have hb23:Below wr.heap.size wr (w2.alloc (Y6 (nov x a' l' c') 38)):=HX2.trans ((ak _ _).mono (Nat.le_of_lt hs2));have hV:=HV.app (r:=ndF x) (vs:=[I x.n,I x.z,Y4 Y5 x.c,Y4 Y5 x.s,Y4 Y5 x.u,Y7 x.d,J a' l' c']) (hh:=g) hb23 (HO2.alloc _) ag hgrow rfl rfl
  (ahh HZz0.out HZz1.out (HG.az (S':=λk=>w.heap.size<=k) (λcu _ q=>Ym _ _ _ (ae q)) (λ_ s=>by have s1:wr.heap.size+1<=g:=s;show w.heap.size<=g;omega)))
  (λi zs hi hz=>by obtain⟨_,rfl⟩:=AZ hi;have s1:wr.heap.size+1<=g:=(HG.lt hz).1;omega) (λi i' zs zs' h1 _ h2 _=>(AZ h1).1.trans (AZ h2).1.symm)
 have e1:(xs.take (k+1)).map ndF=(xs.take k).map ndF++[ndF x]:=by rw[YL,HX.out];simp
 exact Nt):p:=h
theorem mG(h:p:=by
 rintro e w2 ⟨a',l',c',rfl,ho,hb2⟩;obtain⟨-,hbx⟩:=bB hb2;rw[db] at ho;obtain⟨g,hg⟩:=ho.fr;obtain⟨HG,HX2,HO2,hs2⟩:=akJ;exact z1318z):p:=h
theorem Im(h:p:=by
 exact z310z):p:=h
theorem Il(h:p:=by
 refine bodyPost_ret (v:=Ze #[Y4 Y5 k,Y7 (x.n.toList==t.toList)]) (by simp[results,Tryz.results167,go_sem]) rfl ⟨?_,HB3.out⟩;unfold hit;rw[hp,HX.out]):p:=h
theorem Ik(h:p:=by
 refine bodyPost_ret (v:=Ze #[Y4 Y5 k,Y7 (x.n.toList==t.toList)]) (by simp[results,Tryz.results78,go_sem]) rfl ⟨?_,HB3.out⟩;unfold hit;rw[hp,HX.out]):p:=h
theorem mD(h:p:=by
 go_wp2_with fail;refine (HC.out _).mono ?_;rintro e w2 ⟨rfl,hb2⟩;obtain⟨HB3,hp⟩:=akU;clear hb2;go_wp2_with fail;exact z1350z):p:=h
theorem Ij(h:p:=by
 go_enter Tryz.func80,Tryz.ntmps80;go_wp2;go_loopw [10] (λi wr=> ∃k:Nat,k<=len/\i=Y4 Y5 k/\Hid (∀(j:Nat) y,j<k->xs[j]?=Y3 y->Yk y.n.toList t.toList=Y_)/\Hid (Below w.heap.size w wr)) (λi _=>len - (intOf i).toNat);case atStart=>exact⟨0,by omega,rfl,λj y hj=>by omega,Yh _ _⟩
 case round=>
  obtain⟨k,hk,rfl,HE,HB⟩:=hrel;by_cases hlt:k<len
  ·have z1067z:=@aa _ @L6;exact mN
  ·obtain rfl:k=len:=af
   have hp:pl Nd.n xs t=xs.length:=fU (λj y hy=>HE.out j y jI hy);have hh:hit Nd.n xs t=Y8:=by unfold hit;rw[hp,List.getElem?_eq_none (Ye _)]
   have HP:=aa hp;have HH:=aa hh;clear hp hh;go_wp2;exact bodyPost_ret (v:=Ze #[Y4 Y5 k,Y7 Y8]) (by simp[results,Tryz.results80,go_sem]) rfl ⟨by rw[HP.out,HH.out,hxl],HB.out⟩):p:=h
theorem Ii(h:p:=by
 have hmright:∀(v:Value) (w:World),(method 340 38 v "loop.example/g00571/impl.right").run Tryz.prog w=.ok (184,v) w:=λ_ _=>by kernel_rfl
 by_cases hmo:most<(len:Int)
 ·go_enter Tryz.func119,Tryz.ntmps119;exact nh
 go_enter Tryz.func119,Tryz.ntmps119;go_wp2;go_loopw [5,14] (λq i wr=> ∃(k:Nat) (y:ByteArray),k<=len/\q=I y/\i=Y4 Y5 k/\Hid (k=0->y=⟨#[]⟩)/\Hid (∀z,0<k->xs[k - 1]?=Y3 z->z.n=y)/\Hid (∀(j:Nat) z,j<k->xs[j]?=Y3 z->vV z)/\Hid (∀(j:Nat) z u,j+1<k->xs[j+1]?=Y3 z->xs[j]?=Y3 u->Yk u.n.toList z.n.toList=Y_)/\Hid (Below w.heap.size w wr)) (λ_ i _=>len - (intOf i).toNat);case atStart=>exact⟨0,_,by omega,rfl,rfl,λ_=>rfl,λ_ h=>absurd h af,λ_ _ h=>absurd h af,λ_ _ _ h=>absurd h af,Yh _ _⟩
 case round=>
  obtain⟨k,y,hk,rfl,rfl,H0,H1,HE,HO,HB⟩:=hrel;by_cases hlt:k<len
  ·have z1067z:=@aa _ @L5;exact mN
  ·exact tS):p:=h
theorem su(h:p:=by
 obtain⟨HR,hxl,hlc⟩:=oB;clear hr;have hmcalled:∀(v:Value) (w:World),(method 340 38 v "loop.example/g00571/impl.called").run Tryz.prog w=.ok (183,v) w:=λ_ _=>by kernel_rfl
 exact z1354z):p:=h
theorem Ia(h:p:=by
 have kc:=ck0 Bk;go_wp2;go_loopw [45] (λi wr=> ∃k:Nat,k<=l1/\i=Y4 Y5 k/\Hid (∀(j:Nat) z,j<k->c.ns[j]?=Y3 z->AQ2 c z)/\Hid (Below w.heap.size w wr)/\Hid (wr.heap[w.heap.size]?=Y3 (Y6 (clo6 a1 l1 y1 a2 l2 y2 a3 l3 y3 a4 l4 y4 a5 l5 y5 c.now) 29 (0,0)))) (λi _=>l1 - (intOf i).toNat);case atStart=>exact⟨0,by omega,rfl,λ_ _ h=>absurd h af,HB.out,Bk.out⟩
 case round=>
  obtain⟨k,hk,rfl,HQ,HB,Bk⟩:=hrel;by_cases hlt:k<l1
  ·have z851z:=@aa _ @S6;exact fO
  ·obtain rfl:l1=k:=af
   have HQ2:Hid (∀(j:Nat) z,c.ns[j]?=Y3 z->AQ2 c z):=λj z hz=>HQ.out j z dD hz;exact pT):p:=h
theorem Hx(h:p:=by
 obtain⟨hl5,hm5⟩:=kK;clear hr;have HNR:=aa hn;have HXR:=aa hx;have HVR:=aa hv;have HNE:=aa hne;clear hn hx hv hne;go_enter Tryz.func77,Tryz.ntmps77;go_wp2;go_loopw [10] (λi wr=> ∃k:Nat,k<=l1/\i=Y4 Y5 k/\Hid (∀(j:Nat) z,j<k->c.ns[j]?=Y3 z->QI c z)/\Hid (Below w.heap.size w wr)/\Hid (wr.heap[w.heap.size]?=Y3 (Y6 (clo6 a1 l1 y1 a2 l2 y2 a3 l3 y3 a4 l4 y4 a5 l5 y5 c.now) 29 (0,0)))) (λi _=>l1 - (intOf i).toNat);case atStart=>exact⟨0,by omega,rfl,λ_ _ h=>absurd h af,ak _ _,Yg⟩
 case round=>
  obtain⟨k,hk,rfl,HQ,HB,Bk⟩:=hrel;by_cases hlt:k<l1
  ·have z851z:=@aa _ @S5;exact fO
  ·have z1588z:=@aa _ @Ee;exact rL):p:=h
theorem Hw(h:p:=by
 rcases hf with ⟨hh,v,va,vl,vc,hx,hn,rfl,z0,z2,z3,z5,hvr⟩|⟨hh,rfl⟩;rotate_left
 ·have HH:=aa hh;clear hh;have z689z:=@aa _ @Vj;exact jg
 have HXv:=aa hx;have HNv:=aa hn;have HTv:=aa hvr;clear hx hn hh z0 z2 z3 z5 hvr;rcases Bool.eq_false_or_eq_true n.d with hd|hd
 ·have z387z:=@aa _ @abt;exact zd
 ·have z387z:=@aa _ @abr;exact zd):p:=h
theorem Hv(h:p:=by
 rcases hf with ⟨v,xa,xl,xc,hbd,rfl,z0,z2,hxr⟩|⟨hbd,rfl⟩;rotate_left
 ·exact ajC
 have HD:=aa hbd;clear hbd hxr z0 z2;exact z241z):p:=h
theorem sj(h:p:=by
 rintro e w2 ⟨hb2,hf⟩;clear k0 k1 k2 k3 k4 k5 n0 n1 n2 n3 n4 n5 n6;replace Bk:=upK Bk hb2;replace Bn:=upK Bn hb2;replace HB:=upB HB hb2;clear hb2;clear hb hc;exact z1373z):p:=h
theorem FK(h:p:=by
 replace HTp:=aa (HTp.below hbx);replace HB:=upB HB hbx;clear hb2 hbx HA0;clear hb c0 c1 c2 c3 c4 c5;rcases hf with ⟨hh,rfl⟩|⟨hh,T,q,rfl⟩;rotate_left
 ·have HH:=aa hh;clear hh;have z1707z:=@aa _ @CK;exact gE
 have HH:=aa hh;clear hh;by_cases he:p.d=⟨#[]⟩
 ·have hq:=cN he;have HEm:=aa he;clear he;have z1707z:=@aa _ @CJ;exact gE
 ·have hq:=aX he;have HEm:=aa he;clear he;have z1707z:=@aa _ @CI;exact gE):p:=h
theorem Fg(h:p:=by
 go_wp2_with fail;refine (fV a len cap zs 8 _ (HR.below (ak _ _))).mono ?_;rintro e w1 ⟨r,rfl,hr,rfl⟩;go_wp2_with fail;go_ret;exact⟨r,rfl,⟨λh=>⟨h0.out,h1.out,h2.out,h3.out,h4.out,hr.1 h⟩,λh=>hr.2 h.2.2.2.2.2⟩,ak _ _⟩):p:=h
theorem Fc(h:p:=by
 go_wp2;refine⟨⟨k+1,by omega,by go_num,λj z hj hz=>?_,(HB.alloc HB.size _),(Ym _ _ _ (ae Bk.out)).trans Bk.out⟩,by simp[intOf];omega⟩;exact z373z):p:=h
theorem Fb(h:p:=by
 go_wp2_with fail;refine (iB ⟨a1,l1,y1,a2,l2,y2,(Y3 ⟨b,o,U⟩),l3,y3,a4,l4,y4,a5,l5,y5⟩ c.now c.ks v.k _ (HR.k.below (HB.trans ((ak _ _).mono HB.size))) (HE.below (HB.trans ((ak _ _).mono HB.size)))).mono ?_;have z933z:=@aa _ @RX;exact o_):p:=h
theorem Fa(h:p:=by
 go_wp2_with fail;refine (Qe ⟨a1,l1,y1,a2,l2,y2,(Y3 ⟨b,o,U⟩),l3,y3,a4,l4,y4,a5,l5,y5⟩ c v.m _ (HR.below (HB.trans ((ak _ _).mono HB.size)))).mono ?_;rintro e w2 ⟨r,rfl,hi,hb3⟩;clear k0 k1 k2 k3 k4 k5 ltk_0;obtain⟨HA0,hbx⟩:=bB hb3;replace Bk:=upK Bk hbx;have Br:=aa HA0;replace HB:=upB HB hbx;clear hb3 hbx HA0;have HI:=aa hi;clear hi hb c0 c1 c2 c3 c4 c5 c6 c7;cases r
 ·go_wp2;go_ret;exact ar.f (λh=>by have:=HI.2 ((h.2.2 k v HXv.out) HSi.out HEm.out);cases this) HB.out
 ·have z162z:=@aa _ @aef;exact cS):p:=h
theorem EZ(h:p:=by
 refine (qk d c _ (HR.below HB.out) HOK.1.2.2 HOK.2.2.2.1.2.2 HOK.2.2.1.2.2 HOK.ne).mono ?_;rintro e w6 ⟨r,rfl,hi,hb⟩;have z1719z:=@aa _ @Cs;exact fw):p:=h
theorem Ee(h:p:=by
 have kc:=ck4 Bk;go_wp2;go_loopw [22] (λi wr=> ∃k:Nat,k<=l5/\i=Y4 Y5 k/\Hid (∀(j:Nat) z,j<k->c.ps[j]?=Y3 z->MQ2 c z)/\Hid (Below w.heap.size w wr)/\Hid (wr.heap[w.heap.size]?=Y3 (Y6 (clo6 a1 l1 y1 a2 l2 y2 a3 l3 y3 a4 l4 y4 a5 l5 y5 c.now) 29 (0,0)))) (λi _=>l5 - (intOf i).toNat);case atStart=>exact⟨0,by omega,rfl,λ_ _ h=>absurd h af,HB.out,Bk.out⟩
 case round=>
  obtain⟨k,hk,rfl,HQ,HB,Bk⟩:=hrel;by_cases hlt:k<l5
  ·have z903z:=@aa _ @So;exact xU
  ·obtain rfl:l5=k:=af
   have HQ2:Hid (∀(j:Nat) z,c.ps[j]?=Y3 z->MQ2 c z):=λj z hz=>HQ.out j z dD hz;exact pT):p:=h
theorem Eb(h:p:=by
 clear hi hb c0 c1 c2 c3 c4 c5 c6;cases r
 ·go_wp2;go_ret;exact ar.f (λh=>by have:=HI.2 (h.1 k n HXn.out);cases this) HB.out
 ·have z162z:=@aa _ @aee;exact cS):p:=h
theorem Ea(h:p:=by
 clear hi hb HCall c0 c1 c2 c3 c4 c5;cases r
 ·go_wp2;go_ret;exact ar.f (λh=>by have:=HI.2 ((h.2 k p HXp.out) HP2.out);cases this) HB.out
 ·have z162z:=@aa _ @aed;exact cS):p:=h
theorem rJ(h:p:=by
 rintro e w2 ⟨r,rfl,hi,hb3⟩;clear k0 k1 k2 k3 k4 k5 ltk_0;obtain⟨HA0,hbx⟩:=bB hb3;replace Bk:=upK Bk hbx;replace HB:=upB HB hbx;clear hb3 hbx HA0;have HI:=aa hi;exact z1594z):p:=h
theorem D5(h:p:=by
 go_enter Tryz.func76,Tryz.ntmps76;go_wp2;go_loopw [14] (λi wr=> ∃k:Nat,k<=l3/\i=Y4 Y5 k/\Hid (∀(j:Nat) z,j<k->c.vs[j]?=Y3 z->AQ1 c z)/\Hid (Below w.heap.size w wr)/\Hid (wr.heap[w.heap.size]?=Y3 (Y6 (clo6 a1 l1 y1 a2 l2 y2 a3 l3 y3 a4 l4 y4 a5 l5 y5 c.now) 29 (0,0)))) (λi _=>l3 - (intOf i).toNat);case atStart=>exact⟨0,by omega,rfl,λ_ _ h=>absurd h af,ak _ _,Yg⟩
 case round=>
  obtain⟨k,hk,rfl,HQ,HB,Bk⟩:=hrel;by_cases hlt:k<l3
  ·obtain⟨b,o,v,rfl,hb,hx,hat⟩:=cj (HR.v.below HB.out) hlt;have z278z:=@aa _ @acK;exact fS
  ·have z1363z:=@aa _ @Ia;exact sn):p:=h
theorem DV(h:p:=by
 have hl4:c.xs.length=l4:=M5
 have hm4:l4<=9223372036854775807:=Yl hr.x.2.1 hr.x.2.2.1;clear hr;have HE:=aa hG;have HXR:=aa hxr;have HVR:=aa hvr;clear hG hxr hvr;go_enter Tryz.func74,Tryz.ntmps74;go_wp2;go_loopw [10] (λi wr=> ∃k:Nat,k<=l3/\i=Y4 Y5 k/\Hid (∀(j:Nat) z,j<k->c.vs[j]?=Y3 z->QV c z)/\Hid (Below w.heap.size w wr)/\Hid (wr.heap[w.heap.size]?=Y3 (Y6 (clo6 a1 l1 y1 a2 l2 y2 a3 l3 y3 a4 l4 y4 a5 l5 y5 c.now) 29 (0,0)))) (λi _=>l3 - (intOf i).toNat);case atStart=>exact⟨0,by omega,rfl,λ_ _ h=>absurd h af,ak _ _,Yg⟩
 case round=>
  obtain⟨k,hk,rfl,HQ,HB,Bk⟩:=hrel;by_cases hlt:k<l3
  ·have z1230z:=@aa _ @JR;exact mJ
  ·obtain rfl:l3=k:=af
   have HQ1:Hid (∀(j:Nat) z,c.vs[j]?=Y3 z->QV c z):=λj z hz=>HQ.out j z dD hz;clear HQ;have k3:=ck3 Bk;go_wp2;go_loopw [37] (λi wr=> ∃k:Nat,k<=l4/\i=Y4 Y5 k/\Hid (∀(j:Nat) z,j<k->c.xs[j]?=Y3 z->QX c z)/\Hid (Below w.heap.size w wr)/\Hid (wr.heap[w.heap.size]?=Y3 (Y6 (clo6 a1 l1 y1 a2 l2 y2 a3 l3 y3 a4 l4 y4 a5 l5 y5 c.now) 29 (0,0)))) (λi _=>l4 - (intOf i).toNat);case atStart=>exact⟨0,by omega,rfl,λ_ _ h=>absurd h af,HB.out,Bk.out⟩
   case round=>
    obtain⟨k,hk,rfl,HQ,HB,Bk⟩:=hrel;by_cases hlt:k<l4
    ·have z1685z:=@aa _ @C0;exact lV
    ·obtain rfl:l4=k:=af
     have HQ2:Hid (∀(j:Nat) z,c.xs[j]?=Y3 z->QX c z):=λj z hz=>HQ.out j z dD hz;exact pT):p:=h
theorem C0(h:p:=by
 clear hat hx z0 z2 z4;have z1237z:=@aa _ @JM;exact gK):p:=h
theorem CU(h:p:=by
 have HX:=aa hx;have HC:=aa (λv:World=>jX x va vl vc v);have HB1:=aa (HB.alloc HB.size (Y6 (vov x va vl vc) 95));have HRt:=aa (qX x va vl vc (wr.alloc (Y6 (vov x va vl vc) 95)) z0 z2 z3 z5 (hvr.below (ak _ _)));clear hat hx z0 z2 z3 z5 hvr;have z674z:=@aa _ @Vt;exact ji):p:=h
theorem CK(h:p:=by
 go_wp2;go_ret;exact ar.f (λh=>HH.out (h.1 k p HXp.out).1) HB.out):p:=h
theorem CJ(h:p:=by
 have z162z:=@aa _ @aeh;exact cS):p:=h
theorem CI(h:p:=by
 go_wp2_with fail;refine (A8 ⟨a1,l1,y1,a2,l2,y2,a3,l3,y3,a4,l4,y4,(Y3 ⟨b,o,U⟩),l5,y5⟩ c p va vl vc _ (HR.below HB.out) HNR.out HXR.out HVR.out HNE.out HTp.out).mono ?_;rintro e w2 ⟨r,rfl,hi,hb3⟩;clear k0 k1 k2 k3 k4 k5 r0 r1 r2 r3 r4 r5;replace Bk:=upK Bk hb3;replace Br:=upK Br hb3;replace HTp:=aa (HTp.below hb3);replace HB:=upB HB hb3;clear hb3;have HI:=aa hi;clear hi;cases r
 ·go_wp2;go_ret;refine ar.f (λh=>?_) HB.out;rcases (h.1 k p HXp.out).2 with h2|h2
  ·exact HEm.out h2
  ·have:=HI.2 h2;cases this
 ·have z162z:=@aa _ @aeg;exact cS):p:=h
theorem gE(h:p:=by
 obtain⟨k0,k1,k2,k3,k4,k5⟩:=cs6 Bk;obtain⟨r0,r1,r2,r3,r4,r5⟩:=cs6 Br;exact z1707z):p:=h
theorem Ct(h:p:=by
 have HI5:=aa hi;clear hi;cases r
 ·obtain⟨k0,k1,k2,k3,k4,k5⟩:=cs6 Bk;go_wp2;go_ret;exact ar.f (λh=>by have:=HI5.2 h.2.2.2.2;cases this) HB.out
 go_wp2;go_ret;exact ar.t ⟨HI1.1 bX,HI2.1 bX,HI3.1 bX,HI4.1 bX,HI5.1 bX⟩ HB.out):p:=h
theorem Cs(h:p:=by
 have HI6:=aa hi;clear hi;cases r
 ·exact O5
 go_wp2;go_ret;exact ar.t ⟨HI1.1 bX,HI2.1 bX,HI3.1 bX,HI4.1 bX,HI5.1 bX,HI6.1 bX⟩ HB.out):p:=h
theorem q_ {a b:Bool} (h:a=b):Ending.returned (Y7 a)=Y9 (Y7 b):=by rw[h]
theorem Af(b:Int) (w:World):
  Calls Tryz.prog 188 #[Y4 .u8 b] w λe w'=>e=Y9 (Y7 (nL b))/\w=w':=by
 go_enter Tryz.func188,Tryz.ntmps188;go_wp2;all_goals (go_ret;exact⟨q_ (by unfold nL;rw[Bool.eq_iff_iff];simp;omega),rfl⟩)
theorem PX(b:Int) (w:World):
  Calls Tryz.prog 189 #[Y4 .u8 b] w λe w'=>e=Y9 (Y7 (nbB b))/\w=w':=by
 go_enter Tryz.func189,Tryz.ntmps189;go_wp2;all_goals (go_ret;exact⟨q_ (by unfold nbB nL afL;rw[Bool.eq_iff_iff];simp;omega),rfl⟩)
theorem br(s:ByteArray) (w:World) (hs:s.size<=9223372036854775807):
  Calls Tryz.prog 186 #[I s] w (cY (aO s) w):=by
 by_cases h1:s.size<1
 ·go_enter Tryz.func186,Tryz.ntmps186;exact pU
 by_cases h2:20<s.size
 ·go_enter Tryz.func186,Tryz.ntmps186;exact pU
 have h0:0<s.size:=af
 cases hl:nL ((s[0]'h0).toNat:Int)
 ·have HC:Hid (∀w,Calls Tryz.prog 188 #[Y4 .u8 ((s[0]'h0).toNat:Int)] w λe w'=>e=Y9 (Y7 Y8)/\w=w'):=λw=>by rw[<-hl];exact Af _ w
  have HB:Hid (okB 0 ((s[0]'h0).toNat:Int)=Y8):=hl;clear hl;go_enter Tryz.func186,Tryz.ntmps186;go_wp2_with (go_at_call 188;refine (HC.out _).mono ?_;rintro e w1 ⟨rfl,rfl⟩);go_ret;exact⟨Y8,rfl,jN h0 HB.out,rfl⟩
 ·have HC:Hid (∀w,Calls Tryz.prog 188 #[Y4 .u8 ((s[0]'h0).toNat:Int)] w λe w'=>e=Y9 (Y7 Y_)/\w=w'):=λw=>by rw[<-hl];exact Af _ w
  have HB:Hid (okB 0 ((s[0]'h0).toNat:Int)=Y_):=hl;clear hl;go_enter Tryz.func186,Tryz.ntmps186;go_wp2_with (go_at_call 188;refine (HC.out _).mono ?_;rintro e w1 ⟨rfl,rfl⟩);go_loop [3] (λi=> ∃k:Nat,1<=k/\k<=s.size/\i=Y4 Y5 k/\∀i (h:i<s.size),i<k->okB i ((s[i]'h).toNat:Int)=Y_) (λi=>s.size - (intOf i).toNat);case atStart=>exact⟨1,by omega,by omega,rfl,λi _ h=>by obtain rfl:i=0:=af;exact HB.out⟩
  case round=>
   obtain⟨k,hk1,hk,rfl,hall⟩:=hrel;have HA:Hid (∀i (h:i<s.size),i<k->okB i ((s[i]'h).toNat:Int)=Y_):=hall;clear hall HC HB;by_cases hlt:k<s.size
   ·cases hok:nbB ((s[k]'hlt).toNat:Int)
    ·have HC:Hid (∀w,Calls Tryz.prog 189 #[Y4 .u8 ((s[k]'hlt).toNat:Int)] w λe w'=>e=Y9 (Y7 Y8)/\w=w'):=λw=>by rw[<-hok];exact PX _ w
     have HB:Hid (okB k ((s[k]'hlt).toNat:Int)=Y8):=by unfold okB;rw[if_neg af];exact hok
     clear hok;go_wp2_with (go_at_call 189;refine (HC.out _).mono ?_;rintro e w1 ⟨rfl,rfl⟩);go_ret;exact⟨Y8,rfl,jN hlt HB.out,rfl⟩
    ·have HC:Hid (∀w,Calls Tryz.prog 189 #[Y4 .u8 ((s[k]'hlt).toNat:Int)] w λe w'=>e=Y9 (Y7 Y_)/\w=w'):=λw=>by rw[<-hok];exact PX _ w
     have HB:Hid (okB k ((s[k]'hlt).toNat:Int)=Y_):=by unfold okB;rw[if_neg af];exact hok
     clear hok;go_wp2_with (go_at_call 189;refine (HC.out _).mono ?_;rintro e w1 ⟨rfl,rfl⟩);go_round;case rel=>exact⟨k+1,by omega,by omega,by go_num,oI hlt HB.out HA.out⟩
     case measure=>simp[intOf];omega
   ·exact O1
theorem ur {x:ByteArray} (h:1<=x.size):Yk (⟨#[]⟩:ByteArray).toList x.toList=Y_:=by
 rw[Y2,Y2];rw[Lib.size_eq] at h;cases e:x.data.toList with
 | nil=>rw[e] at h;simp at h
 | cons a l=>rfl
theorem fV(a:Option Addr) (len cap:Nat) (zs:List ByteArray) (most:Int) (w:World) (hr:ay w a len cap zs):
  Calls Tryz.prog 187 #[J a len cap,Y4 Y5 most] w (cY (eE zs most) w):=by
 have HR:Hid (ay w a len cap zs):=hr;have hlc:=Yl hr.2.1 hr.2.2.1;have hzl:=hr.1;clear hr;by_cases hm:most<(len:Int)
 ·go_enter Tryz.func187,Tryz.ntmps187;go_wp2;go_ret;exact⟨Y8,rfl,⟨λh=>bY,λh=>absurd h.1 af⟩,rfl⟩
 go_enter Tryz.func187,Tryz.ntmps187;go_wp2;go_loop [5,14] (λp i=> ∃(k:Nat) (y:ByteArray),k<=len/\p=I y/\i=Y4 Y5 k/\Hid (k=0->y=⟨#[]⟩)/\Hid (0<k->zs[k - 1]?=Y3 y)/\Hid (gi (zs.take k))) (λ_ i=>len - (intOf i).toNat);case atStart=>exact⟨0,_,by omega,rfl,rfl,λ_=>rfl,λh=>absurd h af,λi x h=>by simp at h⟩
 case round=>
  obtain⟨k,y,hk,rfl,rfl,H0,H1,HE⟩:=hrel;by_cases hlt:k<len
  ·obtain⟨b,o,x,rfl,hb,hx,hc,hsz⟩:=HR.at hlt;by_cases hn:aO x
   ·have HY:Hid (∀w,Calls Tryz.prog 186 #[I x] w λe w'=>e=Y9 (Y7 Y_)/\w'=w):=λw=>(br x w hsz).mono λ_ _ h=>h.yes hn;have htri:=gR y.toList x.toList;cases hless:Yk y.toList x.toList
    ·rw[hless] at htri;go_wp2_with (go_at_call 186;refine (HY.out _).mono ?_;rintro e w1 ⟨rfl,rfl⟩);go_ret;refine⟨Y8,rfl,⟨λh=>bY,λh=>?_⟩,rfl⟩;by_cases hk0:0<k
     ·exact absurd ((h.2 k x hx).2 y hk0 (H1.out hk0)) (by rw[hless];decide)
     ·have:=H0.out af;subst this;rw[ur hn.1] at hless;cases hless
    ·rw[hless] at htri;go_wp2_with (go_at_call 186;refine (HY.out _).mono ?_;rintro e w1 ⟨rfl,rfl⟩);refine⟨⟨k+1,x,by omega,rfl,by go_num,λh=>absurd h af,λ_=>hx,HE.step hx hn (λy' h0 hy'=>?_)⟩,by simp[intOf];omega⟩;rw[H1.out h0] at hy';obtain rfl:=Yd hy';exact hless
   ·have HY:Hid (∀w,Calls Tryz.prog 186 #[I x] w λe w'=>e=Y9 (Y7 Y8)/\w'=w):=λw=>(br x w hsz).mono λ_ _ h=>h.no hn;go_wp2_with (go_at_call 186;refine (HY.out _).mono ?_;rintro e w1 ⟨rfl,rfl⟩);go_ret;exact⟨Y8,rfl,⟨λh=>bY,λh=>absurd (h.2 k x hx).1 hn⟩,rfl⟩
  ·obtain rfl:k=len:=af
   have hR:=HE.out;rw[YH af] at hR;go_wp2;go_ret;exact⟨Y_,rfl,⟨λ_=>⟨by omega,hR⟩,λ_=>rfl⟩,rfl⟩
theorem cH(n a b:Int) (w:World):
  Calls Tryz.prog 72 #[Y4 Y5 n,Y4 Y5 a,Y4 Y5 b] w (cY (Inn n a b) w):=by
 go_enter Tryz.func72,Tryz.ntmps72;go_wp2;all_goals (go_ret;exact⟨_,rfl,by unfold Inn;simp;omega,rfl⟩)
theorem j8 {w1:World} {vs:Array Value} {T:TypeId} (hb:Below (w.alloc (Y6 vs T)).drew.heap.size (w.alloc (Y6 vs T)).drew w1):
  w1.heap[w.heap.size]?=Y3 (Y6 vs T (0,0))/\Below w.heap.size w w1/\w.heap.size<w1.heap.size:=ix ⟨hb.os,hb.tape,hb.output,hb.size,hb.block⟩
theorem dV(s:ByteArray) (w:World) (hs:s.size<=9223372036854775807):
  Calls Tryz.prog 193 #[I s] w (cY (dA s) w):=by
 by_cases h0:s=⟨#[]⟩
 ·subst h0;go_enter Tryz.func193,Tryz.ntmps193;go_wp2;go_ret;exact⟨_,rfl,by unfold dA;simp,rfl⟩
 ·have hq:=aX h0;go_enter Tryz.func193,Tryz.ntmps193;go_wp2_with (go_at_call 186;refine (br _ _ hs).mono ?_;rintro e w1 ⟨r,rfl,hr,rfl⟩);go_ret;exact⟨r,rfl,by unfold dA;simp[h0,hr],rfl⟩
theorem Bh(n z:ByteArray) (c s u:Int) (d:Bool) (a:Option Addr) (len cap:Nat) (zs:List ByteArray) (w:World) (hn:n.size<=9223372036854775807) (hz:z.size<=9223372036854775807) (hr:ay w a len cap zs):
  Calls Tryz.prog 185 #[Za #[I n,I z,Y4 Y5 c,Y4 Y5 s,Y4 Y5 u,Y7 d,J a len cap]] w (ar (w_ n z c s u zs) w):=by
 have HR:Hid (ay w a len cap zs):=hr;clear hr;go_enter Tryz.func185,Tryz.ntmps185;go_wp2_with fail;refine (br n _ hn).mono ?_;have z224z:=@aa _ @ads;exact fc
theorem wG(n z:ByteArray) (x y:Bool) (w:World) (hn:n.size<=9223372036854775807) (hz:z.size<=9223372036854775807):
  Calls Tryz.prog 201 #[Za #[I n,Y7 x,Y7 y,I z]] w (ar (qy n z) w):=by
 go_enter Tryz.func201,Tryz.ntmps201;go_wp2_with fail;refine (br n _ hn).mono ?_;have z224z:=@aa _ @adr;exact fc
theorem wH(n:ByteArray) (z:Int) (k:ByteArray) (x:Bool) (v:ByteArray) (w:World) (hn:n.size<=9223372036854775807) (hk:k.size<=9223372036854775807) (hv:v.size<=9223372036854775807):
  Calls Tryz.prog 208 #[Za #[I n,Y4 Y5 z,I k,Y7 x,I v]] w (ar (qA n z k v) w):=by
 go_enter Tryz.func208,Tryz.ntmps208;go_wp2_with fail;refine (br n _ hn).mono ?_;have z224z:=@aa _ @adq;exact fc
theorem wv(n:ByteArray) (c:Int) (z:ByteArray) (a:Option Addr) (len cap:Nat) (d:ByteArray) (p:Int) (w:World) (hd:d.size<=9223372036854775807):
  Calls Tryz.prog 194 #[Za #[I n,Y4 Y5 c,I z,J a len cap,I d,Y4 Y5 p]] w (ar (fi d p) w):=by
 by_cases h0:p=0
 ·subst h0;go_enter Tryz.func194,Tryz.ntmps194;go_wp2;go_ret;exact⟨_,rfl,by rw[eK,fg],ak _ _⟩
 have hq0:(p==0)=Y8:=by simp[h0]
 by_cases h1:p=1
 ·subst h1;go_enter Tryz.func194,Tryz.ntmps194;go_wp2_with (go_at_call 186;refine (br _ _ hd).mono ?_;rintro e w1 ⟨r,rfl,hr,rfl⟩);go_ret;exact⟨r,rfl,by rw[iT d (Or.inl rfl),hr],ak _ _⟩
 have hq1:(p==1)=Y8:=by simp[h1]
 by_cases h2:p=2
 ·subst h2;go_enter Tryz.func194,Tryz.ntmps194;go_wp2_with (go_at_call 186;refine (br _ _ hd).mono ?_;rintro e w1 ⟨r,rfl,hr,rfl⟩);go_ret;exact⟨r,rfl,by rw[iT d (Or.inr rfl),hr],ak _ _⟩
 have hq2:(p==2)=Y8:=by simp[h2]
 go_enter Tryz.func194,Tryz.ntmps194;go_wp2;go_ret;exact⟨Y8,rfl,⟨λh=>bY,λh=>absurd h (qL af)⟩,ak _ _⟩
theorem Qb(n:ByteArray) (c:Int) (z:ByteArray) (a:Option Addr) (len cap:Nat) (zs:List ByteArray) (d:ByteArray) (p:Int) (w:World) (hn:n.size<=9223372036854775807) (hz:z.size<=9223372036854775807) (hd:d.size<=9223372036854775807) (hr:ay w a len cap zs):
  Calls Tryz.prog 192 #[Za #[I n,Y4 Y5 c,I z,J a len cap,I d,Y4 Y5 p]] w (ar (As n c z zs d p) w):=by
 have HR:Hid (ay w a len cap zs):=hr;clear hr;go_enter Tryz.func192,Tryz.ntmps192;go_wp2_with fail;refine (br n _ hn).mono ?_;have z224z:=@aa _ @adp;exact fc
theorem nr(n:ByteArray) (c:Int) (z k:ByteArray) (x:Bool) (m:ByteArray) (y:Bool) (a:Option Addr) (len cap:Nat) (w:World):
  Calls Tryz.prog 205 #[Za #[I n,Y4 Y5 c,I z,I k,Y7 x,I m,Y7 y,J a len cap]] w λe w'=>e=Y9 (Y4 Y5 (if x=Y_ then 1 else 6))/\Below w.heap.size w w':=by
 cases x;all_goals (
  go_enter Tryz.func205,Tryz.ntmps205
  go_wp2
  go_ret
  exact⟨rfl,ak _ _⟩)
/-! The cells of a block, at once; what stands behind a callee that came up over new blocks. -/
theorem uP {o p q:Obj} (h:Below (((w.alloc o).alloc p).alloc q).heap.size (((w.alloc o).alloc p).alloc q) w'):w'.heap[w.heap.size]?=Y3 o/\w'.heap[w.heap.size+1]?=Y3 p/\w'.heap[w.heap.size+1+1]?=Y3 q/\Below w.heap.size w w':=by
 obtain⟨h1,h2⟩:=bB h;rw[db,db] at h1;obtain⟨h3,h4,h5⟩:=eh h2;exact⟨h3,h4,h1,h5⟩
namespace Rc
theorem gX.az {S':Nat->Prop} (h:gX w d c S P) (hk:∀k,k<w.heap.size->S k->w'.heap[k]?=w.heap[k]?) (hs:∀k,k<w.heap.size->S k->S' k):gX w' d c S' P:=
 ⟨h.n.az (λk hl s=>hk k hl s.1) (λk hl s=>⟨hs k hl s.1,s.2⟩),h.k.az (λk hl s=>hk k hl s.1) (λk hl s=>⟨hs k hl s.1,s.2⟩),h.v.az (λk hl s=>hk k hl s.1) (λk hl s=>⟨hs k hl s.1,s.2⟩),h.x.az (λk hl s=>hk k hl s.1) (λk hl s=>⟨hs k hl s.1,s.2⟩),h.p.az (λk hl s=>hk k hl s.1) (λk hl s=>⟨hs k hl s.1,s.2⟩)⟩
theorem cX.below(h:cX w d c S) (hb:Below w.heap.size w w'):cX w' d c S:=by
 obtain⟨P,h⟩:=h;exact⟨P,h.az (λk hk _=>hb.block k hk) (λ_ _ s=>s)⟩
theorem cX.bl {S':Nat->Prop} (h:cX w d c S) (hs:∀k,k<w.heap.size->S k->S' k):cX w d c S':=by
 obtain⟨P,h⟩:=h;exact⟨P,h.az (λ_ _ _=>rfl) hs⟩
end Rc
namespace Ap
theorem ajY {w0:World} {base n:Nat} {v:Value} {zs:List ByteArray} (h:w.ownsRow base 9 1 v n (zs.map Yn)) (hb:Below base w0 w) (hB:base=w0.heap.size) (hs:∀(j:Nat) x,zs[j]?=Y3 x->x.size<=9223372036854775807):
  ∃a l c,v=J a l c/\b_ zs w0 a l c w:=by
 subst hB;obtain⟨hl,h⟩:=h;have hl':zs.length=n:=by simpa using hl
 rcases h with ⟨rfl,rfl⟩|⟨g,cap,cur,rfl,hbg,hg,hnc,hcm,hsz,htk⟩
 ·obtain rfl:zs=[]:=List.eq_nil_of_length_eq_zero hl';exact⟨U,0,0,rfl,⟨rfl,Ye _,by omega,λj x hx=>by simp at hx,Zc rfl⟩,Zc rfl,hb⟩
 ·refine⟨Y3 ⟨g,0,U⟩,n,cap,rfl,⟨hl',hnc,by unfold maxLen at hcm;omega,hs,Zb ⟨g,0,rfl,ae hg,λj x hx=>?_⟩⟩,Zb ⟨g,cur,rfl,hbg,hg⟩,hb⟩;exact PJ
theorem pX(a:Option Addr) (len cap:Nat) (zs:List ByteArray) (w:World) (hr:ay w a len cap zs) (hl:len<=8001):
  Calls Tryz.prog 88 #[J a len cap] w λe w'=> ∃a' l c,e=Y9 (J a' l c)/\b_ zs w a' l c w':=by
 cases a with
 | none=>
  obtain rfl:zs=[]:=by
   rcases hr.2.2.2.2 with h|⟨b,o,e,_⟩
   ·exact h
   ·cases e
  obtain rfl:len=0:=by have:=hr.1;simpa using this.symm
  clear hr
  go_enter Tryz.func88,Tryz.ntmps88
  go_wp2
  go_ret;exact⟨_,_,_,rfl,⟨rfl,Ye _,by omega,λj x hx=>by simp at hx,Zc rfl⟩,Zc rfl,Yh _ _⟩
 | some ad=>
  have HN:=aa (Ab hr);have HZ:=aa hr.2.2.2.1;have hzl:=hr.1;clear hr;obtain⟨i0,hi,hz0,hz1,hz2⟩:=info_parts ig
  go_enter Tryz.func88,Tryz.ntmps88
  go_wp2_with (first|(at_builtin;refine wpList_append_own _ rfl _ _ 36 rfl w.heap.size 9 i0 (I ⟨#[]⟩) 1 16 Tryz.underlying36 hi hz0 hz1 hz2 rfl ag _ 0 _ rfl (World.ownsRow_nil w w.heap.size 9 1) ad len cap (zs.map Yn) rfl ?c1 HN.out ?c3 ?c4 ?c5 (Ye _) ?_))
  case c1=>simpa using hzl
  case c3=>intro u hu;obtain⟨x,_,rfl⟩:=List.mem_map.1 hu;rfl
  case c4=>unfold maxLen;omega
  case c5=>omega
  intro v' w3 hown3 hgrow hv;have HB3:=aa ((Yh w.heap.size w).grown hgrow (Ye _) (λk hk=>by cases hk));have HO:=aa hown3;clear hown3 hgrow hv
  go_wp2
  go_ret;obtain⟨a',l,c,rfl,h2⟩:=ajY HO.out HB3.out rfl HZ.out;exact⟨a',l,c,rfl,h2⟩
theorem alx(n:ByteArray) (c:Int) (z:ByteArray) (k:ByteArray) (x:Bool) (m:ByteArray) (y:Bool) (a:Option Addr) (len cap:Nat) (zs:List ByteArray) (w:World) (hr:ay w a len cap zs) (hl:len<=8001):
  Calls Tryz.prog 84 #[Za #[I n,Y4 Y5 c,I z,I k,Y7 x,I m,Y7 y,J a len cap]] w λe w'=> ∃a' l p,e=Y9 (Za #[I n,Y4 Y5 c,I z,I k,Y7 x,I m,Y7 y,J a' l p])/\b_ zs w a' l p w':=by
 have HR:=aa (hr.below (aR w (Y6 #[I n,Y4 Y5 c,I z,I k,Y7 x,I m,Y7 y,J a len cap] 95) (Y6 #[I ⟨#[]⟩,Y4 Y5 0,I ⟨#[]⟩,I ⟨#[]⟩,Y7 Y8,I ⟨#[]⟩,Y7 Y8,J U 0 0] 95)));clear hr;go_enter Tryz.func84,Tryz.ntmps84;go_wp2_with fail;refine (pX a len cap zs _ HR.out hl).mono ?_;rintro e w3 ⟨a',l,p,rfl,h1,h2,hb⟩;have g0:=(hb.block w.heap.size bJ).trans (d_ _ _ _);have g1:=(hb.block (w.heap.size+1) aF).trans (dZ _ _ _);have HQ:Hid (ay w3 a' l p zs/\(zs=[]\/∃g cur,a'=Y3 ⟨g,0,U⟩/\w.heap.size+1+1<=g/\w3.heap[g]?=Y3 (Y6 cur 9 (0,0)))/\Below w.heap.size w w3):=⟨h1,by simpa using h2,(aR w _ _).trans (hb.mono bJ)⟩;have d0:=ck0 g0;have d1:=ck1 g0;have d2:=ck2 g0;have d3:=ck3 g0;have d4:=ck4 g0;have d5:=ck5 g0;have d6:=ck6 g0;have d7:=ck7 g0;have df7:=al g0 7;have e0:=ck0 g1;have ef0:=al g1 0;have e1:=ck1 g1;have ef1:=al g1 1;have e2:=ck2 g1;have ef2:=al g1 2;have e3:=ck3 g1;have ef3:=al g1 3;have e4:=ck4 g1;have ef4:=al g1 4;have e5:=ck5 g1;have ef5:=al g1 5;have e6:=ck6 g1;have ef6:=al g1 6;have e7:=ck7 g1;have ef7:=al g1 7;have HQ2:=aa (b_.set (b_.set (b_.set (b_.set (b_.set (b_.set (b_.set (b_.set (b_.set HQ.out (b:=w.heap.size) (i:=7) af af (v:=J a' l p)) (b:=w.heap.size+1) (i:=0) af af (v:=I n)) (b:=w.heap.size+1) (i:=1) af af (v:=Y4 Y5 c)) (b:=w.heap.size+1) (i:=2) af af (v:=I z)) (b:=w.heap.size+1) (i:=3) af af (v:=I k)) (b:=w.heap.size+1) (i:=4) af af (v:=Y7 x)) (b:=w.heap.size+1) (i:=5) af af (v:=I m)) (b:=w.heap.size+1) (i:=6) af af (v:=Y7 y)) (b:=w.heap.size+1) (i:=7) af af (v:=J a' l p));clear h1 h2 hb g0 g1;go_wp2_with fail;refine bodyPost_ret (v:=Za #[I n,Y4 Y5 c,I z,I k,Y7 x,I m,Y7 y,J a' l p]) (by simp[results,Tryz.results84,go_sem, *]) rfl ⟨a',l,p,rfl,HQ2.1,?_,HQ2.2.2⟩;rcases HQ2.2.1 with h|⟨g,cur,h1,h2,h3⟩
 ·exact Zc h
 ·exact Zb ⟨g,cur,h1,by omega,h3⟩
end Ap
namespace Rc
theorem wC(x:Nd) (va:Option Addr) (vl vc:Nat) (w:World) (hr:ay w va vl vc x.zs) (hl:vl<=8001):
  Calls Tryz.prog 82 #[Za #[I x.n,I x.z,Y4 Y5 x.c,Y4 Y5 x.s,Y4 Y5 x.u,Y7 x.d,J va vl vc]] w λe w'=> ∃a' l' c',e=Y9 (Za #[I x.n,I x.z,Y4 Y5 x.c,Y4 Y5 x.s,Y4 Y5 x.u,Y7 x.d,J a' l' c'])/\bN w' a' l' c' x.zs (λk=>w.heap.size<=k)/\Below w.heap.size w w':=by
 obtain⟨HR,HB⟩:=mX;clear hr;go_enter Tryz.func82,Tryz.ntmps82;have z269z:=@aa _ @acV;exact zt
theorem qg(a:Option Addr) (len cap:Nat) (xs:List Nd) (w:World) (hr:aT w a len cap 7 (xs.map ndF)) (hl:len<=8) (hs:∀(j:Nat) x,xs[j]?=Y3 x->x.zs.length<=8001):
  Calls Tryz.prog 81 #[J a len cap,.func (.func 82) #[] #[]] w λe w'=> ∃a' c',e=Y9 (J a' len c')/\aw w' a' len c' 7 38 (xs.map ndF) (λk=>w.heap.size<=k)/\Below w.heap.size w w':=by
 have HR:=aa hr;have HS:=aa hs;have hxl:xs.length=len:=fe
 clear hr hs;obtain⟨i0,hi,hz0,hz1,hz2⟩:=info_parts Qg;have HI0:=aa (Yb hi (Yb hz0 (Yb hz1 hz2)));clear hi hz0 hz1 hz2;go_enter Tryz.func81,Tryz.ntmps81;go_wp2;go_loopw [5,10] (λvo vi wr=> ∃(k:Nat) (vss:List (List Value)) (H:Nat->Nat->Nat),k<=len/\vi=Y4 Y5 k/\Hid (wr.ownsRow w.heap.size 38 7 vo k vss.flatten)/\Hid (aQ wr (λk=>w.heap.size<=k) 7 ((xs.take k).map ndF) vss H)/\Hid (Below w.heap.size w wr)) (λ_ vi _=>len - (intOf vi).toNat);case atStart=>exact⟨0,[],λ_ _=>0,by omega,rfl,World.ownsRow_nil _ _ _ _,aQ.nil _ _ _ _,Yh _ _⟩
 case round=>
  obtain⟨k,vss,H,hk,rfl,HO,HV,HB⟩:=hrel;have hBs:=HB.size;by_cases hlt:k<len
  ·have z1067z:=@aa _ @L7;exact mN
  ·have z295z:=@aa _ @acB;exact pN
theorem wB(x:Vd) (va:Option Addr) (vl vc:Nat) (w:World) (hr:ay w va vl vc x.zs) (hl:vl<=8001):
  Calls Tryz.prog 84 #[Za #[I x.n,Y4 Y5 x.c,I x.z,I x.k,Y7 x.x,I x.m,Y7 x.y,J va vl vc]] w λe w'=> ∃a' l' c',e=Y9 (Za #[I x.n,Y4 Y5 x.c,I x.z,I x.k,Y7 x.x,I x.m,Y7 x.y,J a' l' c'])/\bN w' a' l' c' x.zs (λk=>w.heap.size<=k)/\Below w.heap.size w w':=by
 refine (Ap.alx x.n x.c x.z x.k x.x x.m x.y va vl vc x.zs w hr hl).mono ?_;rintro e w' ⟨a',l',c',rfl,h1,h2,hb⟩;exact⟨a',l',c',rfl,⟨h1,h2⟩,hb⟩
theorem qe(a:Option Addr) (len cap:Nat) (xs:List Vd) (w:World) (hr:aT w a len cap 8 (xs.map vdF)) (hl:len<=8) (hs:∀(j:Nat) x,xs[j]?=Y3 x->x.zs.length<=8001):
  Calls Tryz.prog 83 #[J a len cap,.func (.func 84) #[] #[]] w λe w'=> ∃a' c',e=Y9 (J a' len c')/\aw w' a' len c' 8 95 (xs.map vdF) (λk=>w.heap.size<=k)/\Below w.heap.size w w':=by
 have HR:=aa hr;have HS:=aa hs;have hxl:xs.length=len:=fe
 clear hr hs;obtain⟨i0,hi,hz0,hz1,hz2⟩:=info_parts qi;have HI0:=aa (Yb hi (Yb hz0 (Yb hz1 hz2)));clear hi hz0 hz1 hz2;go_enter Tryz.func83,Tryz.ntmps83;go_wp2;go_loopw [5,10] (λvo vi wr=> ∃(k:Nat) (vss:List (List Value)) (H:Nat->Nat->Nat),k<=len/\vi=Y4 Y5 k/\Hid (wr.ownsRow w.heap.size 95 8 vo k vss.flatten)/\Hid (aQ wr (λk=>w.heap.size<=k) 8 ((xs.take k).map vdF) vss H)/\Hid (Below w.heap.size w wr)) (λ_ vi _=>len - (intOf vi).toNat);case atStart=>exact⟨0,[],λ_ _=>0,by omega,rfl,World.ownsRow_nil _ _ _ _,aQ.nil _ _ _ _,Yh _ _⟩
 case round=>
  obtain⟨k,vss,H,hk,rfl,HO,HV,HB⟩:=hrel;have hBs:=HB.size;by_cases hlt:k<len
  ·obtain⟨b,o,x,rfl,hb,hx,hat⟩:=cj (HR.below HB.out) hlt;have z278z:=@aa _ @acO;exact fS
  ·have z295z:=@aa _ @acA;exact pN
theorem nu(x:Pd) (va:Option Addr) (vl vc:Nat) (w:World) (hr:ay w va vl vc x.zs) (hl:vl<=8001):
  Calls Tryz.prog 45 #[Za #[I x.n,Y4 Y5 x.c,I x.z,J va vl vc,I x.d,Y4 Y5 x.p]] w λe w'=> ∃a' l' c',e=Y9 (Za #[I x.n,Y4 Y5 x.c,I x.z,J a' l' c',I x.d,Y4 Y5 x.p])/\bN w' a' l' c' x.zs (λk=>w.heap.size<=k)/\Below w.heap.size w w':=by
 obtain⟨HR,HB⟩:=mX;clear hr;go_enter Tryz.func45,Tryz.ntmps45;have z269z:=@aa _ @acU;exact zt
theorem qf(a:Option Addr) (len cap:Nat) (xs:List Pd) (w:World) (hr:aT w a len cap 6 (xs.map pdF)) (hl:len<=8) (hs:∀(j:Nat) x,xs[j]?=Y3 x->x.zs.length<=8001):
  Calls Tryz.prog 85 #[J a len cap,.func (.func 45) #[] #[]] w λe w'=> ∃a' c',e=Y9 (J a' len c')/\aw w' a' len c' 6 40 (xs.map pdF) (λk=>w.heap.size<=k)/\Below w.heap.size w w':=by
 have HR:=aa hr;have HS:=aa hs;have hxl:xs.length=len:=fe
 clear hr hs;have z702z:=@aa _ @U8;exact lh
end Rc
theorem P6(n:ByteArray) (c:Int) (z k:ByteArray) (x:Bool) (m:ByteArray) (y:Bool) (a:Option Addr) (len cap:Nat) (zs:List ByteArray) (w:World) (hn:n.size<=9223372036854775807) (hz:z.size<=9223372036854775807) (hk:k.size<=9223372036854775807) (hm:m.size<=9223372036854775807) (hr:ay w a len cap zs):
  Calls Tryz.prog 204 #[Za #[I n,Y4 Y5 c,I z,I k,Y7 x,I m,Y7 y,J a len cap]] w (ar (QD n c z k x m y zs) w):=by
 have HR:Hid (ay w a len cap zs):=hr;clear hr;cases y
 ·have HY:Hid (Y8=Y_->m=⟨#[]⟩):=λh=>bY;have z233z:=@aa _ @ado;exact zA
 by_cases hm0:m=⟨#[]⟩
 ·subst hm0;have HY:Hid True:=trivial;have z233z:=@aa _ @adn;exact zA
 have hq9:=aX hm0;go_enter Tryz.func204,Tryz.ntmps204;exact N5
namespace Rc
theorem jY(x:Nd) (va:Option Addr) (vl vc:Nat) (w:World):
  Calls Tryz.prog 183 #[Za #[I x.n,I x.z,Y4 Y5 x.c,Y4 Y5 x.s,Y4 Y5 x.u,Y7 x.d,J va vl vc]] w λe w'=>e=Y9 (I x.n)/\Below w.heap.size w w':=by
 go_enter Tryz.func183,Tryz.ntmps183;go_wp2;go_ret;exact⟨rfl,ak _ _⟩
theorem qZ(x:Nd) (va:Option Addr) (vl vc:Nat) (w:World) (hn:x.n.size<=9223372036854775807) (hz:x.z.size<=9223372036854775807) (hr:ay w va vl vc x.zs):
  Calls Tryz.prog 184 #[Za #[I x.n,I x.z,Y4 Y5 x.c,Y4 Y5 x.s,Y4 Y5 x.u,Y7 x.d,J va vl vc]] w (ar (vV x) w):=by
 have HR:=aa (hr.below (ak w (Y6 (nov x va vl vc) 38)));clear hr;go_enter Tryz.func184,Tryz.ntmps184;go_wp2_with fail;refine (Bh x.n x.z x.c x.s x.u x.d va vl vc x.zs _ hn hz HR.out).mono ?_;exact tP
theorem ub(a:Option Addr) (len cap:Nat) (xs:List Nd) (t:ByteArray) (w:World) (hr:aT w a len cap 7 (xs.map ndF)):
  Calls Tryz.prog 80 #[J a len cap,I t] w λe w'=>e=Y9 (Ze #[Y4 Y5 (pl Nd.n xs t:Nat),Y7 (hit Nd.n xs t)])/\Below w.heap.size w w':=by
 have z1354z:=@aa _ @Ij;exact su
def QM(xs:List Nd) (t:ByteArray) (r w:World) (e:Ending) (w':World):Prop:=
 Below w.heap.size w w'/\((hit Nd.n xs t=Y_/\∃(x:Nd) (va:Option Addr) (vl vc:Nat),xs[pl Nd.n xs t]?=Y3 x/\x.n=t/\e=Y9 (Ze #[Za #[I x.n,I x.z,Y4 Y5 x.c,Y4 Y5 x.s,Y4 Y5 x.u,Y7 x.d,J va vl vc],Y7 Y_])/\x.n.size<=9223372036854775807/\x.z.size<=9223372036854775807/\ay r va vl vc x.zs)\/(hit Nd.n xs t=Y8/\e=Y9 (Ze #[Za #[I ⟨#[]⟩,I ⟨#[]⟩,Y4 Y5 0,Y4 Y5 0,Y4 Y5 0,Y7 Y8,J U 0 0],Y7 Y8])))
theorem wO(a:Option Addr) (len cap:Nat) (xs:List Nd) (t:ByteArray) (r w:World) (hr:aT r a len cap 7 (xs.map ndF)) (hrw:Below r.heap.size r w):
  Calls Tryz.prog 41 #[J a len cap,I t] w (QM xs t r w):=by
 obtain⟨HR,HRW,hxl⟩:=tH;have HR1:=aa ((hr.below hrw).below (ak w (Y6 #[I ⟨#[]⟩,I ⟨#[]⟩,Y4 Y5 0,Y4 Y5 0,Y4 Y5 0,Y7 Y8,J U 0 0] 38)));clear hr hrw;go_enter Tryz.func41,Tryz.ntmps41;go_wp2_with fail;refine (ub a len cap xs t _ HR1.out).mono ?_;have z382z:=@aa _ @abx;exact lq
theorem j6(d:Ad) (now:Int) (xs:List Nd) (t:ByteArray) (r w:World) (hr:aT r d.a1 d.l1 d.c1 7 (xs.map ndF)) (hrw:Below r.heap.size r w):
  Calls Tryz.prog 18 #[Za #[J d.a1 d.l1 d.c1,J d.a2 d.l2 d.c2,J d.a3 d.l3 d.c3,J d.a4 d.l4 d.c4,J d.a5 d.l5 d.c5,Y4 Y5 now],I t] w (QM xs t r w):=by
 have HR:=aa hr;have HRW:=aa (hrw.trans ((aR w (Y6 (clv d now) 29) (Y6 #[I ⟨#[]⟩,I ⟨#[]⟩,Y4 Y5 0,Y4 Y5 0,Y4 Y5 0,Y7 Y8,J U 0 0] 38)).mono hrw.size));clear hr hrw;go_enter Tryz.func18,Tryz.ntmps18;go_wp2_with fail;refine (wO _ _ _ xs t r _ HR.out HRW.out).mono ?_;have z329z:=@aa _ @ab_;exact lu
theorem vg(a:Option Addr) (len cap:Nat) (xs:List Nd) (most:Int) (w:World) (hr:aT w a len cap 7 (xs.map ndF)):
  Calls Tryz.prog 119 #[J a len cap,Y4 Y5 most] w (ar (eT vV Nd.n xs most) w):=by
 have z1354z:=@aa _ @Ii;exact su
theorem jZ(x:Kd)  (w:World):
  Calls Tryz.prog 199 #[Za #[I x.n,Y7 x.x,Y7 x.y,I x.z]] w λe w'=>e=Y9 (I x.n)/\Below w.heap.size w w':=by
 go_enter Tryz.func199,Tryz.ntmps199;go_wp2;go_ret;exact⟨rfl,ak _ _⟩
theorem q7(x:Kd)  (w:World) (hn:x.n.size<=9223372036854775807) (hz:x.z.size<=9223372036854775807):
  Calls Tryz.prog 200 #[Za #[I x.n,Y7 x.x,Y7 x.y,I x.z]] w (ar (wk x) w):=by
 skip;skip;go_enter Tryz.func200,Tryz.ntmps200;go_wp2_with fail;refine (wG x.n x.z x.x x.y _ hn hz).mono ?_;exact tP
theorem ud(a:Option Addr) (len cap:Nat) (xs:List Kd) (t:ByteArray) (w:World) (hr:aT w a len cap 4 (xs.map kdF)):
  Calls Tryz.prog 165 #[J a len cap,I t] w λe w'=>e=Y9 (Ze #[Y4 Y5 (pl Kd.n xs t:Nat),Y7 (hit Kd.n xs t)])/\Below w.heap.size w w':=by
 have z1099z:=@aa _ @LK;exact s9
def QN(xs:List Kd) (t:ByteArray) (_r w:World) (e:Ending) (w':World):Prop:=
 Below w.heap.size w w'/\((hit Kd.n xs t=Y_/\∃(x:Kd),xs[pl Kd.n xs t]?=Y3 x/\x.n=t/\e=Y9 (Ze #[Za #[I x.n,Y7 x.x,Y7 x.y,I x.z],Y7 Y_])/\x.n.size<=9223372036854775807/\x.z.size<=9223372036854775807)\/(hit Kd.n xs t=Y8/\e=Y9 (Ze #[Za #[I ⟨#[]⟩,Y7 Y8,Y7 Y8,I ⟨#[]⟩],Y7 Y8])))
theorem wP(a:Option Addr) (len cap:Nat) (xs:List Kd) (t:ByteArray) (r w:World) (hr:aT r a len cap 4 (xs.map kdF)) (hrw:Below r.heap.size r w):
  Calls Tryz.prog 160 #[J a len cap,I t] w (QN xs t r w):=by
 obtain⟨HR,HRW,hxl⟩:=tH;have HR1:=aa ((hr.below hrw).below (ak w (Y6 #[I ⟨#[]⟩,Y7 Y8,Y7 Y8,I ⟨#[]⟩] 92)));clear hr hrw;go_enter Tryz.func160,Tryz.ntmps160;go_wp2_with fail;refine (ud a len cap xs t _ HR1.out).mono ?_;have z382z:=@aa _ @abw;exact lq
theorem AD(d:Ad) (now:Int) (xs:List Kd) (t:ByteArray) (r w:World) (hr:aT r d.a2 d.l2 d.c2 4 (xs.map kdF)) (hrw:Below r.heap.size r w):
  Calls Tryz.prog 151 #[Za #[J d.a1 d.l1 d.c1,J d.a2 d.l2 d.c2,J d.a3 d.l3 d.c3,J d.a4 d.l4 d.c4,J d.a5 d.l5 d.c5,Y4 Y5 now],I t] w (QN xs t r w):=by
 have HR:=aa hr;have HRW:=aa (hrw.trans ((aR w (Y6 (clv d now) 29) (Y6 #[I ⟨#[]⟩,Y7 Y8,Y7 Y8,I ⟨#[]⟩] 92)).mono hrw.size));clear hr hrw;go_enter Tryz.func151,Tryz.ntmps151;go_wp2_with fail;refine (wP _ _ _ xs t r _ HR.out HRW.out).mono ?_;have z329z:=@aa _ @ab9;exact lu
theorem vh(a:Option Addr) (len cap:Nat) (xs:List Kd) (most:Int) (w:World) (hr:aT w a len cap 4 (xs.map kdF)):
  Calls Tryz.prog 120 #[J a len cap,Y4 Y5 most] w (ar (eT wk Kd.n xs most) w):=by
 have z1099z:=@aa _ @LJ;exact s9
theorem jX(x:Vd) (va:Option Addr) (vl vc:Nat) (w:World):
  Calls Tryz.prog 202 #[Za #[I x.n,Y4 Y5 x.c,I x.z,I x.k,Y7 x.x,I x.m,Y7 x.y,J va vl vc]] w λe w'=>e=Y9 (I x.n)/\Below w.heap.size w w':=by
 go_enter Tryz.func202,Tryz.ntmps202;go_wp2;go_ret;exact⟨rfl,ak _ _⟩
theorem qX(x:Vd) (va:Option Addr) (vl vc:Nat) (w:World) (hn:x.n.size<=9223372036854775807) (hz:x.z.size<=9223372036854775807) (hk:x.k.size<=9223372036854775807) (hm:x.m.size<=9223372036854775807) (hr:ay w va vl vc x.zs):
  Calls Tryz.prog 203 #[Za #[I x.n,Y4 Y5 x.c,I x.z,I x.k,Y7 x.x,I x.m,Y7 x.y,J va vl vc]] w (ar (qJ x) w):=by
 have HR:=aa (hr.below (ak w (Y6 (vov x va vl vc) 95)));clear hr;go_enter Tryz.func203,Tryz.ntmps203;go_wp2_with fail;refine (P6 x.n x.c x.z x.k x.x x.m x.y va vl vc x.zs _ hn hz hk hm HR.out).mono ?_;exact tP
theorem t_(a:Option Addr) (len cap:Nat) (xs:List Vd) (t:ByteArray) (w:World) (hr:aT w a len cap 8 (xs.map vdF)):
  Calls Tryz.prog 167 #[J a len cap,I t] w λe w'=>e=Y9 (Ze #[Y4 Y5 (pl Vd.n xs t:Nat),Y7 (hit Vd.n xs t)])/\Below w.heap.size w w':=by
 have z1096z:=@aa _ @LM;exact s_
def QL(xs:List Vd) (t:ByteArray) (r w:World) (e:Ending) (w':World):Prop:=
 Below w.heap.size w w'/\((hit Vd.n xs t=Y_/\∃(x:Vd) (va:Option Addr) (vl vc:Nat),xs[pl Vd.n xs t]?=Y3 x/\x.n=t/\e=Y9 (Ze #[Za #[I x.n,Y4 Y5 x.c,I x.z,I x.k,Y7 x.x,I x.m,Y7 x.y,J va vl vc],Y7 Y_])/\x.n.size<=9223372036854775807/\x.z.size<=9223372036854775807/\x.k.size<=9223372036854775807/\x.m.size<=9223372036854775807/\ay r va vl vc x.zs)\/(hit Vd.n xs t=Y8/\e=Y9 (Ze #[Za #[I ⟨#[]⟩,Y4 Y5 0,I ⟨#[]⟩,I ⟨#[]⟩,Y7 Y8,I ⟨#[]⟩,Y7 Y8,J U 0 0],Y7 Y8])))
theorem wM(a:Option Addr) (len cap:Nat) (xs:List Vd) (t:ByteArray) (r w:World) (hr:aT r a len cap 8 (xs.map vdF)) (hrw:Below r.heap.size r w):
  Calls Tryz.prog 162 #[J a len cap,I t] w (QL xs t r w):=by
 obtain⟨HR,HRW,hxl⟩:=tH;have HR1:=aa ((hr.below hrw).below (ak w (Y6 #[I ⟨#[]⟩,Y4 Y5 0,I ⟨#[]⟩,I ⟨#[]⟩,Y7 Y8,I ⟨#[]⟩,Y7 Y8,J U 0 0] 95)));clear hr hrw;go_enter Tryz.func162,Tryz.ntmps162;go_wp2_with fail;refine (t_ a len cap xs t _ HR1.out).mono ?_;rintro e w1 ⟨rfl,hb⟩;obtain⟨g1,hb1,-⟩:=ix hb;obtain⟨d0,f0,d1,f1,d2,f2,d3,f3⟩:=Ni;obtain⟨d4,f4,d5,f5,d6,f6⟩:=zP;have d7:=ck7 g1;have f7:=al g1 7;have HB:=aa hb1;have hs1:=hb.size;rw[show (w.alloc (Y6 #[I ⟨#[]⟩,Y4 Y5 0,I ⟨#[]⟩,I ⟨#[]⟩,Y7 Y8,I ⟨#[]⟩,Y7 Y8,J U 0 0] 95)).heap.size=w.heap.size+1 from by simp] at hs1;have hlt1:w.heap.size<w1.heap.size:=af
 clear hb g1 HR1 hs1;cases hh:hit Vd.n xs t
 ·generalize pl Vd.n xs t=j;have HH:=aa hh;clear hh hb1 HR hxl;go_wp2;refine bodyPost_ret (v:=Ze #[Za #[I ⟨#[]⟩,Y4 Y5 0,I ⟨#[]⟩,I ⟨#[]⟩,Y7 Y8,I ⟨#[]⟩,Y7 Y8,J U 0 0],Y7 Y8]) (by simp[results,Tryz.results162,go_sem, *]) rfl ⟨?_,Zb ⟨HH.out,rfl⟩⟩;exact Below.alloc (ah (Ye _) (ah (Ye _) (ah (Ye _) (ah (Ye _) (ah (Ye _) (ah (Ye _) (ah (Ye _) (ah (Ye _) (HB.out))))))))) kG _
 ·obtain⟨x,hx,hn⟩:=cv hh;have hj:pl Vd.n xs t<len:=by have:=(Yc.1 hx).1;omega
  obtain⟨b,o,y,rfl,hbl,hy,hat⟩:=cj HR.out hj;rw[hx] at hy;obtain rfl:=Yd hy;have z278z:=@aa _ @acM;exact fS
theorem fq(d:Ad) (now:Int) (xs:List Vd) (t:ByteArray) (r w:World) (hr:aT r d.a3 d.l3 d.c3 8 (xs.map vdF)) (hrw:Below r.heap.size r w):
  Calls Tryz.prog 153 #[Za #[J d.a1 d.l1 d.c1,J d.a2 d.l2 d.c2,J d.a3 d.l3 d.c3,J d.a4 d.l4 d.c4,J d.a5 d.l5 d.c5,Y4 Y5 now],I t] w (QL xs t r w):=by
 have HR:=aa hr;have HRW:=aa (hrw.trans ((aR w (Y6 (clv d now) 29) (Y6 #[I ⟨#[]⟩,Y4 Y5 0,I ⟨#[]⟩,I ⟨#[]⟩,Y7 Y8,I ⟨#[]⟩,Y7 Y8,J U 0 0] 95)).mono hrw.size));clear hr hrw;go_enter Tryz.func153,Tryz.ntmps153;go_wp2_with fail;refine (wM _ _ _ xs t r _ HR.out HRW.out).mono ?_;have z329z:=@aa _ @ab8;exact lu
theorem ve(a:Option Addr) (len cap:Nat) (xs:List Vd) (most:Int) (w:World) (hr:aT w a len cap 8 (xs.map vdF)):
  Calls Tryz.prog 121 #[J a len cap,Y4 Y5 most] w (ar (eT qJ Vd.n xs most) w):=by
 have z1096z:=@aa _ @LL;exact s_
theorem jW(x:Xd)  (w:World):
  Calls Tryz.prog 206 #[Za #[I x.n,Y4 Y5 x.z,I x.k,Y7 x.x,I x.v]] w λe w'=>e=Y9 (I x.n)/\Below w.heap.size w w':=by
 go_enter Tryz.func206,Tryz.ntmps206;go_wp2;go_ret;exact⟨rfl,ak _ _⟩
theorem qW(x:Xd)  (w:World) (hn:x.n.size<=9223372036854775807) (hk:x.k.size<=9223372036854775807) (hv:x.v.size<=9223372036854775807):
  Calls Tryz.prog 207 #[Za #[I x.n,Y4 Y5 x.z,I x.k,Y7 x.x,I x.v]] w (ar (gB x) w):=by
 skip;skip;go_enter Tryz.func207,Tryz.ntmps207;go_wp2_with fail;refine (wH x.n x.z x.k x.x x.v _ hn hk hv).mono ?_;exact tP
theorem tZ(a:Option Addr) (len cap:Nat) (xs:List Xd) (t:ByteArray) (w:World) (hr:aT w a len cap 5 (xs.map xdF)):
  Calls Tryz.prog 166 #[J a len cap,I t] w λe w'=>e=Y9 (Ze #[Y4 Y5 (pl Xd.n xs t:Nat),Y7 (hit Xd.n xs t)])/\Below w.heap.size w w':=by
 have z1093z:=@aa _ @LO;exact td
def QK(xs:List Xd) (t:ByteArray) (_r w:World) (e:Ending) (w':World):Prop:=
 Below w.heap.size w w'/\((hit Xd.n xs t=Y_/\∃(x:Xd),xs[pl Xd.n xs t]?=Y3 x/\x.n=t/\e=Y9 (Ze #[Za #[I x.n,Y4 Y5 x.z,I x.k,Y7 x.x,I x.v],Y7 Y_])/\x.n.size<=9223372036854775807/\x.k.size<=9223372036854775807/\x.v.size<=9223372036854775807)\/(hit Xd.n xs t=Y8/\e=Y9 (Ze #[Za #[I ⟨#[]⟩,Y4 Y5 0,I ⟨#[]⟩,Y7 Y8,I ⟨#[]⟩],Y7 Y8])))
theorem wL(a:Option Addr) (len cap:Nat) (xs:List Xd) (t:ByteArray) (r w:World) (hr:aT r a len cap 5 (xs.map xdF)) (hrw:Below r.heap.size r w):
  Calls Tryz.prog 161 #[J a len cap,I t] w (QK xs t r w):=by
 obtain⟨HR,HRW,hxl⟩:=tH;have HR1:=aa ((hr.below hrw).below (ak w (Y6 #[I ⟨#[]⟩,Y4 Y5 0,I ⟨#[]⟩,Y7 Y8,I ⟨#[]⟩] 97)));clear hr hrw;go_enter Tryz.func161,Tryz.ntmps161;go_wp2_with fail;refine (tZ a len cap xs t _ HR1.out).mono ?_;have z382z:=@aa _ @abv;exact lq
theorem j5(d:Ad) (now:Int) (xs:List Xd) (t:ByteArray) (r w:World) (hr:aT r d.a4 d.l4 d.c4 5 (xs.map xdF)) (hrw:Below r.heap.size r w):
  Calls Tryz.prog 152 #[Za #[J d.a1 d.l1 d.c1,J d.a2 d.l2 d.c2,J d.a3 d.l3 d.c3,J d.a4 d.l4 d.c4,J d.a5 d.l5 d.c5,Y4 Y5 now],I t] w (QK xs t r w):=by
 have HR:=aa hr;have HRW:=aa (hrw.trans ((aR w (Y6 (clv d now) 29) (Y6 #[I ⟨#[]⟩,Y4 Y5 0,I ⟨#[]⟩,Y7 Y8,I ⟨#[]⟩] 97)).mono hrw.size));clear hr hrw;go_enter Tryz.func152,Tryz.ntmps152;go_wp2_with fail;refine (wL _ _ _ xs t r _ HR.out HRW.out).mono ?_;have z329z:=@aa _ @ab7;exact lu
theorem vd(a:Option Addr) (len cap:Nat) (xs:List Xd) (most:Int) (w:World) (hr:aT w a len cap 5 (xs.map xdF)):
  Calls Tryz.prog 122 #[J a len cap,Y4 Y5 most] w (ar (eT gB Xd.n xs most) w):=by
 have z1093z:=@aa _ @LN;exact td
theorem eB(x:Pd) (va:Option Addr) (vl vc:Nat) (w:World):
  Calls Tryz.prog 190 #[Za #[I x.n,Y4 Y5 x.c,I x.z,J va vl vc,I x.d,Y4 Y5 x.p]] w λe w'=>e=Y9 (I x.n)/\Below w.heap.size w w':=by
 go_enter Tryz.func190,Tryz.ntmps190;go_wp2;go_ret;exact⟨rfl,ak _ _⟩
theorem qY(x:Pd) (va:Option Addr) (vl vc:Nat) (w:World) (hn:x.n.size<=9223372036854775807) (hz:x.z.size<=9223372036854775807) (hd:x.d.size<=9223372036854775807) (hr:ay w va vl vc x.zs):
  Calls Tryz.prog 191 #[Za #[I x.n,Y4 Y5 x.c,I x.z,J va vl vc,I x.d,Y4 Y5 x.p]] w (ar (uf x) w):=by
 have HR:=aa (hr.below (ak w (Y6 (pov x va vl vc) 40)));clear hr;go_enter Tryz.func191,Tryz.ntmps191;go_wp2_with fail;refine (Qb x.n x.c x.z va vl vc x.zs x.d x.p _ hn hz hd HR.out).mono ?_;exact tP
theorem kM(a:Option Addr) (len cap:Nat) (xs:List Pd) (t:ByteArray) (w:World) (hr:aT w a len cap 6 (xs.map pdF)):
  Calls Tryz.prog 78 #[J a len cap,I t] w λe w'=>e=Y9 (Ze #[Y4 Y5 (pl Pd.n xs t:Nat),Y7 (hit Pd.n xs t)])/\Below w.heap.size w w':=by
 obtain⟨HR,hxl,hlc⟩:=oB;clear hr;have z306z:=@aa _ @acs;exact pL
def ahm(xs:List Pd) (t:ByteArray) (r w:World) (e:Ending) (w':World):Prop:=
 Below w.heap.size w w'/\((hit Pd.n xs t=Y_/\∃(x:Pd) (va:Option Addr) (vl vc:Nat),xs[pl Pd.n xs t]?=Y3 x/\x.n=t/\e=Y9 (Ze #[Za #[I x.n,Y4 Y5 x.c,I x.z,J va vl vc,I x.d,Y4 Y5 x.p],Y7 Y_])/\x.n.size<=9223372036854775807/\x.z.size<=9223372036854775807/\x.d.size<=9223372036854775807/\ay r va vl vc x.zs)\/(hit Pd.n xs t=Y8/\e=Y9 (Ze #[Za #[I ⟨#[]⟩,Y4 Y5 0,I ⟨#[]⟩,J U 0 0,I ⟨#[]⟩,Y4 Y5 0],Y7 Y8])))
theorem wN(a:Option Addr) (len cap:Nat) (xs:List Pd) (t:ByteArray) (r w:World) (hr:aT r a len cap 6 (xs.map pdF)) (hrw:Below r.heap.size r w):
  Calls Tryz.prog 39 #[J a len cap,I t] w (ahm xs t r w):=by
 obtain⟨HR,HRW,hxl⟩:=tH;have HR1:=aa ((hr.below hrw).below (ak w (Y6 #[I ⟨#[]⟩,Y4 Y5 0,I ⟨#[]⟩,J U 0 0,I ⟨#[]⟩,Y4 Y5 0] 40)));clear hr hrw;go_enter Tryz.func39,Tryz.ntmps39;go_wp2_with fail;refine (kM a len cap xs t _ HR1.out).mono ?_;have z382z:=@aa _ @abu;exact lq
theorem vf(a:Option Addr) (len cap:Nat) (xs:List Pd) (most:Int) (w:World) (hr:aT w a len cap 6 (xs.map pdF)):
  Calls Tryz.prog 123 #[J a len cap,Y4 Y5 most] w (ar (eT uf Pd.n xs most) w):=by
 obtain⟨HR,hxl,hlc⟩:=oB;clear hr;have hmcalled:∀(v:Value) (w:World),(method 340 40 v "loop.example/g00571/impl.called").run Tryz.prog w=.ok (190,v) w:=λ_ _=>by kernel_rfl
 have hmright:∀(v:Value) (w:World),(method 340 40 v "loop.example/g00571/impl.right").run Tryz.prog w=.ok (191,v) w:=λ_ _=>by kernel_rfl
 by_cases hmo:most<(len:Int)
 ·go_enter Tryz.func123,Tryz.ntmps123;exact nh
 go_enter Tryz.func123,Tryz.ntmps123;go_wp2;go_loopw [5,14] (λq i wr=> ∃(k:Nat) (y:ByteArray),k<=len/\q=I y/\i=Y4 Y5 k/\Hid (k=0->y=⟨#[]⟩)/\Hid (∀z,0<k->xs[k - 1]?=Y3 z->z.n=y)/\Hid (∀(j:Nat) z,j<k->xs[j]?=Y3 z->uf z)/\Hid (∀(j:Nat) z u,j+1<k->xs[j+1]?=Y3 z->xs[j]?=Y3 u->Yk u.n.toList z.n.toList=Y_)/\Hid (Below w.heap.size w wr)) (λ_ i _=>len - (intOf i).toNat);case atStart=>exact⟨0,_,by omega,rfl,rfl,λ_=>rfl,λ_ h=>absurd h af,λ_ _ h=>absurd h af,λ_ _ _ h=>absurd h af,Yh _ _⟩
 case round=>
  obtain⟨k,y,hk,rfl,rfl,H0,H1,HE,HO,HB⟩:=hrel;by_cases hlt:k<len
  ·obtain⟨b,o,x,rfl,hb,hx,hat⟩:=cq (HR.below HB.out) hlt;have z1011z:=@aa _ @MO;exact dv
  ·exact tS
def ens(w:World):Prop:=∃T v,w.cell? ⟨4,0,U⟩=Y3 (.iface T v)
theorem ens.lt(h:ens w):4<w.heap.size:=by
 obtain⟨T,v,h⟩:=h;rcases Nat.lt_or_ge (4) w.heap.size with h1|h1
 ·exact h1
 ·simp[World.cell?,Array.getElem?_eq_none h1] at h
theorem ens.below(h:ens w) (hb:Below w.heap.size w w'):ens w':=by
 have hl:=h.lt;obtain⟨T,v,h⟩:=h;exact⟨T,v,(ai hb hl).trans h⟩
def alG(p:Prop) (w:World) (e:Ending) (w':World):Prop:=Below w.heap.size w w'/\((p/\e=Y9 .nilIface)\/(¬p/\∃T v,e=Y9 (.iface T v)))
theorem iB(d:Ad) (now:Int) (xs:List Kd) (t:ByteArray) (w:World) (hr:aT w d.a2 d.l2 d.c2 4 (xs.map kdF)) (hG:ens w):
  Calls Tryz.prog 124 #[Za #[J d.a1 d.l1 d.c1,J d.a2 d.l2 d.c2,J d.a3 d.l3 d.c3,J d.a4 d.l4 d.c4,J d.a5 d.l5 d.c5,Y4 Y5 now],I t] w (alG (hit Kd.n xs t=Y_) w):=by
 have HR:=aa hr;have HE:=aa hG;have HB:=aa (Yh w.heap.size w);clear hr hG;go_enter Tryz.func124,Tryz.ntmps124;go_wp2_with fail;refine (AD d now xs t w _ HR.out (ak _ _)).mono ?_;rintro e w1 ⟨hb,hf⟩;obtain⟨HA0,hbx⟩:=bB hb;replace HB:=upB HB hbx;clear hb hbx HA0;obtain⟨T,v,hv⟩:=HE.below HB.out;have hl:=(HE.below HB.out).lt;clear HE HR;rcases hf with ⟨hh,x,hx,hn,rfl,z0,z3⟩|⟨hh,rfl⟩
 ·have HH:=aa hh;clear hh hx hn z0 z3;go_wp2;go_ret;exact⟨(HB.alloc HB.size _),Zc ⟨HH.out,rfl⟩⟩
 ·have HH:=aa hh;clear hh;go_wp2;go_ret;exact⟨(HB.alloc HB.size _),Zb ⟨by rw[HH.out];decide,T,v,rfl⟩⟩
theorem oM(d:Ad) (c:Cl) (t s:ByteArray) (w:World) (hr:aB w d c.raw) (hx:aH Xd.n c.xs) (hv:aH Vd.n c.vs):
  Calls Tryz.prog 125 #[Za #[J d.a1 d.l1 d.c1,J d.a2 d.l2 d.c2,J d.a3 d.l3 d.c3,J d.a4 d.l4 d.c4,J d.a5 d.l5 d.c5,Y4 Y5 c.now],I t,I s] w (ar (nS c t s) w):=by
 obtain⟨HR,HB⟩:=mX;have HX:=aa hx;have HV:=aa hv;clear hr hx hv;go_enter Tryz.func125,Tryz.ntmps125;go_wp2_with fail;refine (j5 d c.now c.xs t w _ HR.x (ak _ _)).mono ?_;rintro e w1 ⟨hb,hf⟩;have z716z:=@aa _ @UX;exact lg
theorem wI(d:Ad) (c:Cl) (w:World) (hr:aB w d c.raw) (hxr:aH Xd.n c.xs) (hvr:aH Vd.n c.vs) (hG:ens w):
  Calls Tryz.prog 74 #[Za #[J d.a1 d.l1 d.c1,J d.a2 d.l2 d.c2,J d.a3 d.l3 d.c3,J d.a4 d.l4 d.c4,J d.a5 d.l5 d.c5,Y4 Y5 c.now]] w (ar (xi c) w):=by
 have z519z:=@aa _ @XH;exact cK
theorem wE(a:Option Addr) (len cap:Nat) (zs:List ByteArray) (t:ByteArray) (w:World) (hr:ay w a len cap zs):
  Calls Tryz.prog 163 #[J a len cap,I t] w λe w'=>(∃r:Int,e=Y9 (Y4 Y5 r)/\((0<=r/\InL zs t)\/(r= -1/\¬InL zs t)))/\w'=w:=by
 have HR:=aa hr;have hlc:=Yl hr.2.1 hr.2.2.1;have hzl:=hr.1;clear hr;go_enter Tryz.func163,Tryz.ntmps163;go_wp2;go_loop [8] (λi=> ∃k:Nat,k<=len/\i=Y4 Y5 k/\Hid (∀(j:Nat) x,j<k->zs[j]?=Y3 x->¬x=t)) (λi=>len - (intOf i).toNat);case atStart=>exact⟨0,by omega,rfl,λ_ _ h=>absurd h af⟩
 case round=>
  obtain⟨k,hk,rfl,HE⟩:=hrel;by_cases hlt:k<len
  ·obtain⟨b,o,x,rfl,hb,hx,hc,hsz⟩:=HR.at hlt;have HX:=aa hx;clear hx;by_cases hn:t=x
   ·have hq:=aP hn;have HN:=aa hn;clear hn;go_wp2;go_ret;exact⟨⟨k,rfl,Zc ⟨by omega,k,by rw[HX.out,HN.out]⟩⟩,rfl⟩
   ·have hq:=bA hn;have HN:=aa hn;clear hn;go_wp2;refine⟨⟨k+1,by omega,by go_num,λj z hj hz=>?_⟩,by simp[intOf];omega⟩;by_cases e:j=k
    ·subst e;rw[HX.out] at hz;obtain rfl:=Yd hz;exact λq=>HN.out q.symm
    ·exact HE.out j z af hz
  ·obtain rfl:len=k:=af
   go_wp2;go_ret;exact⟨⟨-1,rfl,Zb ⟨rfl,λ⟨j,hj⟩=>HE.out j t tF hj rfl⟩⟩,rfl⟩
theorem dY(a:Option Addr) (len cap:Nat) (zs:List ByteArray) (t:ByteArray) (w:World) (hr:ay w a len cap zs):
  Calls Tryz.prog 155 #[J a len cap,I t] w (ar (InL zs t) w):=by
 have HR:=aa hr;clear hr;go_enter Tryz.func155,Tryz.ntmps155;go_wp2_with fail;refine (wE a len cap zs t _ HR.out).mono ?_;rintro e w1 ⟨⟨r,rfl,hr⟩,rfl⟩;rcases hr with ⟨h0,hi⟩|⟨rfl,hi⟩
 ·go_wp2;go_ret;exact ar.t hi (Yh _ _)
 ·go_wp2;go_ret;exact ar.f hi (Yh _ _)
theorem ny(d:Ad) (now:Int) (xs:List Xd) (a:Option Addr) (len cap:Nat) (zs:List ByteArray) (w:World) (hr:aT w d.a4 d.l4 d.c4 5 (xs.map xdF)) (hz:ay w a len cap zs) (hG:ens w):
  Calls Tryz.prog 126 #[Za #[J d.a1 d.l1 d.c1,J d.a2 d.l2 d.c2,J d.a3 d.l3 d.c3,J d.a4 d.l4 d.c4,J d.a5 d.l5 d.c5,Y4 Y5 now],J a len cap] w (alG (∀(j:Nat) t,zs[j]?=Y3 t->hit Xd.n xs t=Y_) w):=by
 have HR:=aa hr;have HE:=aa hG;have HZ:=aa hz;have hlc:=Yl hz.2.1 hz.2.2.1;have hzl:=hz.1;clear hr hG hz;go_enter Tryz.func126,Tryz.ntmps126;go_wp2;go_loopw [11] (λi wr=> ∃k:Nat,k<=len/\i=Y4 Y5 k/\Hid (∀(j:Nat) t,j<k->zs[j]?=Y3 t->hit Xd.n xs t=Y_)/\Hid (Below w.heap.size w wr)/\Hid (wr.heap[w.heap.size]?=Y3 (Y6 (clv d now) 29 (0,0)))) (λi _=>len - (intOf i).toNat);case atStart=>exact⟨0,by omega,rfl,λ_ _ h=>absurd h af,ak _ _,Yg⟩
 case round=>
  obtain⟨k,hk,rfl,HQ,HB,Bk⟩:=hrel;by_cases hlt:k<len
  ·obtain⟨b,o,t,rfl,hb,hx,hc,hsz⟩:=(HZ.below HB.out).at hlt;have HX:=aa hx;clear hx;obtain⟨k0,k1,k2,k3,k4,k5⟩:=cs6 Bk;go_wp2_with fail;refine (j5 d now xs t w _ HR.out HB.out).mono ?_;rintro e w1 ⟨hb2,hf⟩;clear k0 k1 k2 k3 k4 k5;replace Bk:=upK Bk hb2;replace HB:=upB HB hb2;clear hb2;clear hb hc hsz;obtain⟨T,q,hv⟩:=HE.below HB.out;have hl:=(HE.below HB.out).lt;rcases hf with ⟨hh,x,hx,hn,rfl,z0,z2,z4⟩|⟨hh,rfl⟩
   ·have HH:=aa hh;clear hh hx hn z0 z2 z4 hv hl;go_wp2;refine⟨⟨k+1,by omega,by go_num,λj z hj hz=>?_,HB.alloc HB.size _,(Ym _ _ _ (ae Bk.out)).trans Bk.out⟩,by simp[intOf];omega⟩;by_cases e:j=k
    ·subst e;rw[HX.out] at hz;obtain rfl:=Yd hz;exact HH.out
    ·exact HQ.out j z af hz
   ·have HH:=aa hh;clear hh;go_wp2;go_ret;exact⟨HB.alloc HB.size _,Zb ⟨λh=>(by have:=h k t HX.out;rw[HH.out] at this;cases this),T,q,rfl⟩⟩
  ·obtain rfl:len=k:=af
   go_wp2;go_ret;exact⟨HB.out,Zc ⟨λj t ht=>HQ.out j t zM ht,rfl⟩⟩
def alX(c:Cl) (t:ByteArray) (r w:World) (e:Ending) (w':World):Prop:=
 Below w.heap.size w w'/\((∃(v:Vd) (va:Option Addr) (vl vc:Nat),aY c t v/\e=Y9 (Ze #[Za #[I v.n,Y4 Y5 v.c,I v.z,I v.k,Y7 v.x,I v.m,Y7 v.y,J va vl vc],Y7 Y_])/\v.n.size<=9223372036854775807/\v.z.size<=9223372036854775807/\ay r va vl vc v.zs)\/((∀v,¬aY c t v)/\e=Y9 (Ze #[Za #[I ⟨#[]⟩,Y4 Y5 0,I ⟨#[]⟩,I ⟨#[]⟩,Y7 Y8,I ⟨#[]⟩,Y7 Y8,J U 0 0],Y7 Y8])))
theorem afE(d:Ad) (c:Cl) (t:ByteArray) (r:World) (w:World) (hr:aB r d c.raw) (hrw:Below r.heap.size r w) (hx:aH Xd.n c.xs) (hv:aH Vd.n c.vs) (hne:∀(j:Nat) v,c.vs[j]?=Y3 v->¬v.n=⟨#[]⟩):
  Calls Tryz.prog 154 #[Za #[J d.a1 d.l1 d.c1,J d.a2 d.l2 d.c2,J d.a3 d.l3 d.c3,J d.a4 d.l4 d.c4,J d.a5 d.l5 d.c5,Y4 Y5 c.now],I t] w (alX c t r w):=by
 have HR:=aa hr;have HRW:=aa hrw;obtain⟨HX,HV,HNE⟩:=iH;have HB:=aa (Yh w.heap.size w);clear hr hx hv hrw hne;go_enter Tryz.func154,Tryz.ntmps154;go_wp2_with fail;refine (j5 d c.now c.xs t r _ HR.x (HRW.trans ((aR _ _ _).mono HRW.size))).mono ?_;rintro e w1 ⟨hb,hf⟩;obtain⟨HA0,HA1,hbx⟩:=eh hb;have Bk:=aa HA0;have Bs:=aa HA1;replace HB:=upB HB hbx;clear hb hbx HA0 HA1;rcases hf with ⟨hh,x,hx,hn,rfl,z0,z2,z4⟩|⟨hh,rfl⟩
 ·have HX1:=aa hx;have HN1:=aa hn;clear hx hn hh z0 z2 z4;have z177z:=@aa _ @ad_;exact dx
 ·have HH1:=aa hh;clear hh;have z177z:=@aa _ @ad9;exact dx
theorem p_(d:Ad) (now:Int) (ps:List Pd) (t:ByteArray) (w:World) (hr:aT w d.a5 d.l5 d.c5 6 (ps.map pdF)) (hl:ps.length<=8) (hp:∀(j:Nat) p,ps[j]?=Y3 p->0<=p.c/\p.c<=1000000):
  Calls Tryz.prog 128 #[Za #[J d.a1 d.l1 d.c1,J d.a2 d.l2 d.c2,J d.a3 d.l3 d.c3,J d.a4 d.l4 d.c4,J d.a5 d.l5 d.c5,Y4 Y5 now],I t] w λe w'=>e=Y9 (Y4 Y5 (cpuOf t ps))/\Below w.heap.size w w':=by
 have z421z:=@aa _ @aa6;exact yU
theorem Qe(d:Ad) (c:Cl) (t:ByteArray) (w:World) (hr:aB w d c.raw):
  Calls Tryz.prog 129 #[Za #[J d.a1 d.l1 d.c1,J d.a2 d.l2 d.c2,J d.a3 d.l3 d.c3,J d.a4 d.l4 d.c4,J d.a5 d.l5 d.c5,Y4 Y5 c.now],I t] w (ar (Au c t) w):=by
 have z519z:=@aa _ @XG;exact cK
theorem A8(d:Ad) (c:Cl) (p:Pd) (pa:Option Addr) (pl pc:Nat) (w:World) (hr:aB w d c.raw) (hn:aH Nd.n c.ns) (hx:aH Xd.n c.xs) (hv:aH Vd.n c.vs) (hne:∀(j:Nat) v,c.vs[j]?=Y3 v->¬v.n=⟨#[]⟩) (hp:ay w pa pl pc p.zs):
  Calls Tryz.prog 127 #[Za #[J d.a1 d.l1 d.c1,J d.a2 d.l2 d.c2,J d.a3 d.l3 d.c3,J d.a4 d.l4 d.c4,J d.a5 d.l5 d.c5,Y4 Y5 c.now],Za #[I p.n,Y4 Y5 p.c,I p.z,J pa pl pc,I p.d,Y4 Y5 p.p]] w (ar (ahk c p) w):=by
 have z1075z:=@aa _ @L1;exact tk
theorem Qa(d:Ad) (c:Cl) (p:Pd) (pa:Option Addr) (pl pc:Nat) (w:World) (hr:aB w d c.raw) (hn:aH Nd.n c.ns) (hx:aH Xd.n c.xs) (hv:aH Vd.n c.vs) (hne:∀(j:Nat) v,c.vs[j]?=Y3 v->¬v.n=⟨#[]⟩) (hp:ay w pa pl pc p.zs):
  Calls Tryz.prog 132 #[Za #[J d.a1 d.l1 d.c1,J d.a2 d.l2 d.c2,J d.a3 d.l3 d.c3,J d.a4 d.l4 d.c4,J d.a5 d.l5 d.c5,Y4 Y5 c.now],Za #[I p.n,Y4 Y5 p.c,I p.z,J pa pl pc,I p.d,Y4 Y5 p.p]] w (ar (alL c p) w):=by
 have z1075z:=@aa _ @L0;exact tk
theorem Qi(d:Ad) (c:Cl) (n:Nd) (pa:Option Addr) (pl pc:Nat) (w:World) (hr:aB w d c.raw) (hv:aH Vd.n c.vs) (hp:ay w pa pl pc n.zs):
  Calls Tryz.prog 131 #[Za #[J d.a1 d.l1 d.c1,J d.a2 d.l2 d.c2,J d.a3 d.l3 d.c3,J d.a4 d.l4 d.c4,J d.a5 d.l5 d.c5,Y4 Y5 c.now],Za #[I n.n,I n.z,Y4 Y5 n.c,Y4 Y5 n.s,Y4 Y5 n.u,Y7 n.d,J pa pl pc]] w (ar (QI c n) w):=by
 have HR:=aa hr;have HV:=aa hv;have HP:=aa hp;have hlc:=Yl hp.2.1 hp.2.2.1;have hzl:=hp.1;clear hr hv hp;go_enter Tryz.func131,Tryz.ntmps131;go_wp2;go_loopw [12] (λi wr=> ∃k:Nat,k<=pl/\i=Y4 Y5 k/\Hid (∀(j:Nat) t,j<k->n.zs[j]?=Y3 t->∃(i:Nat) (v:Vd),c.vs[i]?=Y3 v/\v.n=t/\(n.d=Y_\/InL v.zs n.n))/\Hid (Below w.heap.size w wr)/\Hid (wr.heap[w.heap.size]?=Y3 (Y6 (clv d c.now) 29 (0,0)))/\Hid (wr.heap[w.heap.size+1]?=Y3 (Y6 (nov n pa pl pc) 38 (0,0)))) (λi _=>pl - (intOf i).toNat);case atStart=>exact⟨0,by omega,rfl,λ_ _ h=>absurd h af,aR _ _ _,d_ _ _ _,dZ _ _ _⟩
 case round=>
  obtain⟨k,hk,rfl,HQ,HB,Bk,Bn⟩:=hrel;by_cases hlt:k<pl
  ·have z1084z:=@aa _ @LV;exact tg
  ·exact Pc
open Classical in
open Classical in
theorem nt(d:Ad) (now:Int) (vs:List Vd) (t:ByteArray) (w:World) (hr:aT w d.a3 d.l3 d.c3 8 (vs.map vdF)) (hl:vs.length<=8):
  Calls Tryz.prog 130 #[Za #[J d.a1 d.l1 d.c1,J d.a2 d.l2 d.c2,J d.a3 d.l3 d.c3,J d.a4 d.l4 d.c4,J d.a5 d.l5 d.c5,Y4 Y5 now],I t] w λe w'=>e=Y9 (Y4 Y5 (onOf t vs))/\Below w.heap.size w w':=by
 obtain⟨a1,l1,y1,a2,l2,y2,a3,l3,y3,a4,l4,y4,a5,l5,y5⟩:=d;dsimp only at hr ⊢;have HR:=aa hr;have hxl:vs.length=l3:=fe
 clear hr;go_enter Tryz.func130,Tryz.ntmps130;go_wp2;go_loopw [5,11] (λq i wr=> ∃(k:Nat) (s:Int),k<=l3/\q=Y4 Y5 s/\i=Y4 Y5 k/\Hid (s=onOf t (vs.take k))/\0<=s/\s<=k/\Hid (Below w.heap.size w wr)) (λ_ i _=>l3 - (intOf i).toNat);case atStart=>exact⟨0,0,by omega,rfl,rfl,rfl,by omega,by omega,ak _ _⟩
 case round=>
  obtain⟨k,s,hk,rfl,rfl,HS,hs0,hs1,HB⟩:=hrel;by_cases hlt:k<l3
  ·obtain⟨b,o,v,rfl,hb,hx,hat⟩:=cj (HR.below HB.out) hlt;have z278z:=@aa _ @acL;exact fS
  ·obtain rfl:l3=k:=af
   exact vQ
theorem uw(d:Ad) (c:Cl) (w:World) (hr:aB w d c.raw) (hn:aH Nd.n c.ns) (hx:aH Xd.n c.xs) (hv:aH Vd.n c.vs) (hne:∀(j:Nat) v,c.vs[j]?=Y3 v->¬v.n=⟨#[]⟩) (hps8:c.ps.length<=8) (hpc:∀(j:Nat) p,c.ps[j]?=Y3 p->0<=p.c/\p.c<=1000000) (hG:ens w):
  Calls Tryz.prog 75 #[Za #[J d.a1 d.l1 d.c1,J d.a2 d.l2 d.c2,J d.a3 d.l3 d.c3,J d.a4 d.l4 d.c4,J d.a5 d.l5 d.c5,Y4 Y5 c.now]] w (ar (qv c) w):=by
 have z519z:=@aa _ @XF;exact cK
theorem nM(d:Ad) (c:Cl) (w:World) (hr:aB w d c.raw) (hn:aH Nd.n c.ns) (hvs8:c.vs.length<=8):
  Calls Tryz.prog 76 #[Za #[J d.a1 d.l1 d.c1,J d.a2 d.l2 d.c2,J d.a3 d.l3 d.c3,J d.a4 d.l4 d.c4,J d.a5 d.l5 d.c5,Y4 Y5 c.now]] w (ar (oU c) w):=by
 have z519z:=@aa _ @XE;exact cK
theorem qk(d:Ad) (c:Cl) (w:World) (hr:aB w d c.raw) (hn:aH Nd.n c.ns) (hx:aH Xd.n c.xs) (hv:aH Vd.n c.vs) (hne:∀(j:Nat) v,c.vs[j]?=Y3 v->¬v.n=⟨#[]⟩):
  Calls Tryz.prog 77 #[Za #[J d.a1 d.l1 d.c1,J d.a2 d.l2 d.c2,J d.a3 d.l3 d.c3,J d.a4 d.l4 d.c4,J d.a5 d.l5 d.c5,Y4 Y5 c.now]] w (ar (nF c) w):=by
 have z519z:=@aa _ @XD;exact cK
theorem Bd(d:Ad) (c:Cl) (w:World) (hr:aB w d c.raw):
  Calls Tryz.prog 73 #[Za #[J d.a1 d.l1 d.c1,J d.a2 d.l2 d.c2,J d.a3 d.l3 d.c3,J d.a4 d.l4 d.c4,J d.a5 d.l5 d.c5,Y4 Y5 c.now]] w (ar (cM c) w):=by
 obtain⟨HR,HB⟩:=mX;clear hr;go_enter Tryz.func73,Tryz.ntmps73;go_wp2_with fail;refine (vg _ _ _ c.ns 6 _ (HR.n.below (HB.trans ((ak _ _).mono HB.size)))).mono ?_;rintro e w1 ⟨r,rfl,hi,hb⟩;have z716z:=@aa _ @UW;exact lg
theorem wA(d:Ad) (c:Cl) (w:World) (hr:aB w d c.raw) (hG:ens w):
  Calls Tryz.prog 38 #[Za #[J d.a1 d.l1 d.c1,J d.a2 d.l2 d.c2,J d.a3 d.l3 d.c3,J d.a4 d.l4 d.c4,J d.a5 d.l5 d.c5,Y4 Y5 c.now]] w (ar (av c) w):=by
 have HR:=aa hr;have HE:=aa hG;have HB:=aa (Yh w.heap.size w);clear hr hG;go_enter Tryz.func38,Tryz.ntmps38;go_wp2_with fail;refine (cH c.now 0 1000000 _).mono ?_;have z275z:=@aa _ @acQ;exact zq
structure Ers (w:World) (E:Nat->Addr):Prop where
 v0:w.cell? ⟨2,0,U⟩=Y3 (.iface 193 (Zd (Y3 (E 0))))
 v1:w.cell? ⟨3,0,U⟩=Y3 (.iface 193 (Zd (Y3 (E 1))))
 v2:w.cell? ⟨4,0,U⟩=Y3 (.iface 193 (Zd (Y3 (E 2))))
 v3:w.cell? ⟨6,0,U⟩=Y3 (.iface 193 (Zd (Y3 (E 3))))
 v4:w.cell? ⟨8,0,U⟩=Y3 (.iface 193 (Zd (Y3 (E 4))))
 v5:w.cell? ⟨9,0,U⟩=Y3 (.iface 193 (Zd (Y3 (E 5))))
 v6:w.cell? ⟨7,0,U⟩=Y3 (.iface 193 (Zd (Y3 (E 6))))
 v7:w.cell? ⟨1,0,U⟩=Y3 (.iface 193 (Zd (Y3 (E 7))))
 v8:w.cell? ⟨0,0,U⟩=Y3 (.iface 193 (Zd (Y3 (E 8))))
 v9:w.cell? ⟨5,0,U⟩=Y3 (.iface 193 (Zd (Y3 (E 9))))
 blk:∀i,i<10->∃cs T,w.heap[(E i).block]?=Y3 (Y6 cs T (0,0))
 inj:∀i j,i<10->j<10->E i=E j->i=j
theorem Ers.below(h:Ers w E) (hb:Below w.heap.size w w'):Ers w' E:=
 ⟨(ai hb (bf h.v0)).trans h.v0,(ai hb (bf h.v1)).trans h.v1,(ai hb (bf h.v2)).trans h.v2,(ai hb (bf h.v3)).trans h.v3,(ai hb (bf h.v4)).trans h.v4,(ai hb (bf h.v5)).trans h.v5,(ai hb (bf h.v6)).trans h.v6,(ai hb (bf h.v7)).trans h.v7,(ai hb (bf h.v8)).trans h.v8,(ai hb (bf h.v9)).trans h.v9,λi hi=>by
  obtain⟨cs,T,h1⟩:=h.blk i hi;exact⟨cs,T,(hb.block _ (ae h1)).trans h1⟩,h.inj⟩
theorem Ers.ens(h:Ers w E):ens w:=⟨_,_,h.v2⟩
theorem P8(v:Value) (w:World):(Extern.ReflectliteType.typeOf #[.iface 193 v]).run Tryz.prog w=.ok (.iface 176 (Za #[Zd (Y3 ⟨10,193,U⟩)])) w:=by kernel_rfl
def alB:Array Value->Sem Value:=Extern.ReflectliteType.method λt=>do Rtype.noPackHeld "Comparable" t;pure (Y7 (<-typeInfo t).comparable)
theorem qd(w:World):(alB #[Za #[Zd (Y3 ⟨10,193,U⟩)]]).run Tryz.prog w=.ok (Y7 Y_) w:=by kernel_rfl
theorem iK(v:Value) (w:World):(Go.method 340 176 v "Comparable").run Tryz.prog w=.ok (218,v) w:=by kernel_rfl
theorem P_:(Tryz.prog.info? 193).map (·.comparable)=Y3 Y_:=by kernel_rfl
theorem P9:(Tryz.prog.info? 228).map (·.size)=Y3 1:=by kernel_rfl
theorem alu(v:Value) (xT:TypeId) (w:World):(Instr.typeAssert (.iface 193 v) xT 178 Y_).run Tryz.prog w=.ok (Ze #[.nilIface,Y7 Y8]) w:=run_typeAssert_lacksB Tryz.underlying178 (by kernel_rfl) (by kernel_rfl) v xT w
theorem AX(v:Value) (xT:TypeId) (w:World):(Instr.typeAssert (.iface 193 v) xT 181 Y_).run Tryz.prog w=.ok (Ze #[.nilIface,Y7 Y8]) w:=run_typeAssert_lacksB Tryz.underlying181 (by kernel_rfl) (by kernel_rfl) v xT w
theorem vU(v:Value) (xT:TypeId) (w:World):(Instr.typeAssert (.iface 193 v) xT 183 Y_).run Tryz.prog w=.ok (Ze #[.nilIface,Y7 Y8]) w:=run_typeAssert_lacksB Tryz.underlying183 (by kernel_rfl) (by kernel_rfl) v xT w
theorem ff(a:Addr) (w:World)  :
  Calls Tryz.prog 79 #[.iface 193 (Zd (Y3 (a))),.iface 193 (Zd (Y3 (a)))] w λe w'=>e=Y9 (Y7 Y_)/\w'=w:=by
 obtain⟨i,hi,hcmp⟩:=Yz.1 P_;obtain⟨j,hj,hjs⟩:=Yz.1 P9;obtain⟨h8,h32,tT,cT,mR⟩:=agp;have heq:=run_eql_iface_ptr_same (P:=Tryz.prog) w a Tryz.underlying51 Tryz.underlying193 hi hcmp hj;exact OX
theorem P7(a b:Addr) (ca cb:Array Value) (ta tb:TypeId) (w:World) (hne:a≠b) (ha:w.heap[a.block]?=Y3 (Y6 ca ta (0,0))) (hb:w.heap[b.block]?=Y3 (Y6 cb tb (0,0))):
  Calls Tryz.prog 79 #[.iface 193 (Zd (Y3 (a))),.iface 193 (Zd (Y3 (b)))] w λe w'=>e=Y9 (Y7 Y8)/\w'=w:=by
 obtain⟨i,hi,hcmp⟩:=Yz.1 P_;obtain⟨j,hj,hjs⟩:=Yz.1 P9;obtain⟨h8,h32,tT,cT,mR⟩:=agp;have nE:=alu;have uE:=AX;have vE:=vU;have heq:=run_eql_iface_ptr_other (P:=Tryz.prog) w Tryz.underlying51 Tryz.underlying193 hi hcmp hj (by rw[hjs];decide) hne ha hb;exact OX
theorem aI(h:Ers w E) (i j:Nat) (hi:i<10) (hj:j<10) (hne:¬i=j):
  Calls Tryz.prog 79 #[.iface 193 (Zd (Y3 (E i))),.iface 193 (Zd (Y3 (E j)))] w λe w'=>e=Y9 (Y7 Y8)/\w'=w:=by
 obtain⟨ca,ta,h1⟩:=h.blk i hi;obtain⟨cb,tb,h2⟩:=h.blk j hj;exact P7 (E i) (E j) ca cb ta tb w (λe=>hne (h.inj i j hi hj e)) h1 h2
theorem ama(E:Nat->Addr) (w:World) (h:Ers w E):Calls Tryz.prog 40 #[.iface 193 (Zd (Y3 (E 0)))] w λe w'=>e=Y9 (Y4 Y5 2)/\w'=w:=by
 have z250z:=@aa _ @ada;exact ez
theorem al_(E:Nat->Addr) (w:World) (h:Ers w E):Calls Tryz.prog 40 #[.iface 193 (Zd (Y3 (E 1)))] w λe w'=>e=Y9 (Y4 Y5 1)/\w'=w:=by
 have z250z:=@aa _ @ac_;exact ez
theorem al9(E:Nat->Addr) (w:World) (h:Ers w E):Calls Tryz.prog 40 #[.iface 193 (Zd (Y3 (E 2)))] w λe w'=>e=Y9 (Y4 Y5 6)/\w'=w:=by
 have z250z:=@aa _ @ac9;exact ez
theorem al8(E:Nat->Addr) (w:World) (h:Ers w E):Calls Tryz.prog 40 #[.iface 193 (Zd (Y3 (E 3)))] w λe w'=>e=Y9 (Y4 Y5 7)/\w'=w:=by
 have z250z:=@aa _ @ac8;exact ez
theorem al7(E:Nat->Addr) (w:World) (h:Ers w E):Calls Tryz.prog 40 #[.iface 193 (Zd (Y3 (E 4)))] w λe w'=>e=Y9 (Y4 Y5 9)/\w'=w:=by
 have z250z:=@aa _ @ac7;exact ez
theorem al6(E:Nat->Addr) (w:World) (h:Ers w E):Calls Tryz.prog 40 #[.iface 193 (Zd (Y3 (E 5)))] w λe w'=>e=Y9 (Y4 Y5 11)/\w'=w:=by
 have z250z:=@aa _ @ac6;exact ez
theorem al5(E:Nat->Addr) (w:World) (h:Ers w E):Calls Tryz.prog 40 #[.iface 193 (Zd (Y3 (E 6)))] w λe w'=>e=Y9 (Y4 Y5 7)/\w'=w:=by
 have z250z:=@aa _ @ac5;exact ez
theorem al4(E:Nat->Addr) (w:World) (h:Ers w E):Calls Tryz.prog 40 #[.iface 193 (Zd (Y3 (E 7)))] w λe w'=>e=Y9 (Y4 Y5 11)/\w'=w:=by
 have z250z:=@aa _ @ac4;exact ez
theorem al3(E:Nat->Addr) (w:World) (h:Ers w E):Calls Tryz.prog 40 #[.iface 193 (Zd (Y3 (E 8)))] w λe w'=>e=Y9 (Y4 Y5 10)/\w'=w:=by
 have z250z:=@aa _ @ac3;exact ez
theorem qI(E:Nat->Addr) (i:Nat) (w:World) (h:Ers w E) (hi:i<9):Calls Tryz.prog 40 #[.iface 193 (Zd (Y3 (E i)))] w λe w'=>e=Y9 (Y4 Y5 (bu i))/\w'=w:=by
 match i,hi with
 | 0,_=>exact ama E w h
 | 1,_=>exact al_ E w h
 | 2,_=>exact al9 E w h
 | 3,_=>exact al8 E w h
 | 4,_=>exact al7 E w h
 | 5,_=>exact al6 E w h
 | 6,_=>exact al5 E w h
 | 7,_=>exact al4 E w h
 | 8,_=>exact al3 E w h
theorem eZ(E:Nat->Addr) (i:Nat) (cc:Int) (hcc:cc=bu i) (w:World) (h:Ers w E) (hi:i<9):Calls Tryz.prog 17 #[.iface 193 (Zd (Y3 (E i)))] w λe w'=>e=Y9 (Za #[J U 0 0,J U 0 0,J U 0 0,J U 0 0,J U 0 0,Y4 Y5 0,I ⟨#[]⟩,Y4 Y5 cc])/\Below w.heap.size w w':=by
 have HE:=aa (h.below (ak w (Y6 #[J U 0 0,J U 0 0,J U 0 0,J U 0 0,J U 0 0,Y4 Y5 0,I ⟨#[]⟩,Y4 Y5 0] 33)));clear h;go_enter Tryz.func17,Tryz.ntmps17;go_wp2_with fail;refine (qI E i _ HE.out hi).mono ?_;rintro e w' ⟨rfl,rfl⟩;rw[<-hcc];clear hcc;go_wp2;exact bodyPost_ret (v:=Za #[J U 0 0,J U 0 0,J U 0 0,J U 0 0,J U 0 0,Y4 Y5 0,I ⟨#[]⟩,Y4 Y5 cc]) (by simp[results,Tryz.results17,go_sem]) rfl ⟨rfl,ak _ _⟩
end Rc
theorem uo(s:ByteArray) (w:World):
  Calls Tryz.prog 37 #[I s] w λe w'=>e=Y9 (Y7 (decide (8000<s.size)))/\w=w':=by
 go_enter Tryz.func37,Tryz.ntmps37;go_wp2;go_ret;exact⟨by simp;omega,rfl⟩
theorem P4(s:ByteArray) (w:World) (h:8000<s.size):
  Calls Tryz.prog 37 #[I s] w λe w'=>e=Y9 (Y7 Y_)/\w=w':=by
 have:=uo s w;rw[decide_eq_true h] at this;exact this
theorem afA(s:ByteArray) (w:World) (h:¬8000<s.size):
  Calls Tryz.prog 37 #[I s] w λe w'=>e=Y9 (Y7 Y8)/\w=w':=by
 have:=uo s w;rw[decide_eq_false h] at this;exact this
namespace Gi
section
variable {R:Rs} {sp:Tmp} {ex:Ex} {P:Program} {ops:Array Oper} {Q:Exit->Act->World->Prop} {W:World} {a0:Act} {back:Option Oper}
end
def Bel(w w':World):Prop:=Below w.heap.size w w'
theorem Bel.rel(sp:Tmp):Rel (λ_=>Bel) sp:=⟨λ_=>Yh _ _,λh k=>Below.trans h (Below.mono k (Below.size h)),λh=>Below.size h,λ_=>(Yh _ _).drew,λ_ _ _ h=>h,λ_ _ _ _ _ h=>h⟩
end Gi
namespace Rc
section
variable {w:World} {a:Option Addr} {len cap m:Nat} {rs:List (List Fv)}
end
theorem xo {o:Oper} {a:Act} {K:Act->World->Prop} {Q:Exit->Act->World->Prop} (s x:Operand) (t T:TypeId) (ho:o.op=.call { callee:=.builtin .append,args:=#[s,x],argTypes:=#[t,t] }) (i:TypeInfo) (z:Value) (m bytes:Nat) (ht:Tryz.prog.underlying t=Y3 (J T)) (hi:Tryz.prog.info? T=Y3 i) (hz:i.zero=Y3 z)
  (hsize:i.size=m) (hby:i.bytes=bytes) (hzs:z.cells.size=m) (hsz:0<m) (hT:¬T=9) (base:Nat) (v0:Value) (hs:a.eval s=v0) (hown:w.ownsRow base T m v0 0 []) (hbw:base<=w.heap.size) {ad:Addr} {len cap:Nat} {rs:List (List Fv)} (hx:a.eval x=J (Y3 ad) len cap) (hr:aT w (Y3 ad) len cap m rs) (hm:∀(j:Nat) r,rs[j]?=Y3 r->r.length=m/\gV r) (hl:len<=8) (hb8:bytes<=1000)
  (h:∀a' c' w',aw w' a' len c' m T rs (λk=>base<=k/\k<w'.heap.size)->w.grownBy w' v0.ownBlock->K (a.put o.dst (J a' len c')) w'):o.wp Tryz.prog a w K Q:=by
 have hlen:((rs.map et).flatten).length=len*m:=by rw[eR (jT λj r hj=>(hm j r hj).1),Yr,hr.1]
 have hne:rs=[]\/∃b o,ad=(⟨b,o,U⟩:Addr):=by
  rcases hr.2.2.2 with h1|⟨b,o,e,_⟩
  ·exact Zc h1
  ·cases e;exact Zb ⟨b,o,rfl⟩
 have hnews:∀(j:Nat) u,((rs.map et).flatten)[j]?=Y3 u->w.cell? (ad.add j)=Y3 u:=by
  rcases hne with rfl|⟨b,o,rfl⟩
  ·intro j u hu;simp at hu
  ·exact oO hr hm
 refine wp_append_own w s x t ho base T i z m bytes ht hi hz hsize hby hzs hsz v0 0 [] hs hown ad len cap (rs.map et).flatten hx hlen hnews (ik hr hm w (λ_=>True)).one bo (by have:(0+len)*bytes<=8*1000:=Nat.mul_le_mul af hb8;omega) hbw ?_;intro v' w' ho' hg' _;rw[Yq,List.nil_append] at ho';obtain⟨a',c',rfl,hR⟩:=(ik hr hm w' (λk=>base<=k/\k<w'.heap.size)).own ho' hr.1.symm hT (λg hg=>ho'.lt g hg);rw[hr.1] at hR ⊢;exact h a' c' w' hR hg'
def k8(B:Nat) (len m:Nat) (T:TypeId) (rs:List (List Fv)):Gi.Fact:=λv w l h=> ∃a c,v=J a len c/\aw w a len c m T rs (λk=>l<=k/\k<h)/\B<=l
theorem k8.mono(ex:Gi.Ex) (s:Option Tmp) (B len m:Nat) (T:TypeId) (rs:List (List Fv)):Gi.Fact.bH (λ_=>Gi.Bel) ex s (k8 B len m T rs):=by
 rintro s' _ _ _ v w w' l h ⟨a,c,h1,h2,h3⟩ hb;exact⟨a,c,h1,h2.below hb,h3⟩
def ClF(B:Nat) (c:Cl):Gi.Fact:=λv w _ _=> ∃d:Ad,v=Za #[J d.a1 d.l1 d.c1,J d.a2 d.l2 d.c2,J d.a3 d.l3 d.c3,J d.a4 d.l4 d.c4,J d.a5 d.l5 d.c5,Y4 Y5 c.now]/\cX w d c.raw (λk=>B<=k)
theorem ClF.mono(ex:Gi.Ex) (s:Option Tmp) (B:Nat) (c:Cl):Gi.Fact.bH (λ_=>Gi.Bel) ex s (ClF B c):=by
 rintro s' _ _ _ v w w' l h ⟨d,h1,h2⟩ hb;exact⟨d,h1,h2.below hb⟩
theorem Be(d:Ad) (c:Cl) (w:World) (hr:aB w d c.raw) (hs:Sm c):
  Calls Tryz.prog 42 #[Za #[J d.a1 d.l1 d.c1,J d.a2 d.l2 d.c2,J d.a3 d.l3 d.c3,J d.a4 d.l4 d.c4,J d.a5 d.l5 d.c5,Y4 Y5 c.now]] w λe w'=> ∃d',e=Y9 (Za #[J d'.a1 d'.l1 d'.c1,J d'.a2 d'.l2 d'.c2,J d'.a3 d'.l3 d'.c3,J d'.a4 d'.l4 d'.c4,J d'.a5 d'.l5 d'.c5,Y4 Y5 c.now])/\cX w' d' c.raw (λk=>w.heap.size<=k)/\Below w.heap.size w w':=by
 have HR:=aa hr;have HS:=aa hs;have hl1:c.ns.length=d.l1:=by simpa using (show (c.ns.map ndF).length=d.l1 from hr.n.1)
 have hl2:c.ks.length=d.l2:=by simpa using (show (c.ks.map kdF).length=d.l2 from hr.k.1)
 have hl3:c.vs.length=d.l3:=by simpa using (show (c.vs.map vdF).length=d.l3 from hr.v.1)
 have hl4:c.xs.length=d.l4:=by simpa using (show (c.xs.map xdF).length=d.l4 from hr.x.1)
 have hl5:c.ps.length=d.l5:=by simpa using (show (c.ps.map pdF).length=d.l5 from hr.p.1)
 clear hr hs;obtain⟨i2,hi2⟩:=Yz.1 Qh;obtain⟨i4,hi4⟩:=Yz.1 qh;have HI2:=aa hi2;have HI4:=aa hi4;clear hi2 hi4;obtain⟨W,hW0⟩:∃W,W=(w.alloc (Y6 (clv d c.now) 29)).alloc (Y6 (clo6 U 0 0 U 0 0 U 0 0 U 0 0 U 0 0 0) 29):=⟨_,rfl⟩;have HB:Hid (Below w.heap.size w W):=by rw[hW0];exact aR _ _ _
 have Bk:Hid (W.heap[w.heap.size]?=Y3 (Y6 (clv d c.now) 29 (0,0))):=by rw[hW0];exact d_ _ _ _
 obtain⟨Br,hWs⟩:=agd;go_enter Tryz.func42,Tryz.ntmps42;go_wp2_with fail;rw[<-hW0];clear hW0;rename_i K0 hK0;refine Gi.bG (ex:=λ_=>U) (Gi.Bel.rel 0) ba rfl rfl ba ba ?_;refine' Gi.Grow.stepC _ rfl ?_ ?_;rotate_left 1
 ·exact kr
 refine' Gi.Grow.stepC _ rfl ?_ ?_;rotate_left 1
 ·have z587z:=@aa _ @WH;exact fQ
 refine Gi.Grow.step (k8 W.heap.size d.l1 7 38 (c.ns.map ndF)) rfl (k8.mono _ _ _ _ _ _ _) ?_ ?_
 ·have z765z:=@aa _ @Un;exact jf
 refine' Gi.Grow.stepC _ rfl ?_ ?_;rotate_left 1
 ·exact kr
 refine' Gi.Grow.stepC _ rfl ?_ ?_;rotate_left 1
 ·have z587z:=@aa _ @WG;exact fQ
 refine Gi.Grow.step (k8 W.heap.size d.l2 4 92 (c.ks.map kdF)) rfl (k8.mono _ _ _ _ _ _ _) ?_ ?_
 ·have z765z:=@aa _ @Ul;exact jf
 refine' Gi.Grow.stepC _ rfl ?_ ?_;rotate_left 1
 ·exact kr
 refine' Gi.Grow.stepC _ rfl ?_ ?_;rotate_left 1
 ·have z587z:=@aa _ @WE;exact fQ
 refine Gi.Grow.step (k8 W.heap.size d.l3 8 95 (c.vs.map vdF)) rfl (k8.mono _ _ _ _ _ _ _) ?_ ?_
 ·have z765z:=@aa _ @Uk;exact jf
 refine' Gi.Grow.stepC _ rfl ?_ ?_;rotate_left 1
 ·exact kr
 refine' Gi.Grow.stepC _ rfl ?_ ?_;rotate_left 1
 ·have z587z:=@aa _ @WD;exact fQ
 refine Gi.Grow.step (k8 W.heap.size d.l4 5 97 (c.xs.map xdF)) rfl (k8.mono _ _ _ _ _ _ _) ?_ ?_
 ·have z765z:=@aa _ @Uj;exact jf
 refine' Gi.Grow.stepC _ rfl ?_ ?_;rotate_left 1
 ·exact kr
 refine' Gi.Grow.stepC _ rfl ?_ ?_;rotate_left 1
 ·have z587z:=@aa _ @WC;exact fQ
 refine Gi.Grow.step (k8 W.heap.size d.l5 6 40 (c.ps.map pdF)) rfl (k8.mono _ _ _ _ _ _ _) ?_ ?_
 ·have z765z:=@aa _ @Ui;exact jf
 refine' Gi.Grow.stepC _ rfl ?_ ?_;rotate_left 1
 ·exact kr
 refine' Gi.Grow.stepC _ rfl ?_ ?_;rotate_left 1
 ·have z587z:=@aa _ @WB;exact fQ
 refine Gi.Grow.step (ClF W.heap.size c) rfl (ClF.mono _ _ _ _) ?_ ?_
 ·refine Gi.Obl.plain rfl ?_;intro ac wg K lo hi hsz hW hpr hf hap hK;clear hsz hpr;have e5:=hf 5 ag;simp[Gi.aj,Yf] at e5;have e8:=hf 8 ag;simp[Gi.aj,Yf] at e8;have e11:=hf 11 ag;simp[Gi.aj,Yf] at e11;have e14:=hf 14 ag;simp[Gi.aj,Yf] at e14;have e17:=hf 17 ag;simp[Gi.aj,Yf] at e17;have e19:=hf 19 ag;simp[Gi.aj,Yf] at e19;clear hf;obtain⟨a1,c1,e5,ho1,hB1⟩:=e5;obtain⟨a2,c2,e8,ho2,hB2⟩:=e8;obtain⟨a3,c3,e11,ho3,hB3⟩:=e11;obtain⟨a4,c4,e14,ho4,hB4⟩:=e14;obtain⟨a5,c5,e17,ho5,hB5⟩:=e17;have hap2:∀t∈[5,8,11,14,17],∀t'∈[5,8,11,14,17],¬t=t'->hi t<=lo t'\/hi t'<=lo t:=by
   intro t ht t' ht' hne;refine hap t ?_ t' ?_ ?_ ?_ hne
   ·simp only[List.mem_cons,List.not_mem_nil,or_false] at ht;rcases ht with rfl|rfl|rfl|rfl|rfl <;> decide
   ·simp only[List.mem_cons,List.not_mem_nil,or_false] at ht';rcases ht' with rfl|rfl|rfl|rfl|rfl <;> decide
   ·simp only[List.mem_cons,List.not_mem_nil,or_false] at ht;rcases ht with rfl|rfl|rfl|rfl|rfl <;> rfl
   ·simp only[List.mem_cons,List.not_mem_nil,or_false] at ht';rcases ht' with rfl|rfl|rfl|rfl|rfl <;> rfl
  clear hap;have q01:=hap2 5 ag 8 ag ag;have q02:=hap2 5 ag 11 ag ag;have q03:=hap2 5 ag 14 ag ag;have q04:=hap2 5 ag 17 ag ag;have q12:=hap2 8 ag 11 ag ag;have q13:=hap2 8 ag 14 ag ag;have q14:=hap2 8 ag 17 ag ag;have q23:=hap2 11 ag 14 ag ag;have q24:=hap2 11 ag 17 ag ag;have q34:=hap2 14 ag 17 ag ag;clear hap2;have hC:cX wg ⟨a1,d.l1,c1,a2,d.l2,c2,a3,d.l3,c3,a4,d.l4,c4,a5,d.l5,c5⟩ c.raw (λk=>W.heap.size<=k):=by
   refine⟨λk=>if lo 5<=k/\k<hi 5 then 1 else if lo 8<=k/\k<hi 8 then 2 else if lo 11<=k/\k<hi 11 then 3 else if lo 14<=k/\k<hi 14 then 4 else 5,?_,?_,?_,?_,?_⟩
   ·exact ho1.bl (λk _ s=>⟨by have s1:lo 5<=k:=s.1;show W.heap.size<=k;omega,by have s1:lo 5<=k:=s.1;have s2:k<hi 5:=s.2;show (if lo 5<=k/\k<hi 5 then 1 else if lo 8<=k/\k<hi 8 then 2 else if lo 11<=k/\k<hi 11 then 3 else if lo 14<=k/\k<hi 14 then 4 else 5)=1;rw[if_pos ⟨s1,s2⟩]⟩)
   ·exact ho2.bl (λk _ s=>⟨by have s1:lo 8<=k:=s.1;show W.heap.size<=k;omega,by have s1:lo 8<=k:=s.1;have s2:k<hi 8:=s.2;show (if lo 5<=k/\k<hi 5 then 1 else if lo 8<=k/\k<hi 8 then 2 else if lo 11<=k/\k<hi 11 then 3 else if lo 14<=k/\k<hi 14 then 4 else 5)=2;rw[if_neg af];rw[if_pos ⟨s1,s2⟩]⟩)
   ·exact ho3.bl (λk _ s=>⟨by have s1:lo 11<=k:=s.1;show W.heap.size<=k;omega,by have s1:lo 11<=k:=s.1;have s2:k<hi 11:=s.2;show (if lo 5<=k/\k<hi 5 then 1 else if lo 8<=k/\k<hi 8 then 2 else if lo 11<=k/\k<hi 11 then 3 else if lo 14<=k/\k<hi 14 then 4 else 5)=3;rw[if_neg af];rw[if_neg af];rw[if_pos ⟨s1,s2⟩]⟩)
   ·exact ho4.bl (λk _ s=>⟨by have s1:lo 14<=k:=s.1;show W.heap.size<=k;omega,by have s1:lo 14<=k:=s.1;have s2:k<hi 14:=s.2;show (if lo 5<=k/\k<hi 5 then 1 else if lo 8<=k/\k<hi 8 then 2 else if lo 11<=k/\k<hi 11 then 3 else if lo 14<=k/\k<hi 14 then 4 else 5)=4;rw[if_neg af];rw[if_neg af];rw[if_neg af];rw[if_pos ⟨s1,s2⟩]⟩)
   ·exact ho5.bl (λk _ s=>⟨by have s1:lo 17<=k:=s.1;show W.heap.size<=k;omega,by have s1:lo 17<=k:=s.1;have s2:k<hi 17:=s.2;show (if lo 5<=k/\k<hi 5 then 1 else if lo 8<=k/\k<hi 8 then 2 else if lo 11<=k/\k<hi 11 then 3 else if lo 14<=k/\k<hi 14 then 4 else 5)=5;rw[if_neg af];rw[if_neg af];rw[if_neg af];rw[if_neg af]⟩)
  have HC:=aa hC;clear hC ho1 ho2 ho3 ho4 ho5 q01 q02 q03 q04 q12 q13 q14 q23 q24 q34 hB1 hB2 hB3 hB4 hB5;go_simp;exact hK _ _ (Yh _ _) ⟨_,rfl,HC.out⟩
 refine Gi.Grow.done ?_;intro q wz lo hi hW hf hap;clear hap;simp only[List.forall_mem_cons] at hf;obtain⟨hf20,-⟩:=hf;obtain⟨d',h20,ho⟩:=hf20 bX;have HO:=aa ho;have HBz:=aa (HB.trans (Below.mono hW HB.size));have gr:=(Below.block hW _ (ae Br.out)).trans Br.out;obtain⟨r0,r1,r2,r3,r4,r5⟩:=cs6 gr;have f0:=al gr 0;have f1:=al gr 1;have f2:=al gr 2;have f3:=al gr 3;have f4:=al gr 4;have f5:=al gr 5;clear gr ho hW;intro K hK;rw[if_pos (by rfl)];simp only[Gi.aJ,YQ,Act.put,Ys,YA,YB,h20];have z236z:=@aa _ @adm;exact ly
def amy(Is:Co->Prop) (w:World) (e:Ending) (w':World):Prop:=∃g o,e=Y9 (Za #[J g.a1 g.l1 g.c1,J g.a2 g.l2 g.c2,J g.a3 g.l3 g.c3,J g.a4 g.l4 g.c4,J g.a5 g.l5 g.c5,Y4 Y5 o.c.now,I o.n,Y4 Y5 o.p])/\Is o/\cX w' g o.c.raw (λk=>w.heap.size<=k)/\Below w.heap.size w w'
theorem nU(nm:α->ByteArray) (t:ByteArray) (xs:List α):(wo nm t xs).length<=xs.length:=List.length_filter_le _ _
structure Sel {α β:Type} (xs ys:List α) (vss ws:List β) (k:Nat) (f:Nat->Nat):Prop where
 len:ws.length=ys.length
 y:∀j,j<ys.length->ys[j]?=xs[f j]?
 v:∀j,j<ys.length->ws[j]?=vss[f j]?
 lt:∀j,j<ys.length->f j<k
 inj:∀i j,i<ys.length->j<ys.length->f i=f j->i=j
theorem Sel.nil(xs:List α) (vss:List β) (k:Nat) (f:Nat->Nat):Sel xs [] vss [] k f:=⟨rfl,λj h=>by simp at h,λj h=>by simp at h,λj h=>by simp at h,λi j h=>by simp at h⟩
theorem Sel.up {vss ws:List β} (h:Sel xs ys vss ws k f):Sel xs ys vss ws (k+1) f:=⟨h.len,h.y,h.v,λj hj=>Nat.lt_succ_of_lt (h.lt j hj),h.inj⟩
theorem Sel.push {vss ws:List β} (h:Sel xs ys vss ws k f) {x:α} {u:β} (hx:xs[k]?=Y3 x) (hu:vss[k]?=Y3 u):Sel xs (ys++[x]) vss (ws++[u]) (k+1) (λj=>if j=ys.length then k else f j):=by
 have hl:=h.len;refine⟨by simp[hl],λj hj=>?_,λj hj=>?_,λj hj=>?_,λi j hi hj e=>?_⟩
 ·by_cases e:j=ys.length
  ·subst e;simp[hx]
  ·have hj':j<ys.length:=by simp at hj;omega
   rw[Yv hj',if_neg e];exact h.y j hj'
 ·by_cases e:j=ys.length
  ·subst e;rw[if_pos rfl,hu,List.getElem?_append_right af,hl,Nat.sub_self];rfl
  ·have hj':j<ys.length:=by simp at hj;omega
   rw[Yv af,if_neg e];exact h.v j hj'
 ·by_cases e:j=ys.length
  ·simp only[if_pos e];omega
  ·have hj':j<ys.length:=by simp at hj;omega
   simp only[if_neg e];have:=h.lt j hj';omega
 ·by_cases e1:i=ys.length <;> by_cases e2:j=ys.length
  ·omega
  ·have hj':j<ys.length:=by simp at hj;omega
   simp only[if_pos e1,if_neg e2] at e;have:=h.lt j hj';omega
  ·have hi':i<ys.length:=by simp at hi;omega
   simp only[if_pos e2,if_neg e1] at e;have:=h.lt i hi';omega
  ·simp only[if_neg e1,if_neg e2] at e;exact h.inj i j (by simp at hi;omega) (by simp at hj;omega) e
theorem Sel.i_ {m:Nat} {F:α->List Fv} {ws:List (List Value)} (h:Sel xs ys vss ws k f) (hv:aQ w S m (xs.map F) vss H):aQ w S m (ys.map F) ws (λj=>H (f j)):=
 hv.sel f (by rw[h.len,Yr]) (λj hj=>by rw[Yr] at hj;rw[Yt,Yt,h.y j hj]) (λj hj=>by rw[Yr] at hj;exact h.v j hj) (λi j hi hj e=>h.inj i j (by simpa using hi) (by simpa using hj) e)
theorem BH {vs:List Value} {a0 a1 a2 a3 a4 a5:Value} (hl:vs.length=6) (h0:vs[0]?=Y3 a0) (h1:vs[1]?=Y3 a1) (h2:vs[2]?=Y3 a2) (h3:vs[3]?=Y3 a3) (h4:vs[4]?=Y3 a4) (h5:vs[5]?=Y3 a5):vs=[a0,a1,a2,a3,a4,a5]:=by
 apply List.ext_getElem?;intro i;rcases i with _|_|_|_|_|_|i
 ·exact h0
 ·exact h1
 ·exact h2
 ·exact h3
 ·exact h4
 ·exact h5
 ·rw[List.getElem?_eq_none af,List.getElem?_eq_none aF]
theorem h_ {m g:Nat} {rs:List (List Fv)} (hV:aQ w S m rs vss H) (hc:∀(k:Nat) u,vss.flatten[k]?=Y3 u->w.cell? ⟨g,k,U⟩=Y3 u) {k:Nat} {vs:List Value} (hk:vss[k]?=Y3 vs) {i:Nat} {u:Value} (hi:i<m) (hu:w.cell? ⟨g,k*m+i,U⟩=Y3 u):vs[i]?=Y3 u:=by
 have hl:=hV.all k vs hk;have h1:vs[i]?=Y3 (vs[i]'(by omega)):=Yi _;have h2:=hc _ _ (fY hV.all hk h1);rw[hu] at h2;rw[h1];exact h2.symm
theorem A7(a:Option Addr) (len cap:Nat) (xs:List Pd) (t:ByteArray) (Q:Nat->Prop) (w:World) (ho:aw w a len cap 6 40 (xs.map pdF) Q) (hl:len<=8):
  Calls Tryz.prog 43 #[J a len cap,I t] w λe w'=> ∃a' l' c',e=Y9 (J a' l' c')/\aw w' a' l' c' 6 40 ((wo Pd.n t xs).map pdF) (λk=>Q k\/w.heap.size<=k)/\Below w.heap.size w w':=by
 have HR:=aa ho.row;have hxl:xs.length=len:=og
 obtain⟨vss,H,hV,hcell⟩:=ho.i_;have HV:=aa hV;have HC:=aa hcell;have hvl:vss.length=xs.length:=by rw[hV.len,Yr]
 clear ho hV hcell;have z702z:=@aa _ @U7;exact lh
theorem gX.amn {w2 w3 w4:World} {B:Nat} (h:gX w2 d c (λk=>B<=k) P) (hB:B<=w2.heap.size) {a:Option Addr} {l cp:Nat} {rs:List (List Fv)} (hN:aw w3 a l cp 6 40 rs (λk=>((B<=k/\P k=5)/\k<w2.heap.size)\/w2.heap.size+1<=k)) (hb:Below w2.heap.size w2 w3) (hk:∀k,B<=k->¬k=w2.heap.size->w4.heap[k]?=w3.heap[k]?):cX w4 ⟨d.a1,d.l1,d.c1,d.a2,d.l2,d.c2,d.a3,d.l3,d.c3,d.a4,d.l4,d.c4,a,l,cp⟩ ⟨c.n,c.k,c.v,c.x,rs⟩ (λk=>B<=k):=by
 refine⟨λk=>if w2.heap.size+1<=k then 5 else P k,?_,?_,?_,?_,?_⟩
 ·exact h.n.az (λk hl s=>(hk k s.1 af).trans (hb.block k hl)) (λk hl s=>⟨s.1,by show (if w2.heap.size+1<=k then 5 else P k)=1;rw[if_neg af];exact s.2⟩)
 ·exact h.k.az (λk hl s=>(hk k s.1 af).trans (hb.block k hl)) (λk hl s=>⟨s.1,by show (if w2.heap.size+1<=k then 5 else P k)=2;rw[if_neg af];exact s.2⟩)
 ·exact h.v.az (λk hl s=>(hk k s.1 af).trans (hb.block k hl)) (λk hl s=>⟨s.1,by show (if w2.heap.size+1<=k then 5 else P k)=3;rw[if_neg af];exact s.2⟩)
 ·exact h.x.az (λk hl s=>(hk k s.1 af).trans (hb.block k hl)) (λk hl s=>⟨s.1,by show (if w2.heap.size+1<=k then 5 else P k)=4;rw[if_neg af];exact s.2⟩)
 ·refine hN.az (λk _ s=>hk k (by rcases s with s|s;exact s.1.1;omega) fD) (λk _ s=>?_);rcases s with s|s
  ·exact⟨s.1.1,by show (if w2.heap.size+1<=k then 5 else P k)=5;rw[if_neg af];exact s.1.2⟩
  ·exact⟨by show B<=k;omega,if_pos s⟩
end Rc
end Go.Proofs.YtiplhgedmjoliaaGreatDoor
