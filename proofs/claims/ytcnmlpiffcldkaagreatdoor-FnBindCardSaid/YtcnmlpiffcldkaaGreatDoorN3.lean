import Derived.Test.YtcnmlpiffcldkaaGreatDoorN2
import Derived.Test.YtcnmlpiffcldkaaGreatDoorRows
import Derived.WalkKit
import Derived.WalkSpells
import Derived.OwnWalk
import Derived.Outline
import Derived.Laws.Cover1
import Derived.Lib.BufferWrite
import Derived.Laws.CopyOwn
import Derived.Deep.QuietTactic
import Derived.BigQuiet
import Derived.WalkSmall
import Derived.Laws.AppendOwn
import Derived.Laws.AppendOwnNone
import Derived.Deep.AppendLies
import Derived.Deep.RegionWith
import Derived.LaidEql
import Derived.Stop.Asserts
import Derived.RowKitTokens
import Derived.RegionTactic
/-
 What NameRight of the program and of the specification answer: yes just where a text is a name: 1 to 20 bytes, the first a lower letter, the others lower letters, digits or '_'; at every text.
-/
set_option maxRecDepth 100000
set_option maxHeartbeats 12800000
open Bool renaming false→Zg,true→Zi
open Go.Ending renaming returned→Zh
open Go.IntKind renaming i64→O
open Go.Obj renaming cells→Ze
open Go.Value renaming string→I,slice→U,int→V,bool→Zf,agg→Zj,pointer→Zm,tuple→Zn
open Option renaming none→J,some→M
open Or renaming inr→Zk,inl→Zl
open And renaming intro→Yb
open Array renaming getElem?_push_size→Yf, getD_eq_getD_getElem?→Ys, getElem?_eq_some_iff→YA, getElem?_setIfInBounds→YH
open Bool renaming and_eq_true→YI
open Go.Act renaming put→Y0
open Go.Addr renaming add_lit→Ym
open Go.Builtin renaming append_→YY
open Go.Calls renaming quiet_of_same→YD
open Go.Lib renaming toList_data→Za
open Go.Op renaming bytesLess→Yk
open Go.Region renaming ready→YU
open Go.RowKit.Below renaming heap_setCell→Ya, refl→Yh, heap_alloc→Yj
open Go.Value renaming string→Yn, ownBlock→YK
open Go.World renaming setCell→YV, cell?→YX
open List renaming getElem?_eq_some_iff→Yc, lookup→Yg, getElem?_eq_getElem→Yi, length_map→Yq, setIfInBounds_toArray→Yr, getElem?_map→Yt, getElem?_append_left→Yu, mem_of_getElem?→Yv, drop_eq_nil_of_le→Yw, set_cons_zero→Yx, set_cons_succ→Yy, take_of_length_le→YB, getElem?_take→YC, length_take→YF, getElem?_of_mem→YG, forall_mem_cons→YL, take_add_one→YM, getElem?_drop→YN, length_append→YP, foldr→YQ, mem_cons→YT
open Nat renaming le_refl→Ye, lt_of_lt_of_le→Yl, le_trans→Yo, zero_add→Yp, le_succ→Yz, zero_le→YJ
open Option renaming map_eq_some_iff→YE
open Option.some renaming inj→Yd, injEq→YZ
namespace Go.Proofs.YtcnmlpiffcldkaaGreatDoor
variable {p:Prop}
namespace Mk
end Mk
open Go.RowKit Mk Go.Extern.Stop Go.Stop Go.Extern
variable {E:Nat->Addr} {S:Nat->Prop} {T:TypeId} {c:Rc.Cr} {d:Rc.Ad} {w w':World}
theorem oZ(h:p:=by simp[YV];have:=HB.size;omega):p:=h
theorem AL(h:p:=by simp[results,Tryz.results21,go_sem, *]):p:=h
theorem OF(h:p:=by have:=(Yc.1 hi).1;omega):p:=h
theorem OE(h:p:=by simp[results,Tryz.results173,go_sem, *]):p:=h
theorem aiG(h:p:=by
 have apn:=@G _ @X8;exact iL):p:=h
theorem vq(h:p:=by
 go_wp2_with fail;refine⟨⟨k+1,x.n,by omega,rfl,by go_num,λh=>absurd h af,λz _ hz=>?_,λj z hj hz=>?_,λj z u hj hz hu=>?_,HB4.out⟩,by simp[intOf];omega⟩
 ·rw[Nat.add_sub_cancel,HX.out] at hz;rw[Yd hz]
 ·by_cases e:j=k
  ·subst e;rw[HX.out] at hz;obtain rfl:=Yd hz;exact ZQ.out
  ·exact HE.out j z af hz
 ·by_cases e:j+1=k
  ·subst e;rw[HX.out] at hz;obtain rfl:=Yd hz;have:=H1.out u af (by rw[Nat.add_sub_cancel];exact hu);rw[this];exact Zz
  ·exact HO.out j z u af hz hu):p:=h
theorem vj(h:p:=by
 rw[Zz] at aqh;go_wp2;go_ret;refine ar.f (λh=>?_) Z7.out;by_cases hk0:0<k
 ·have hz:xs[k - 1]?=M (xs[k - 1]'(by omega)):=Yi _;have h2:=H1.out _ hk0 hz;have h3:=h.2.2 (k - 1) x _ (by rw[Nat.sub_add_cancel hk0];exact HX.out) hz;rw[h2,Zz] at h3;cases h3
 ·have:=H0.out af;subst this;have hnm:=ZQ.1.1;rw[vH hnm] at Zz;cases Zz):p:=h
theorem vh(h:p:=by
 obtain rfl:k=len:=af
 go_wp2;go_ret;refine ar.t ⟨by omega,λj z hz=>HE.out j z dO hz,λj z u hz hu=>HO.out j z u dO hz hu⟩ HB.out):p:=h
theorem Pg(h:p:=by
 rw[hs] at c4;clear hs;have auP:=@G _ @Wr;exact zz):p:=h
theorem amA(h:p:=by
 have F3:Hid (∀w,Calls Tryz.prog 156 #[I k] w λe w'=>e=Zh (Zf Zg)/\w'=w):=λw=>(bh k w hk).mono λ_ _ h=>h.no p3;have HP:=G p3;clear p3;go_enter Tryz.func183,Tryz.ntmps183;go_wp2_with fail;go_quiet ((first|(go_at_call_of 156 (Yn n);exact YD (F0.out _))|(go_at_call_of 66 (Value.int O c);exact YD (F1.out _))|(go_at_call_of 156 (Yn z);exact YD (F2.out _))|(go_at_call_of 156 (Yn k);exact YD (F3.out _))));go_wp2_with fail;go_ret;exact⟨Zg,rfl,⟨λh=>bJ,λh=>(HP.out (h.2.2.2.1)).elim⟩,below_drewN (aj _ _) _⟩):p:=h
theorem A2(h:p:=by
 go_wp2_with fail;refine⟨⟨k+1,by omega,by go_num,λj y hj hy=>?_,ZX.out⟩,by simp[intOf];omega⟩;by_cases e:j=k
 ·subst e;rw[HX.out] at hy;obtain rfl:=Yd hy;exact Zz
 ·exact HE.out j y af hy):p:=h
theorem amx(h:p:=by
 have F2:Hid (∀w,Calls Tryz.prog 156 #[I z] w λe w'=>e=Zh (Zf Zg)/\w'=w):=λw=>(bh z w hz).mono λ_ _ h=>h.no p2;have HP:=G p2;clear p2;go_enter Tryz.func183,Tryz.ntmps183;go_wp2_with fail;go_quiet ((first|(go_at_call_of 156 (Yn n);exact YD (F0.out _))|(go_at_call_of 66 (Value.int O c);exact YD (F1.out _))|(go_at_call_of 156 (Yn z);exact YD (F2.out _))));go_wp2_with fail;go_ret;exact⟨Zg,rfl,⟨λh=>bJ,λh=>(HP.out (h.2.2.1)).elim⟩,below_drewN (aj _ _) _⟩):p:=h
theorem amv(h:p:=by
 have F1:Hid (∀w,Calls Tryz.prog 66 #[V O c,V O 1,V O 1048576] w λe w'=>e=Zh (Zf Zg)/\w'=w):=λw=>(cG c 1 1048576 w).mono λ_ _ h=>h.no p1;have HP:=G p1;clear p1;go_enter Tryz.func183,Tryz.ntmps183;go_wp2_with fail;go_quiet ((first|(go_at_call_of 156 (Yn n);exact YD (F0.out _))|(go_at_call_of 66 (Value.int O c);exact YD (F1.out _))));go_wp2_with fail;go_ret;exact⟨Zg,rfl,⟨λh=>bJ,λh=>(HP.out (h.2.1)).elim⟩,below_drewN (aj _ _) _⟩):p:=h
theorem ve(h:p:=by
 rintro e w1 ⟨r,rfl,hr1,hb⟩;have HB:=G (fM hb).2.1;have HI:=G hr1;clear hb hr1;go_wp2;go_ret;exact⟨r,rfl,HI.out,HB.out⟩):p:=h
theorem Pb(h:p:=by
 rw[<-e1] at hV;have HV3:=G hV;have Z7:=G ((HB.trans (aqi.mono hBs)).grown ZC bg (λg hg=>(HO2.lt g hg).1));clear Z5 ZC aqi hV e1;go_wp2;exact⟨⟨k+1,_,_,by omega,by go_num,HO3,HV3,Z7⟩,by simp[intOf];omega⟩):p:=h
theorem ams(h:p:=by
 have F0:Hid (∀w,Calls Tryz.prog 156 #[I n] w λe w'=>e=Zh (Zf Zg)/\w'=w):=λw=>(bh n w hn).mono λ_ _ h=>h.no p0;have HP:=G p0;clear p0;go_enter Tryz.func183,Tryz.ntmps183;go_wp2_with fail;go_quiet ((first|(go_at_call_of 156 (Yn n);exact YD (F0.out _))));go_wp2_with fail;go_ret;exact⟨Zg,rfl,⟨λh=>bJ,λh=>(HP.out (h.1)).elim⟩,below_drewN (aj _ _) _⟩):p:=h
theorem kb(h:p:=by
 rintro e w' ⟨rfl,rfl⟩;go_wp2;go_ret;exact⟨rfl,rfl⟩):p:=h
theorem amp(h:p:=by
 go_wp2;go_ret;exact ar.f (λh=>by have:=HI.2 (h.2.1 k x HX.out);cases this) ZX.out):p:=h
theorem ak9(h:p:=by
 have HH:=G hh;clear hh;have ar5:=@G _ @adM;exact qG):p:=h
theorem nS(h:p:=by
 go_wp2;go_ret;exact ar.f (λh=>by have:=h.1;omega) (Yh _ _)):p:=h
theorem Q5(h:p:=by
 have aoH:=@G _ @afz;exact fA):p:=h
theorem Q3(h:p:=by
 have ar6:=@G _ @Mh;exact ue):p:=h
theorem QZ(h:p:=by
 exact ai (Yz _) (ai (Yz _) (ai (Yz _) (ai (Yz _) (ai (Yz _) (ai (Yz _) (ai (Yz _) (ai (Yz _) (HB.out))))))))):p:=h
theorem xv(h:p:=by
 rintro e w6 ⟨a',c',rfl,ho,ZA⟩;exact hK _ _ ZA ⟨a',c',rfl,ho.bC (λk hk s=>⟨s,hk⟩),Below.size hW⟩):p:=h
theorem QN(h:p:=by
 exact ai (Yz _) (ai (Yz _) (ai (Yz _) (ai (Yz _) (ai (Yz _) (ai (Yz _) (ai (Yz _) (HB.out)))))))):p:=h
theorem xu(h:p:=by
 obtain rfl:=Yd hz;exact⟨HH.out,Zk (HI.1 bU)⟩):p:=h
theorem xt(h:p:=by
 rw[hl5] at HR5;rw[hl5];clear h5 hR;go_wp2;go_ret;exact⟨a',c',rfl,HR5.out,HB.out⟩):p:=h
theorem QD(h:p:=by
 exact ai (Yz _) (ai (Yz _) (ai (Yz _) (ai (Yz _) (ai (Yz _) (HB.out)))))):p:=h
theorem Qz(h:p:=by
 go_wp2_with fail;go_ret;exact⟨Zg,rfl,⟨λh=>bJ,λh=>(HP.out (h.2.2.2.2.1)).elim⟩,below_drewN (aj _ _) _⟩):p:=h
theorem Qs(h:p:=by
 obtain⟨k0,k1,k2,k3,k4,k5⟩:=cs6 Bk;go_wp2;go_ret;exact ar.f (λh=>by have:=HI4.2 h.2.2.2.1;cases this) HB.out):p:=h
theorem akZ(h:p:=by
 obtain⟨k0,k1,k2,k3,k4,k5⟩:=cs6 Bk;go_wp2;go_ret;exact ar.f (λh=>by have:=HI3.2 h.2.2.1;cases this) HB.out):p:=h
theorem Qj(h:p:=by
 go_enter Tryz.func50,Tryz.ntmps50;go_wp2;refine wp_loop_rounds 1 ?_;rw[rounds_succ];go_wp2;go_ret;exact⟨rfl,rfl⟩):p:=h
theorem Qh(h:p:=by
 exact ai (Yz _) (ai (Yz _) (ai (Yz _) (ai (Yz _) (HB.out))))):p:=h
theorem xi(h:p:=by
 obtain rfl:=Yd hz;exact⟨HH.out,Zl HEm.out⟩):p:=h
theorem kT(h:p:=by
 have aoI:=@G _ @aaJ;exact fw):p:=h
theorem kS(h:p:=by
 clear hf;obtain⟨k0,k1,k2,k3,k4,k5⟩:=cs6 ((Below.block hW _ (ae Bk.out)).trans Bk.out);exact dE):p:=h
theorem akQ(h:p:=by
 have HD:=G ω;clear ω;have ao5:=@G _ @Xm;exact gq):p:=h
theorem PJ(h:p:=by
 obtain rfl:pl=k:=af
 go_wp2;go_ret;exact ar.t ⟨_,n,Κ.out,HN1.out,HC.out,λj t ht=>HQ.out j t AN ht⟩ HB.out):p:=h
theorem xe(h:p:=by
 show World.ownsRow _ _ _ _ _ _ _;rw[List.flatten_append];simpa using Z5):p:=h
theorem AW(h:p:=by
 have δ:=Yl Z3 HRW.size;have e0:=(ah ZN δ).trans ((ah HRW.out Z3).trans c0);have e1:=(ah ZN δ).trans ((ah HRW.out Z3).trans c1);have e2:=(ah ZN δ).trans ((ah HRW.out Z3).trans c2);have e3:=(ah ZN δ).trans ((ah HRW.out Z3).trans c3);exact Yb δ (Yb e0 (Yb e1 (Yb e2 e3)))):p:=h
theorem amk(h:p:=by
 have HE:=G h;have v0:=h.v0;have v1:=h.v1;have v2:=h.v2;have v3:=h.v3;have v4:=h.v4;have v5:=h.v5;have v6:=h.v6;have v7:=h.v7;have v8:=h.v8;have v9:=h.v9;exact Yb HE (Yb v0 (Yb v1 (Yb v2 (Yb v3 (Yb v4 (Yb v5 (Yb v6 (Yb v7 (Yb v8 v9)))))))))):p:=h
theorem ami(h:p:=by
 have Z7:=G (ZX.trans (ZG.mono (Yo HB.size (Yo (Yz _) hs1))));have g2:=(ZG.block wr.heap.size af).trans HG.out;have hs2:=ZG.size;have aqh:=ir y.toList x.n.toList;exact Yb Z7 (Yb g2 (Yb hs2 aqh))):p:=h
theorem ahX(h:p:=by
 have d0:=ck0 g1;have f0:=ak g1 0;have d1:=ck1 g1;have f1:=ak g1 1;have d2:=ck2 g1;have f2:=ak g1 2;have d3:=ck3 g1;have f3:=ak g1 3;exact Yb d0 (Yb f0 (Yb d1 (Yb f1 (Yb d2 (Yb f2 (Yb d3 f3))))))):p:=h
theorem nL(h:p:=by
 have HR:=G hr;have Z4:xs.length=len:=ef
 have hlc:=Yo hr.2.1 hr.2.2.1;exact Yb HR (Yb Z4 hlc)):p:=h
theorem uY(h:p:=by
 have arc:=@G _ @L2;exact t_):p:=h
theorem o8(h:p:=by
 have ZX:=upB ZW ZN;have d0:=ck0 g1;have d1:=ck1 g1;have d2:=ck2 g1;have d3:=ck3 g1;exact Yb ZX (Yb d0 (Yb d1 (Yb d2 d3)))):p:=h
theorem ahP(h:p:=by
 have Z7:=G (ZX.trans (ZG.mono (Yo HB.size (Yo (Yz _) hs1))));have hp:=pj HE.out HX.out Zz;exact Yb Z7 hp):p:=h
theorem ahK(h:p:=by
 have GK:=G ((Yj wr (Ze (nov n va vl vc) 81) _ (ae Bk.out)).trans Bk.out);have GR:Hid ((wr.alloc (Ze (nov n va vl vc) 81)).heap[wr.heap.size]?=M (Ze (nov n va vl vc) 81 (0,0))):=Yf;have HW:=G (HB.trans ((aj wr (Ze (nov n va vl vc) 81)).mono HB.size));exact Yb GK (Yb GR HW)):p:=h
theorem ahJ(h:p:=by
 have h8:=@run_callFunc_extern Tryz.prog 101 _ Extern.ReflectliteType.typeOf Tryz.func101 aW aW aW aW;have h32:=@run_callFunc_extern Tryz.prog 246 _ amR Tryz.func246 aW aW aW aW;have tT:=RC;have cT:=qY;have mR:=jj;exact Yb h8 (Yb h32 (Yb tT (Yb cT mR)))):p:=h
theorem al2(h:p:=by
 have HG:=G hg;have HX2:=G Zr;have HO2:=G (cv HO.out Zr);have hs2:wr.heap.size<w2.heap.size:=by have:=ZG.size;rw[cW] at this;omega
 exact Yb HG (Yb HX2 (Yb HO2 hs2))):p:=h
theorem al1(h:p:=by
 have ZR:=ak Bs.out 0;have ZS:=ak Bs.out 1;have ZT:=ak Bs.out 2;have ZU:=ak Bs.out 3;have ZV:=ak Bs.out 4;have ZY:=ak Bs.out 5;have Z1:=ak Bs.out 6;have Z2:=ak Bs.out 7;exact Yb ZR (Yb ZS (Yb ZT (Yb ZU (Yb ZV (Yb ZY (Yb Z1 Z2))))))):p:=h
theorem nP(h:p:=by
 have HR:=G hr;have HE:=G hG;have HB:=G (Yh w.heap.size w);exact Yb HR (Yb HE HB)):p:=h
theorem qM(h:p:=by
 have d4:=ck4 g1;have f4:=ak g1 4;have d5:=ck5 g1;have f5:=ak g1 5;have d6:=ck6 g1;have f6:=ak g1 6;exact Yb d4 (Yb f4 (Yb d5 (Yb f5 (Yb d6 f6))))):p:=h
theorem O3(h:p:=by
 have e4:=(ah ZN δ).trans ((ah HRW.out Z3).trans c4);have e5:=(ah ZN δ).trans ((ah HRW.out Z3).trans c5);have e6:=(ah ZN δ).trans ((ah HRW.out Z3).trans c6);exact Yb e4 (Yb e5 e6)):p:=h
theorem wV(h:p:=by
 have hz8:vl<=8001:=by have h1:=Zx.1;have h2:=HS.out k x hx;omega
 have HX:=G hx;have HT:=G Zx;have aoy:=G z0;exact Yb hz8 (Yb HX (Yb HT aoy))):p:=h
theorem ajg(h:p:=by
 repeat (go_big_quiet_step (first|(go_at_call 126;exact Calls.wide (HC.out _))|fail))
 refine wpQuiet_nil ?_;rintro _ ⟨q,rfl⟩;have ZX:=upB HW q.b;have Bk2:=upK GK q.b;clear hne0 k0 k1 k2 k3 k4 k5 r0 r1 r2 r3 r4 r5 c0 c1 c2 c3 c4 c5 c6 hb HB Bk;have HB:=ZX;have Bk:=Bk2;by_cases hq:cpuOf n.n c.ps<=n.c
 ·exact Q5
 ·have ν:=G hq;go_wp2;go_ret;exact ar.f (λh=>by have h1:cpuOf n.n c.ps<=n.c:=(h.2.1 k n HXn.out);have h2:=ν.out;omega) HB.out):p:=h
theorem ajf(h:p:=by
 repeat (go_big_quiet_step (first|(go_at_call 129;exact Calls.wide (HC.out _))|fail))
 refine wpQuiet_nil ?_;rintro _ ⟨q,rfl⟩;have ZX:=upB HW q.b;have Bk2:=upK GK q.b;clear hne0 k0 k1 k2 k3 k4 k5 r0 r3 c0 c1 c2 c3 c4 c5 c6 hb HB Bk;have HB:=ZX;have Bk:=Bk2;by_cases hq:onOf n.n c.vs<=n.s
 ·exact Q5
 ·have ν:=G hq;go_wp2;go_ret;exact ar.f (λh=>by have h1:onOf n.n c.vs<=n.s:=(h.2 k n HXn.out);have h2:=ν.out;omega) HB.out):p:=h
theorem afS(h:p:=by
 have HR:=G hr;obtain⟨hl3,hm3⟩:=o_;obtain⟨hl4,hm4⟩:=uY;clear hr;have HE:=G hG;have HXR:=G hxr;have σ:=G Zx;clear hG hxr Zx;go_enter Tryz.func68,Tryz.ntmps68;go_wp2;go_loopw [10] (λi wr=> ∃k:Nat,k<=l3/\i=V O k/\Hid (∀(j:Nat) z,j<k->c.vs[j]?=M z->QV c z)/\Hid (Below w.heap.size w wr)/\Hid (wr.heap[w.heap.size]?=M (Ze (Zd a1 l1 y1 a2 l2 y2 a3 l3 y3 a4 l4 y4 a5 l5 y5 c.now) 29 (0,0)))) (λi _=>l3 - (intOf i).toNat);case atStart=>exact⟨0,by omega,rfl,λ_ _ h=>absurd h af,aj _ _,Yf⟩
 case round=>
  obtain⟨k,hk,rfl,HQ,HB,Bk⟩:=hrel;by_cases Zo:k<l3
  ·have apZ:=@G _ @KQ;exact nt
  ·obtain rfl:l3=k:=af
   have HQ1:Hid (∀(j:Nat) z,c.vs[j]?=M z->QV c z):=λj z hz=>HQ.out j z dO hz;have k3:=ck3 Bk;go_wp2;go_loopw [37] (λi wr=> ∃k:Nat,k<=l4/\i=V O k/\Hid (∀(j:Nat) z,j<k->c.xs[j]?=M z->QX c z)/\Hid (Below w.heap.size w wr)/\Hid (wr.heap[w.heap.size]?=M (Ze (Zd a1 l1 y1 a2 l2 y2 a3 l3 y3 a4 l4 y4 a5 l5 y5 c.now) 29 (0,0)))) (λi _=>l4 - (intOf i).toNat);case atStart=>exact⟨0,by omega,rfl,λ_ _ h=>absurd h af,HB.out,Bk.out⟩
   case round=>
    obtain⟨k,hk,rfl,HQ,HB,Bk⟩:=hrel;by_cases Zo:k<l4
    ·have apt:=@G _ @Hi;exact jX
    ·obtain rfl:l4=k:=af
     have ν:Hid (∀(j:Nat) z,c.xs[j]?=M z->QX c z):=λj z hz=>HQ.out j z dO hz;exact qO):p:=h
theorem afR(h:p:=by
 have HR:=G hr;obtain⟨hl5,hm5⟩:=lK;clear hr;go_enter Tryz.func127,Tryz.ntmps127;go_wp2;go_loopw [5,11] (λq i wr=> ∃(k:Nat) (s:ByteArray),k<=l5/\q=I s/\i=V O k/\Hid (∀(j:Nat) p,j<k->c.ps[j]?=M p->¬p.d=⟨#[]⟩->InL p.zs t->p.d=s)/\Hid (s=⟨#[]⟩\/∃(j:Nat) (p:Pd),j<k/\c.ps[j]?=M p/\¬p.d=⟨#[]⟩/\InL p.zs t/\p.d=s)/\Hid (Below w.heap.size w wr)) (λ_ i _=>l5 - (intOf i).toNat);case atStart=>exact⟨0,_,by omega,rfl,rfl,λ_ _ h=>absurd h af,Zl rfl,aj _ _⟩
 case round=>
  obtain⟨k,s,hk,rfl,rfl,HQ,HS,HB⟩:=hrel;by_cases Zo:k<l5
  ·obtain⟨b,o,p,rfl,hb,hx,Zc⟩:=db (HR.p.below HB.out) Zo;have aoX:=@G _ @ID;exact ia
  ·obtain rfl:l5=k:=af
   go_wp2;go_ret;refine ar.t (λi j p q hi hj h1 h2 h3 h4=>?_) HB.out;rw[HQ.out i p OF hi h1 h3,HQ.out j q uT hj h2 h4]):p:=h
theorem afQ(h:p:=by
 obtain⟨HR,hl1⟩:=lr;have hm1:l1<=9223372036854775807:=Yo hr.n.2.1 hr.n.2.2.1;obtain⟨hl5,hm5⟩:=lK;clear hr;have HNR:=G hn;have HXR:=G hx;have σ:=G hv;have HNE:=G ZE;clear hn hx hv ZE;go_enter Tryz.func71,Tryz.ntmps71;go_wp2;go_loopw [10] (λi wr=> ∃k:Nat,k<=l1/\i=V O k/\Hid (∀(j:Nat) z,j<k->c.ns[j]?=M z->Sd c z)/\Hid (Below w.heap.size w wr)/\Hid (wr.heap[w.heap.size]?=M (Ze (Zd a1 l1 y1 a2 l2 y2 a3 l3 y3 a4 l4 y4 a5 l5 y5 c.now) 29 (0,0)))) (λi _=>l1 - (intOf i).toNat);case atStart=>exact⟨0,by omega,rfl,λ_ _ h=>absurd h af,aj _ _,Yf⟩
 case round=>
  obtain⟨k,hk,rfl,HQ,HB,Bk⟩:=hrel;by_cases Zo:k<l1
  ·have ao3:=@G _ @UG;exact gn
  ·have arL:=@G _ @EM;exact sB):p:=h
theorem afC(h:p:=by
 by_cases e:j=k
 ·subst e;rw[HXp.out] at hz;exact xi
 ·exact HQ.out j z af hz):p:=h
theorem afB(h:p:=by
 by_cases e:j=k
 ·subst e;rw[HXp.out] at hz;exact xu
 ·exact HQ.out j z af hz):p:=h
theorem afA(h:p:=by
 by_cases e:j=k
 ·subst e;rw[HXv.out] at hz;obtain rfl:=Yd hz;exact λ_ _=>HI.1 bU
 ·exact HQ.out j z af hz):p:=h
theorem afz(h:p:=by
 by_cases e:j=k
 ·subst e;rw[HXn.out] at hz;obtain rfl:=Yd hz;exact hq
 ·exact HQ.out j z af hz):p:=h
theorem ae4(h:p:=by
 refine (bh z _ hz).mono ?_;have aoV:=@G _ @aaZ;exact gu):p:=h
theorem ae3(h:p:=by
 refine (dt z _ hz).mono ?_;exact PC):p:=h
theorem ae2(h:p:=by
 refine (cG z 1 1048576 _).mono ?_;have aoV:=@G _ @aaY;exact gu):p:=h
theorem ae1(h:p:=by
 refine (cG c 0 1000000 _).mono ?_;have aoV:=@G _ @aaX;exact gu):p:=h
theorem ae0(h:p:=by
 by_cases p4:dz m;case neg=>
  have F4:Hid (∀w,Calls Tryz.prog 150 #[I m] w λe w'=>e=Zh (Zf Zg)/\w'=w):=λw=>(dt m w hm).mono λ_ _ h=>h.no p4;have HP:=G p4;clear p4;go_enter Tryz.func183,Tryz.ntmps183;go_wp2_with fail;go_quiet ((first|(go_at_call_of 156 (Yn n);exact YD (F0.out _))|(go_at_call_of 66 (Value.int O c);exact YD (F1.out _))|(go_at_call_of 156 (Yn z);exact YD (F2.out _))|(go_at_call_of 156 (Yn k);exact YD (F3.out _))|(go_at_call_of 150 (Yn m);exact YD (F4.out _))));exact Qz
 have F4:Hid (∀w,Calls Tryz.prog 150 #[I m] w λe w'=>e=Zh (Zf Zi)/\w'=w):=λw=>(dt m w hm).mono λ_ _ h=>h.yes p4;obtain⟨q,hq⟩:∃q:Int,q=if x=Zi then 1 else 6:=⟨_,rfl⟩;have HM:Hid (∀w,Calls Tryz.prog 197 #[Zj #[I n,V O c,I z,I k,Zf x,I m,Zf Zg,U a len cap]] w λe w'=>e=Zh (V O q)/\Below w.heap.size w w'):=λw=>by rw[hq];exact nY n c z k x m Zg a len cap w
 have HQ:Hid (q=if x=Zi then 1 else 6):=hq;clear hq;go_enter Tryz.func183,Tryz.ntmps183;go_wp2_with fail;go_region_with (first|(go_at_call_of 156 (Yn n);refine (F0.out _).mono ?_;rintro e w1 ⟨rfl,rfl⟩)|(go_at_call_of 66 (Value.int O c);refine (F1.out _).mono ?_;rintro e w1 ⟨rfl,rfl⟩)|(go_at_call_of 156 (Yn z);refine (F2.out _).mono ?_;rintro e w1 ⟨rfl,rfl⟩)|(go_at_call_of 156 (Yn k);refine (F3.out _).mono ?_;rintro e w1 ⟨rfl,rfl⟩)|(go_at_call_of 150 (Yn m);refine (F4.out _).mono ?_;rintro e w1 ⟨rfl,rfl⟩)|(go_at_call 197;refine (HM.out _).mono ?_;rintro e w1 ⟨rfl,hb⟩;have hc7:=al (kJ hb).1 7;simp only[List.getElem?_toArray,List.getElem?_cons_succ,List.getElem?_cons_zero] at hc7)|(go_at_call 196;refine (gC a len cap zs _ _ (HR.below (kJ hb).2.1)).mono ?_;rintro e w2 ⟨r,rfl,hr,rfl⟩));all_goals (
  go_wp2_with fail;go_ret
  exact⟨r,rfl,⟨λh=>⟨p0,p1,p2,p3,p4,HY.out,HQ.out ▸ hr.1 h⟩,λh=>hr.2 (HQ.out ▸ h.2.2.2.2.2.2)⟩,(kJ hb).2.1⟩)):p:=h
theorem aeZ(h:p:=by
 by_cases p4:dz (⟨#[]⟩:ByteArray);case neg=>
  have F4:Hid (∀w,Calls Tryz.prog 150 #[I (⟨#[]⟩:ByteArray)] w λe w'=>e=Zh (Zf Zg)/\w'=w):=λw=>(dt (⟨#[]⟩:ByteArray) w hm).mono λ_ _ h=>h.no p4;have HP:=G p4;clear p4;go_enter Tryz.func183,Tryz.ntmps183;go_wp2_with fail;go_quiet ((first|(go_at_call_of 156 (Yn n);exact YD (F0.out _))|(go_at_call_of 66 (Value.int O c);exact YD (F1.out _))|(go_at_call_of 156 (Yn z);exact YD (F2.out _))|(go_at_call_of 156 (Yn k);exact YD (F3.out _))|(go_at_call_of 150 (Yn (⟨#[]⟩:ByteArray));exact YD (F4.out _))));exact Qz
 have F4:Hid (∀w,Calls Tryz.prog 150 #[I (⟨#[]⟩:ByteArray)] w λe w'=>e=Zh (Zf Zi)/\w'=w):=λw=>(dt (⟨#[]⟩:ByteArray) w hm).mono λ_ _ h=>h.yes p4;obtain⟨q,hq⟩:∃q:Int,q=if x=Zi then 1 else 6:=⟨_,rfl⟩;have HM:Hid (∀w,Calls Tryz.prog 197 #[Zj #[I n,V O c,I z,I k,Zf x,I (⟨#[]⟩:ByteArray),Zf Zi,U a len cap]] w λe w'=>e=Zh (V O q)/\Below w.heap.size w w'):=λw=>by rw[hq];exact nY n c z k x (⟨#[]⟩:ByteArray) Zi a len cap w
 have HQ:Hid (q=if x=Zi then 1 else 6):=hq;clear hq;go_enter Tryz.func183,Tryz.ntmps183;go_wp2_with fail;go_region_with (first|(go_at_call_of 156 (Yn n);refine (F0.out _).mono ?_;rintro e w1 ⟨rfl,rfl⟩)|(go_at_call_of 66 (Value.int O c);refine (F1.out _).mono ?_;rintro e w1 ⟨rfl,rfl⟩)|(go_at_call_of 156 (Yn z);refine (F2.out _).mono ?_;rintro e w1 ⟨rfl,rfl⟩)|(go_at_call_of 156 (Yn k);refine (F3.out _).mono ?_;rintro e w1 ⟨rfl,rfl⟩)|(go_at_call_of 150 (Yn (⟨#[]⟩:ByteArray));refine (F4.out _).mono ?_;rintro e w1 ⟨rfl,rfl⟩)|(go_at_call 197;refine (HM.out _).mono ?_;rintro e w1 ⟨rfl,hb⟩;have hc7:=al (kJ hb).1 7;simp only[List.getElem?_toArray,List.getElem?_cons_succ,List.getElem?_cons_zero] at hc7)|(go_at_call 196;refine (gC a len cap zs _ _ (HR.below (kJ hb).2.1)).mono ?_;rintro e w2 ⟨r,rfl,hr,rfl⟩));all_goals (
  go_wp2_with fail;go_ret
  exact⟨r,rfl,⟨λh=>⟨p0,p1,p2,p3,p4,(λ_=>rfl),HQ.out ▸ hr.1 h⟩,λh=>hr.2 (HQ.out ▸ h.2.2.2.2.2.2)⟩,(kJ hb).2.1⟩)):p:=h
theorem AE(h:p:=by
 by_cases p0:aN n;case neg=>
  exact ams
 have F0:Hid (∀w,Calls Tryz.prog 156 #[I n] w λe w'=>e=Zh (Zf Zi)/\w'=w):=λw=>(bh n w hn).mono λ_ _ h=>h.yes p0;by_cases p1:Inn c 1 1048576;case neg=>
  exact amv
 have F1:Hid (∀w,Calls Tryz.prog 66 #[V O c,V O 1,V O 1048576] w λe w'=>e=Zh (Zf Zi)/\w'=w):=λw=>(cG c 1 1048576 w).mono λ_ _ h=>h.yes p1;by_cases p2:aN z;case neg=>
  exact amx
 have F2:Hid (∀w,Calls Tryz.prog 156 #[I z] w λe w'=>e=Zh (Zf Zi)/\w'=w):=λw=>(bh z w hz).mono λ_ _ h=>h.yes p2;by_cases p3:aN k;case neg=>
  exact amA
 have F3:Hid (∀w,Calls Tryz.prog 156 #[I k] w λe w'=>e=Zh (Zf Zi)/\w'=w):=λw=>(bh k w hk).mono λ_ _ h=>h.yes p3;exact auQ):p:=h
theorem aeY(h:p:=by
 go_wp2_with fail;refine bodyPost_ret (v:=Zj #[U d'.a1 d'.l1 d'.c1,U d'.a2 d'.l2 d'.c2,U d'.a3 d'.l3 d'.c3,U d'.a4 d'.l4 d'.c4,U d'.a5 d'.l5 d'.c5,V O c.now]) (by simp[results,Tryz.results96,go_sem, *]) rfl ⟨d',rfl,?_,sb1 (sb1 (sb1 (sb1 (sb1 (sb1 (HBz.out))))))⟩;obtain⟨P,hP⟩:=HO.out;exact⟨P,hP.ay (λk _ s=>by have s1:W.heap.size<=k:=s;rw[Ya _ _ _ _ (show k≠w.heap.size+1 by omega),Ya _ _ _ _ (show k≠w.heap.size+1 by omega),Ya _ _ _ _ (show k≠w.heap.size+1 by omega),Ya _ _ _ _ (show k≠w.heap.size+1 by omega),Ya _ _ _ _ (show k≠w.heap.size+1 by omega),Ya _ _ _ _ (show k≠w.heap.size+1 by omega)]) (λk _ s=>by have s1:W.heap.size<=k:=s;show w.heap.size<=k;omega)⟩):p:=h
theorem aeO(h:p:=by
 refine (eW d c.now c.vs s w _ HR.v (HB.trans ((aj _ _).mono HB.size))).mono ?_;have aqQ:=@G _ @WY;exact lR):p:=h
theorem aeN(h:p:=by
 refine (eW d c.now c.vs s w _ HR.v (HB.trans ((aj _ _).mono HB.size))).mono ?_;have aqQ:=@G _ @WX;exact lR):p:=h
theorem aeM(h:p:=by
 refine (eW d c.now c.vs x.v r _ HR.v (HRW.trans ((HB.trans ((aj _ _).mono HB.size)).mono HRW.size))).mono ?_;have aqQ:=@G _ @WW;exact lR):p:=h
theorem aeL(h:p:=by
 refine (eW d c.now c.vs ⟨#[]⟩ r _ HR.v (HRW.trans ((HB.trans ((aj _ _).mono HB.size)).mono HRW.size))).mono ?_;have aqQ:=@G _ @WV;exact lR):p:=h
theorem jS(h:p:=by
 have apo:=@G _ @UP;exact iK):p:=h
theorem aeJ(h:p:=by
 have ao5:=@G _ @Xl;exact gq):p:=h
theorem aeI(h:p:=by
 by_cases ZP:v.z=n.z
 ·have q3:=aP ZP;have HZ2:=G ZP;clear ZP;have ao5:=@G _ @Xk;exact gq
 ·have q3:=bu ZP;have HZ2:=G ZP;clear ZP;have ao5:=@G _ @Xj;exact gq):p:=h
theorem Az(h:p:=by
 obtain⟨b,o,t,rfl,hb,hx,hc,Zq⟩:=(HP.below HB.out).at Zo;have HXt:=G hx;clear hx Zq;have ao5:=@G _ @Xi;exact gq):p:=h
theorem aeB(h:p:=by
 refine (fC (E 0) _).mono ?_;exact kb):p:=h
theorem aeA(h:p:=by
 refine (aG HE.out 1 0 ag ag ag).mono ?_;rintro e w' ⟨rfl,rfl⟩;go_wp2_with fail;refine (aG HE.out 1 9 ag ag ag).mono ?_;rintro e w' ⟨rfl,rfl⟩;go_wp2_with fail;refine (aG HE.out 1 2 ag ag ag).mono ?_;rintro e w' ⟨rfl,rfl⟩;go_wp2_with fail;refine (aG HE.out 1 3 ag ag ag).mono ?_;rintro e w' ⟨rfl,rfl⟩;go_wp2_with fail;refine (aG HE.out 1 6 ag ag ag).mono ?_;rintro e w' ⟨rfl,rfl⟩;go_wp2_with fail;refine (aG HE.out 1 4 ag ag ag).mono ?_;rintro e w' ⟨rfl,rfl⟩;go_wp2_with fail;refine (aG HE.out 1 5 ag ag ag).mono ?_;rintro e w' ⟨rfl,rfl⟩;go_wp2_with fail;refine (aG HE.out 1 7 ag ag ag).mono ?_;rintro e w' ⟨rfl,rfl⟩;go_wp2_with fail;refine (aG HE.out 1 8 ag ag ag).mono ?_;exact kb):p:=h
theorem aez(h:p:=by
 refine (aG HE.out 2 0 ag ag ag).mono ?_;rintro e w' ⟨rfl,rfl⟩;go_wp2_with fail;refine (aG HE.out 2 9 ag ag ag).mono ?_;rintro e w' ⟨rfl,rfl⟩;go_wp2_with fail;refine (fC (E 2) _).mono ?_;exact kb):p:=h
theorem aey(h:p:=by
 refine (aG HE.out 3 0 ag ag ag).mono ?_;rintro e w' ⟨rfl,rfl⟩;go_wp2_with fail;refine (aG HE.out 3 9 ag ag ag).mono ?_;rintro e w' ⟨rfl,rfl⟩;go_wp2_with fail;refine (aG HE.out 3 2 ag ag ag).mono ?_;rintro e w' ⟨rfl,rfl⟩;go_wp2_with fail;refine (fC (E 3) _).mono ?_;exact kb):p:=h
theorem aex(h:p:=by
 refine (aG HE.out 4 0 ag ag ag).mono ?_;rintro e w' ⟨rfl,rfl⟩;go_wp2_with fail;refine (aG HE.out 4 9 ag ag ag).mono ?_;rintro e w' ⟨rfl,rfl⟩;go_wp2_with fail;refine (aG HE.out 4 2 ag ag ag).mono ?_;rintro e w' ⟨rfl,rfl⟩;go_wp2_with fail;refine (aG HE.out 4 3 ag ag ag).mono ?_;rintro e w' ⟨rfl,rfl⟩;go_wp2_with fail;refine (aG HE.out 4 6 ag ag ag).mono ?_;rintro e w' ⟨rfl,rfl⟩;go_wp2_with fail;refine (fC (E 4) _).mono ?_;exact kb):p:=h
theorem aew(h:p:=by
 refine (aG HE.out 5 0 ag ag ag).mono ?_;rintro e w' ⟨rfl,rfl⟩;go_wp2_with fail;refine (aG HE.out 5 9 ag ag ag).mono ?_;rintro e w' ⟨rfl,rfl⟩;go_wp2_with fail;refine (aG HE.out 5 2 ag ag ag).mono ?_;rintro e w' ⟨rfl,rfl⟩;go_wp2_with fail;refine (aG HE.out 5 3 ag ag ag).mono ?_;rintro e w' ⟨rfl,rfl⟩;go_wp2_with fail;refine (aG HE.out 5 6 ag ag ag).mono ?_;rintro e w' ⟨rfl,rfl⟩;go_wp2_with fail;refine (aG HE.out 5 4 ag ag ag).mono ?_;rintro e w' ⟨rfl,rfl⟩;go_wp2_with fail;refine (fC (E 5) _).mono ?_;exact kb):p:=h
theorem aev(h:p:=by
 refine (aG HE.out 6 0 ag ag ag).mono ?_;rintro e w' ⟨rfl,rfl⟩;go_wp2_with fail;refine (aG HE.out 6 9 ag ag ag).mono ?_;rintro e w' ⟨rfl,rfl⟩;go_wp2_with fail;refine (aG HE.out 6 2 ag ag ag).mono ?_;rintro e w' ⟨rfl,rfl⟩;go_wp2_with fail;refine (aG HE.out 6 3 ag ag ag).mono ?_;rintro e w' ⟨rfl,rfl⟩;go_wp2_with fail;refine (fC (E 6) _).mono ?_;exact kb):p:=h
theorem aeu(h:p:=by
 refine (aG HE.out 7 0 ag ag ag).mono ?_;rintro e w' ⟨rfl,rfl⟩;go_wp2_with fail;refine (aG HE.out 7 9 ag ag ag).mono ?_;rintro e w' ⟨rfl,rfl⟩;go_wp2_with fail;refine (aG HE.out 7 2 ag ag ag).mono ?_;rintro e w' ⟨rfl,rfl⟩;go_wp2_with fail;refine (aG HE.out 7 3 ag ag ag).mono ?_;rintro e w' ⟨rfl,rfl⟩;go_wp2_with fail;refine (aG HE.out 7 6 ag ag ag).mono ?_;rintro e w' ⟨rfl,rfl⟩;go_wp2_with fail;refine (aG HE.out 7 4 ag ag ag).mono ?_;rintro e w' ⟨rfl,rfl⟩;go_wp2_with fail;refine (aG HE.out 7 5 ag ag ag).mono ?_;rintro e w' ⟨rfl,rfl⟩;go_wp2_with fail;refine (fC (E 7) _).mono ?_;exact kb):p:=h
theorem aet(h:p:=by
 refine (aG HE.out 8 0 ag ag ag).mono ?_;rintro e w' ⟨rfl,rfl⟩;go_wp2_with fail;refine (aG HE.out 8 9 ag ag ag).mono ?_;rintro e w' ⟨rfl,rfl⟩;go_wp2_with fail;refine (aG HE.out 8 2 ag ag ag).mono ?_;rintro e w' ⟨rfl,rfl⟩;go_wp2_with fail;refine (aG HE.out 8 3 ag ag ag).mono ?_;rintro e w' ⟨rfl,rfl⟩;go_wp2_with fail;refine (aG HE.out 8 6 ag ag ag).mono ?_;rintro e w' ⟨rfl,rfl⟩;go_wp2_with fail;refine (aG HE.out 8 4 ag ag ag).mono ?_;rintro e w' ⟨rfl,rfl⟩;go_wp2_with fail;refine (aG HE.out 8 5 ag ag ag).mono ?_;rintro e w' ⟨rfl,rfl⟩;go_wp2_with fail;refine (aG HE.out 8 7 ag ag ag).mono ?_;rintro e w' ⟨rfl,rfl⟩;go_wp2_with fail;refine (fC (E 8) _).mono ?_;exact kb):p:=h
theorem eO(h:p:=by
 obtain⟨HE,v0,v1,v2,v3,v4,v5,v6,v7,v8,v9⟩:=amk;clear h;go_enter Tryz.func26,Tryz.ntmps26;go_wp2_with fail;exact aoo):p:=h
theorem aes(h:p:=by
 clear Zy d0 d1 d2 d3 d4 d5 d6;exact vq):p:=h
theorem aer(h:p:=by
 clear Zy d0 d1 d2 d3;exact vq):p:=h
theorem aeq(h:p:=by
 clear Zy d0 d1 d2 d3 d4 d5 d6 d7;exact vq):p:=h
theorem aep(h:p:=by
 clear Zy d0 d1 d2 d3 d4;exact vq):p:=h
theorem aeo(h:p:=by
 clear Zy d0 d1 d2 d3 d4 d5;exact vq):p:=h
theorem jR(h:p:=by
 rw[Zz] at aqh;go_wp2_with fail;refine (HC.out _).mono ?_;rintro e w3 ⟨rfl,Zy⟩;have HB4:=G (Z7.trans (Zy.mono (Yo HB.size af)));exact apL):p:=h
theorem aec(h:p:=by
 obtain⟨hz8,HX,HT,aoy⟩:=wV;have aqa:=G z2;have avY:=G z3;have avZ:=G z5;clear Zc hx Zx z0 z2 z3 z5;go_wp2_with fail;refine (xW x va vl vc _ (HT.below (aj _ _)) hz8).mono ?_;have ar7:=@G _ @Wo;exact qh):p:=h
theorem aeb(h:p:=by
 have HX:=G hx;clear Zc hx z0 z2 z3 z5 Zx;have HC:=G (λv:World=>eT x va vl vc v);have ZW:=G (HB.alloc HB.size (Ze (vov x va vl vc) 37));have ar8:=@G _ @WC;exact qj):p:=h
theorem aea(h:p:=by
 obtain⟨δ,e0,e1,e2,e3⟩:=AW;obtain⟨e4,e5,e6⟩:=O3;have e7:=(ah ZN δ).trans ((ah HRW.out Z3).trans c7);have auR:=@G _ @Wq;exact zy):p:=h
theorem ad_(h:p:=by
 have HX:=G hx;have HT:=G Zx;clear Zc hx z0 z2 z3 z5 Zx;go_wp2_with fail;refine (eu va vl vc v.zs t _ (HT.below (aj _ _))).mono ?_;rintro e w1 ⟨r,rfl,hi,ZG⟩;obtain⟨ZD,Zr⟩:=aY ZG;replace HB:=upB HB Zr;clear ZG Zr ZD;have HI:=G hi;clear hi hb c0 c1 c2 c3 c4 c5 c6 c7;cases r
 ·go_wp2;refine⟨⟨k+1,s,by omega,rfl,by go_num,?_,by omega,by omega,HB.out⟩,by simp[intOf];omega⟩;exact P6
 ·go_wp2;refine⟨⟨k+1,s+1,by omega,by go_num,by go_num,?_,by omega,by omega,HB.out⟩,by simp[intOf];omega⟩;show _=_;rw[kU HX.out,if_pos (HI.1 bU),<-HS.out]):p:=h
theorem ad9(h:p:=by
 have ar1:=@G _ @Di;exact sg):p:=h
theorem ad7(h:p:=by
 obtain⟨p0,p1,p2,p3,p4,p5,p6⟩:=cs7 Bp;obtain⟨r0,r1,r2,r3,r4,r5,r6⟩:=cs7 Br;obtain⟨ZR,ZS,ZT,ZU,ZV⟩:=nM;have ZY:=ak Br.out 5;have fp6:=ak Bp.out 6;have Z1:=ak Br.out 6;go_wp2_with fail;refine bodyPost_ret (v:=Zj #[I x.n,I x.z,V O x.c,V O x.s,V O x.u,Zf x.d,U a' l' c']) (by simp[results,Tryz.results160,go_sem, *]) rfl ⟨a',l',c',rfl,HO.ay (λk _ s=>by have s1:w.heap.size+1+1<=k:=s;rw[Ya _ _ _ _ (show k≠w.heap.size+1 by omega),Ya _ _ _ _ (show k≠w.heap.size+1 by omega),Ya _ _ _ _ (show k≠w.heap.size+1 by omega),Ya _ _ _ _ (show k≠w.heap.size+1 by omega),Ya _ _ _ _ (show k≠w.heap.size+1 by omega),Ya _ _ _ _ (show k≠w.heap.size+1 by omega),Ya _ _ _ _ (show k≠w.heap.size+1 by omega),Ya _ _ _ _ (show k≠w.heap.size by omega)]) (λk _ s=>by have s1:w.heap.size+1+1<=k:=s;show w.heap.size<=k;omega),sb1 (sb1 (sb1 (sb1 (sb1 (sb1 (sb1 (ai (Ye _) (HB.out))))))))⟩):p:=h
theorem ad6(h:p:=by
 obtain⟨p0,p1,p2,p3,p4,p5⟩:=cs6 Bp;obtain⟨r0,r1,r2,r3,r4,r5⟩:=cs6 Br;have ZR:=ak Br.out 0;have ZS:=ak Br.out 1;have ZT:=ak Br.out 2;have fp3:=ak Bp.out 3;have ZU:=ak Br.out 3;have ZV:=ak Br.out 4;have ZY:=ak Br.out 5;go_wp2_with fail;refine bodyPost_ret (v:=Zj #[I x.n,V O x.c,I x.z,U a' l' c',I x.d,V O x.p]) (by simp[results,Tryz.results163,go_sem, *]) rfl ⟨a',l',c',rfl,HO.ay (λk _ s=>by have s1:w.heap.size+1+1<=k:=s;rw[Ya _ _ _ _ (show k≠w.heap.size+1 by omega),Ya _ _ _ _ (show k≠w.heap.size+1 by omega),Ya _ _ _ _ (show k≠w.heap.size+1 by omega),Ya _ _ _ _ (show k≠w.heap.size+1 by omega),Ya _ _ _ _ (show k≠w.heap.size+1 by omega),Ya _ _ _ _ (show k≠w.heap.size+1 by omega),Ya _ _ _ _ (show k≠w.heap.size by omega)]) (λk _ s=>by have s1:w.heap.size+1+1<=k:=s;show w.heap.size<=k;omega),sb1 (sb1 (sb1 (sb1 (sb1 (sb1 (ai (Ye _) (HB.out)))))))⟩):p:=h
theorem Ar(h:p:=by
 go_wp2_with fail;refine (Ap.qV va vl vc x.zs _ (HR.below (HB.trans ((aM _ _ _).mono HB.size))) hl).mono ?_;rintro e w1 ⟨a',l',c',rfl,h1,h2,hb⟩;obtain⟨ZD,Ν,Zr⟩:=dK hb;have Bp:=G ZD;have Br:=G Ν;replace HB:=upB HB Zr;clear hb Zr ZD Ν;have HO:Hid (bG w1 a' l' c' x.zs (λk=>w.heap.size+1+1<=k)):=⟨h1,h2.imp id λ⟨g,cur,e1,e2,e3⟩=>⟨g,cur,e1,by simpa using e2,e3⟩⟩;clear h1 h2;exact auS):p:=h
theorem ad5(h:p:=by
 go_enter Tryz.func159,Tryz.ntmps159;go_wp2;go_loopw [5,10] (λvo vi wr=> ∃(k:Nat) (vss:List (List Value)) (H:Nat->Nat->Nat),k<=len/\vi=V O k/\Hid (wr.ownsRow w.heap.size 81 7 vo k vss.flatten)/\Hid (aR wr (λk=>w.heap.size<=k) 7 ((xs.take k).map ndF) vss H)/\Hid (Below w.heap.size w wr)) (λ_ vi _=>len - (intOf vi).toNat);case atStart=>exact⟨0,[],λ_ _=>0,by omega,rfl,World.ownsRow_nil _ _ _ _,aR.nil _ _ _ _,Yh _ _⟩
 case round=>
  obtain⟨k,vss,H,hk,rfl,HO,HV,HB⟩:=hrel;have hBs:=HB.size;by_cases Zo:k<len
  ·have aqj:=@G _ @I8;exact nh
  ·have ar9:=@G _ @Xr;exact qn):p:=h
theorem ad4(h:p:=by
 go_enter Tryz.func162,Tryz.ntmps162;go_wp2;go_loopw [5,10] (λvo vi wr=> ∃(k:Nat) (vss:List (List Value)) (H:Nat->Nat->Nat),k<=len/\vi=V O k/\Hid (wr.ownsRow w.heap.size 102 6 vo k vss.flatten)/\Hid (aR wr (λk=>w.heap.size<=k) 6 ((xs.take k).map pdF) vss H)/\Hid (Below w.heap.size w wr)) (λ_ vi _=>len - (intOf vi).toNat);case atStart=>exact⟨0,[],λ_ _=>0,by omega,rfl,World.ownsRow_nil _ _ _ _,aR.nil _ _ _ _,Yh _ _⟩
 case round=>
  obtain⟨k,vss,H,hk,rfl,HO,HV,HB⟩:=hrel;have hBs:=HB.size;by_cases Zo:k<len
  ·obtain⟨b,o,x,rfl,hb,hx,Zc⟩:=db (HR.below HB.out) Zo;obtain⟨va,vl,vc,Zx,z0,z2,z4,c0,c1,c2,c3,c4,c5⟩:=bK Zc;obtain⟨hz8,HX,HT,aoy⟩:=wV;have aqa:=G z2;have avX:=G z4;clear Zc hx Zx z0 z2 z4;go_wp2_with fail;refine (xX x va vl vc _ (HT.below (aj _ _)) hz8).mono ?_;have ar7:=@G _ @Wl;exact qh
  ·have ar9:=@G _ @Xq;exact qn):p:=h
theorem jQ(h:p:=by
 have ao2:=@G _ @NB;exact ie):p:=h
theorem adW(h:p:=by
 refine (Ci d c _ (HR.below HB.out)).mono ?_;rintro e w2 ⟨r,rfl,hi,hb⟩;have apj:=@G _ @aau;exact iM):p:=h
theorem adO(h:p:=by
 go_ret;refine ar.f (λ⟨i,m,e1,e2,e3,_⟩=>?_) (HB.alloc HB.size _);obtain⟨_,rfl⟩:=HN.inj e1 Κ.out (e2.trans HN1.symm);exact HC.out e3):p:=h
theorem adN(h:p:=by
 go_ret;refine ar.f (λ⟨i,m,e1,e2,e3,_⟩=>?_) (HB.alloc HB.size _);obtain⟨_,rfl⟩:=HN.inj e1 Κ.out (e2.trans HN1.symm);rw[hd] at e3;cases e3):p:=h
theorem adM(h:p:=by
 go_ret;refine ar.f (λ⟨i,n,e1,e2,_⟩=>?_) (HB.alloc HB.size _);have:=(bj HN.out e1 e2).2;rw[HH.out] at this;cases this):p:=h
theorem qG(h:p:=by
 have apn:=@G _ @X7;exact iL):p:=h
theorem adD(h:p:=by
 obtain⟨d4,f4,d5,f5,d6,f6⟩:=qM;have aoA:=@G _ @Nb;exact fS):p:=h
theorem adC(h:p:=by
 have aoA:=@G _ @Na;exact fS):p:=h
theorem adB(h:p:=by
 obtain⟨d4,f4,d5,f5,d6,f6⟩:=qM;have d7:=ck7 g1;have f7:=ak g1 7;have aoA:=@G _ @M_;exact fS):p:=h
theorem adA(h:p:=by
 have d4:=ck4 g1;have f4:=ak g1 4;have aoA:=@G _ @M9;exact fS):p:=h
theorem lY(h:p:=by
 rintro e w1 ⟨hb,hf⟩;have g1:=(hb.block (w.heap.size+1) aF).trans (cL _ _ _);obtain⟨d0,f0,d1,f1,d2,f2,d3,f3⟩:=ahX;exact aqR):p:=h
theorem adv(h:p:=by
 refine bodyPost_ret (v:=Zn #[V O k,Zf (x.n.toList==t.toList)]) (by simp[results,Tryz.results193,go_sem]) rfl ⟨?_,Z7.out⟩;unfold hit;rw[hp,HX.out]):p:=h
theorem adu(h:p:=by
 refine bodyPost_ret (v:=Zn #[V O k,Zf (x.n.toList==t.toList)]) (by simp[results,Tryz.results148,go_sem]) rfl ⟨?_,Z7.out⟩;unfold hit;rw[hp,HX.out]):p:=h
theorem adt(h:p:=by
 refine bodyPost_ret (v:=Zn #[V O k,Zf (x.n.toList==t.toList)]) (by simp[results,Tryz.results147,go_sem]) rfl ⟨?_,Z7.out⟩;unfold hit;rw[hp,HX.out]):p:=h
theorem qD(h:p:=by
 go_wp2_with fail;refine (HC.out _).mono ?_;rintro e w2 ⟨rfl,ZG⟩;obtain⟨Z7,hp⟩:=ahP;clear ZG;go_wp2_with fail;exact ar_):p:=h
theorem adj(h:p:=by
 have asa:=@G _ @Nr;exact uD):p:=h
theorem adi(h:p:=by
 refine (eu va vl vc v.zs n.n _ (HTv.below (HB.trans ((aj _ _).mono HB.size)))).mono ?_;rintro e w3 ⟨r,rfl,hi,Zy⟩;clear k0 k1 k2 k3 k4 k5 n0 n1 n2 n3 n4 n6 aoh n5;obtain⟨ZD,Zr⟩:=aY Zy;replace Bk:=upK Bk Zr;replace Bn:=upK Bn Zr;have Bv:=G ZD;replace HB:=upB HB Zr;clear Zy Zr ZD;have HI:=G hi;clear hi;cases r
 ·go_wp2;go_ret;refine ar.f (λh=>?_) HB.out;obtain⟨i,v',e1,e2,e3⟩:=h k t HXt.out;obtain⟨_,rfl⟩:=HV.inj e1 HXv.out (e2.trans HNv.symm);rcases e3 with e3|e3
  ·rw[HD.out] at e3;cases e3
  ·have:=HI.2 e3;cases this
 ·go_wp2_with fail;refine⟨⟨k+1,by omega,by go_num,λj s hj hs=>?_,HB.out,Bk.out,Bn.out⟩,by simp[intOf];omega⟩;by_cases e:j=k
  ·subst e;rw[HXt.out] at hs;obtain rfl:=Yd hs;exact⟨_,v,HXv.out,HNv.out,Zk (HI.1 bU)⟩
  ·exact HQ.out j s af hs):p:=h
theorem Af(h:p:=by
 have HD:=G hd;clear hd;obtain⟨k0,k1,k2,k3,k4,k5⟩:=cs6 Bk;obtain⟨n0,n1,n2,n3,n4,-,n6⟩:=cs7 Bn;have aoh:=ae Bn.out;have n5:=(al Bn.out 5).trans (congrArg (λz=>M (Value.bool z)) HD.out);go_wp2_with fail;exact auT):p:=h
theorem acY(h:p:=by
 go_enter Tryz.func126,Tryz.ntmps126;go_wp2;go_loopw [5,11] (λq i wr=> ∃(k:Nat) (s:Int),k<=l5/\q=V O s/\i=V O k/\Hid (s=cpuOf t (ps.take k))/\0<=s/\s<=k*1000000/\Hid (Below w.heap.size w wr)) (λ_ i _=>l5 - (intOf i).toNat);case atStart=>exact⟨0,0,by omega,rfl,rfl,rfl,by omega,by omega,aj _ _⟩
 case round=>
  obtain⟨k,s,hk,rfl,rfl,HS,hs0,hs1,HB⟩:=hrel;by_cases Zo:k<l5
  ·obtain⟨b,o,p,rfl,hb,hx,Zc⟩:=db (HR.below HB.out) Zo;have aoX:=@G _ @IC;exact ia
  ·obtain rfl:l5=k:=af
   exact xB):p:=h
theorem acr(h:p:=by
 rcases hf with ⟨hh,x,hx,hn,rfl,z0,z2,z4⟩|⟨hh,rfl⟩
 ·have HX:=G (Yb hx (Yb hn (Yb z0 (Yb z2 z4))));clear hx hn z0 z2 z4 hh;have aoB:=@G _ @I3;exact fP
 ·have HH:=G hh;clear hh;have aoB:=@G _ @I0;exact fP):p:=h
theorem aca(h:p:=by
 have apy:=@G _ @D9;exact jT):p:=h
theorem ab_(h:p:=by
 have apy:=@G _ @D8;exact jT):p:=h
theorem abG(h:p:=by
 by_cases e:j=k
 ·subst e;rw[HXv.out] at hz;exact xi
 ·exact HQ.out j z af hz):p:=h
theorem abF(h:p:=by
 by_cases e:j=k
 ·subst e;rw[HXv.out] at hz;exact xu
 ·exact HQ.out j z af hz):p:=h
theorem abE(h:p:=by
 by_cases e:j=k
 ·subst e;rw[HXx.out] at hz;exact xi
 ·exact HQ.out j z af hz):p:=h
theorem abD(h:p:=by
 by_cases e:j=k
 ·subst e;rw[HXx.out] at hz;exact xu
 ·exact HQ.out j z af hz):p:=h
theorem abC(h:p:=by
 by_cases e:j=k
 ·subst e;rw[HXn.out] at hz;obtain rfl:=Yd hz;exact HI.1 bU
 ·exact HQ.out j z af hz):p:=h
theorem abB(h:p:=by
 by_cases e:j=k
 ·subst e;rw[HXp.out] at hz;obtain rfl:=Yd hz;exact λ_=>HI.1 bU
 ·exact HQ.out j z af hz):p:=h
theorem aaZ(h:p:=by
 refine (cG c 0 1000000 _).mono ?_;have api:=@G _ @TI;exact iI):p:=h
theorem aaY(h:p:=by
 refine (bh k _ hk).mono ?_;have api:=@G _ @TH;exact iI):p:=h
theorem aaX(h:p:=by
 refine (dt z _ hz).mono ?_;have api:=@G _ @TG;exact iI):p:=h
theorem aaP(h:p:=by
 have e3:=hf 3 ag;simp[Gi.slotFact,Yg] at e3;exact kS):p:=h
theorem aaO(h:p:=by
 have e6:=hf 6 ag;simp[Gi.slotFact,Yg] at e6;exact kS):p:=h
theorem aaN(h:p:=by
 have e9:=hf 9 ag;simp[Gi.slotFact,Yg] at e9;exact kS):p:=h
theorem aaM(h:p:=by
 have e12:=hf 12 ag;simp[Gi.slotFact,Yg] at e12;exact kS):p:=h
theorem aaL(h:p:=by
 have e15:=hf 15 ag;simp[Gi.slotFact,Yg] at e15;exact kS):p:=h
theorem aaK(h:p:=by
 have e18:=hf 18 ag;simp[Gi.slotFact,Yg] at e18;exact kS):p:=h
theorem aaJ(h:p:=by
 have e1:=hf 1 ag;simp[Gi.slotFact,Yg] at e1;clear hf;exact dE):p:=h
theorem aav(h:p:=by
 have HI2:=G hi;clear hi;cases r
 ·exact Q8
 obtain⟨k0,k1,k2,k3,k4,k5⟩:=cs6 Bk;go_wp2_with fail;refine (wQ _ _ _ c.vs 8 _ (HR.v.below HB.out)).mono ?_;have asb:=@G _ @Nn;exact uB):p:=h
theorem aau(h:p:=by
 have arO:=@G _ @Dl;exact sh):p:=h
theorem aaq(h:p:=by
 clear ZG d0 d1 d2 d3 d4 d5 d6;have d0:=ck0 g2;have d1:=ck1 g2;have d2:=ck2 g2;have d3:=ck3 g2;have d4:=ck4 g2;have d5:=ck5 g2;have d6:=ck6 g2;clear g2;cases Zz:Yk y.toList x.n.toList
 ·exact vj
 ·have apL:=@G _ @aes;exact jR):p:=h
theorem aap(h:p:=by
 clear ZG d0 d1 d2 d3;have d0:=ck0 g2;have d1:=ck1 g2;have d2:=ck2 g2;have d3:=ck3 g2;clear g2;cases Zz:Yk y.toList x.n.toList
 ·exact vj
 ·have apL:=@G _ @aer;exact jR):p:=h
theorem aao(h:p:=by
 clear ZG d0 d1 d2 d3 d4 d5 d6 d7;have d0:=ck0 g2;have d1:=ck1 g2;have d2:=ck2 g2;have d3:=ck3 g2;have d4:=ck4 g2;have d5:=ck5 g2;have d6:=ck6 g2;have d7:=ck7 g2;clear g2;cases Zz:Yk y.toList x.n.toList
 ·exact vj
 ·have apL:=@G _ @aeq;exact jR):p:=h
theorem aan(h:p:=by
 clear ZG d0 d1 d2 d3 d4;have d0:=ck0 g2;have d1:=ck1 g2;have d2:=ck2 g2;have d3:=ck3 g2;have d4:=ck4 g2;clear g2;cases Zz:Yk y.toList x.n.toList
 ·exact vj
 ·have apL:=@G _ @aep;exact jR):p:=h
theorem aam(h:p:=by
 clear ZG d0 d1 d2 d3 d4 d5;have d0:=ck0 g2;have d1:=ck1 g2;have d2:=ck2 g2;have d3:=ck3 g2;have d4:=ck4 g2;have d5:=ck5 g2;clear g2;cases Zz:Yk y.toList x.n.toList
 ·exact vj
 ·have apL:=@G _ @aeo;exact jR):p:=h
theorem jO(h:p:=by
 cases r
 ·exact amp
 have ZQ:=G (HI.1 rfl);go_wp2_with fail;refine (HC.out _).mono ?_;rintro e w2 ⟨rfl,ZG⟩;obtain⟨Z7,g2,hs2,aqh⟩:=ami;exact apM):p:=h
theorem X_(h:p:=by
 have hz:(p.z=⟨#[]⟩\/p.z=n.z)\/¬(p.z=⟨#[]⟩\/p.z=n.z):=Classical.em _;rcases hz with hz|hz;rotate_left
 ·have q1:=aU (λe=>hz (Zl e));have q2:=bu (λe=>hz (Zk e));have HC:=G hz;clear hz;have ar5:=@G _ @adO;exact qG
 have HC:=G hz;have hq:(p.z.toList.isEmpty=Zi)\/(p.z.toList.isEmpty=Zg/\(p.z.toList==n.z.toList)=Zi):=by
  by_cases e:p.z=⟨#[]⟩
  ·exact Zl (cw e)
  ·exact Zk ⟨aU e,aP (HC.resolve_left e)⟩
 clear hz;rcases hq with hq|⟨hq,Τ⟩
 ·exact aiG
 ·exact aiG):p:=h
theorem X9(h:p:=by
 cases hd:n.d;rotate_left
 ·have ar5:=@G _ @adN;exact qG
 have HC:=G hd;clear hd;have aoz:=@G _ @Ji;exact fQ):p:=h
theorem zJ(h:p:=by
 go_wp2_with fail;refine (oF d c.now c.ns p.d w _ HR.n (aM _ _ _)).mono ?_;rintro e w1 ⟨hb,hf⟩;obtain⟨ZD,Ν,Zr⟩:=dK hb;have Bk:=G ZD;have Bp:=G Ν;replace HB:=upB HB Zr;clear hb Zr ZD Ν;rcases hf with ⟨hh,n,va,vl,vc,hx,hn,rfl,z0,z1,Zx⟩|⟨hh,rfl⟩;rotate_left
 ·exact ak9
 have Κ:=G hx;have HN1:=G hn;have HT1:=G Zx;clear hx hn hh z0 z1 Zx;exact auU):p:=h
theorem X8(h:p:=by
 have auV:=ae Bp.out;go_wp2;go_loopw [35] (λi wr=> ∃k:Nat,k<=pl/\i=V O k/\Hid (∀(j:Nat) t,j<k->p.zs[j]?=M t->∃v,aX c t v/\v.z=n.z)/\Hid (Below w.heap.size w wr)/\Hid (wr.heap[w.heap.size]?=M (Ze (Zs d c.now) 29 (0,0)))/\Hid (wr.heap[w1.heap.size]?=M (Ze (nov n va vl vc) 81 (0,0)))) (λi _=>pl - (intOf i).toNat);case atStart=>exact⟨0,by omega,rfl,λ_ _ h=>absurd h af,HB.alloc HB.size _,(Yj _ _ _ (ae Bk.out)).trans Bk.out,Yf⟩
 case round=>
  obtain⟨k,hk,rfl,HQ,HB,Bk,Bn⟩:=hrel;by_cases Zo:k<pl
  ·have auW:=@G _ @aeI;exact Az
  ·exact PJ):p:=h
theorem X7(h:p:=by
 have auV:=ae Bp.out;go_wp2;exact ar5):p:=h
theorem Xs(h:p:=by
 have hl5:(xs.map vdF).length=len:=by simpa using Z4
 exact xt):p:=h
theorem Xr(h:p:=by
 have hl5:(xs.map ndF).length=len:=by simpa using Z4
 exact xt):p:=h
theorem Xq(h:p:=by
 have hl5:(xs.map pdF).length=len:=by simpa using Z4
 exact xt):p:=h
theorem qn(h:p:=by
 obtain rfl:len=k:=af
 have h5:=HV.out;rw[YB af] at h5;obtain⟨a',c',rfl,hR⟩:=h5.own HO.out (by simp[Z4]) ag (λg hg=>(HO.lt g hg).1);have HR5:=G hR;exact ar9):p:=h
theorem Xp(h:p:=by
 go_wp2_with fail;refine (eW d c.now c.vs t w _ HR.v HB.out).mono ?_;have asc:=@G _ @Ma;exact ub):p:=h
theorem Xo(h:p:=by
 have aoh:=ae Bn.out;go_wp2;go_ret;refine ar.f (λh=>?_) (HB.alloc HB.size _);obtain⟨i,v,e1,e2,_⟩:=h k t HXt.out;have:=(bj HV.out e1 e2).2;rw[HH.out] at this;cases this):p:=h
theorem Xm(h:p:=by
 have aoh:=ae Bn.out;go_wp2;go_ret;refine ar.f (λ⟨i,m,e1,e2,e3,e4⟩=>?_) (HB.alloc HB.size _);obtain⟨v,e5,_⟩:=e4 k t HXt.out;exact HD.out v e5):p:=h
theorem Xl(h:p:=by
 have aoh:=ae Bn.out;go_wp2_with fail;refine (eu va vl vc n.zs v.n _ (HT1.below (HB.trans ((aj _ _).mono HB.size)))).mono ?_;rintro e w3 ⟨r,rfl,hi,Zy⟩;clear k0 k1 k2 k3 k4 k5 n0 n1 n2 n3 n4 n5 n6 aoh;obtain⟨ZD,Zr⟩:=aY Zy;replace Bk:=upK Bk Zr;replace Bn:=upK Bn Zr;replace HB:=upB HB Zr;clear Zy Zr ZD;have HI:=G hi;clear hi;cases r
 ·go_wp2;go_ret;refine ar.f (λ⟨i,m,e1,e2,e3,e4⟩=>?_) HB.out;obtain⟨_,rfl⟩:=HN.inj e1 Κ.out (e2.trans HN1.symm);obtain⟨v',e5,e6⟩:=e4 k t HXt.out;obtain rfl:=aX.inj HX.out HV.out HD.out e5;have:=HI.2 e6;cases this
 ·go_wp2_with fail;refine⟨⟨k+1,by omega,by go_num,λj s hj hs=>?_,HB.out,Bk.out,Bn.out⟩,by simp[intOf];omega⟩;by_cases e:j=k
  ·subst e;rw[HXt.out] at hs;obtain rfl:=Yd hs;exact⟨v,HD.out,HI.1 bU⟩
  ·exact HQ.out j s af hs):p:=h
theorem Xk(h:p:=by
 have aoh:=ae Bn.out;go_wp2_with fail;have asa:=@G _ @Nq;exact uD):p:=h
theorem Xj(h:p:=by
 have aoh:=ae Bn.out;go_wp2;go_ret;refine ar.f (λ⟨i,m,e1,e2,e3,e4⟩=>?_) (HB.alloc HB.size _);obtain⟨_,rfl⟩:=HN.inj e1 Κ.out (e2.trans HN1.symm);obtain⟨v',e5,e6⟩:=e4 k t HXt.out;obtain rfl:=aX.inj HX.out HV.out HD.out e5;exact HZ2.out e6):p:=h
theorem Xi(h:p:=by
 go_wp2_with fail;refine (ag4 d c t w _ HR.out HB.out HX.out HV.out HNE.out).mono ?_;have asc:=@G _ @L_;exact ub):p:=h
theorem gq(h:p:=by
 obtain⟨k0,k1,k2,k3,k4,k5⟩:=cs6 Bk;obtain⟨n0,n1,n2,n3,n4,n5,n6⟩:=cs7 Bn;exact ao5):p:=h
theorem Xh(h:p:=by
 go_enter Tryz.func103,Tryz.ntmps103;go_wp2;go_loopw [10] (λi wr=> ∃k:Nat,k<=len/\i=V O k/\Hid (∀(j:Nat) y,j<k->xs[j]?=M y->Yk y.n.toList t.toList=Zi)/\Hid (Below w.heap.size w wr)) (λi _=>len - (intOf i).toNat);case atStart=>exact⟨0,by omega,rfl,λj y hj=>by omega,Yh _ _⟩
 case round=>
  obtain⟨k,hk,rfl,HE,HB⟩:=hrel;by_cases Zo:k<len
  ·obtain⟨b,o,x,rfl,hb,hx,Zc⟩:=bY (HR.below HB.out) Zo;have aoW:=@G _ @aeb;exact gA
  ·obtain rfl:k=len:=af
   have hp:pl Vd.n xs t=xs.length:=ik (λj y hy=>HE.out j y nK hy);have hh:hit Vd.n xs t=Zg:=by unfold hit;rw[hp,List.getElem?_eq_none (Ye _)]
   have HP:=G hp;have HH:=G hh;clear hp hh;go_wp2;exact bodyPost_ret (v:=Zn #[V O k,Zf Zg]) (by simp[results,Tryz.results103,go_sem]) rfl ⟨by rw[HP.out,HH.out,Z4],HB.out⟩):p:=h
theorem qm(h:p:=by
 have anW:∀(v:Value) (w:World),(method 361 37 v "loop.example/g00571/impl.called").run Tryz.prog w=.ok (217,v) w:=λ_ _=>by kernel_rfl
 exact ase):p:=h
theorem Xe(h:p:=by
 go_enter Tryz.func147,Tryz.ntmps147;go_wp2;go_loopw [10] (λi wr=> ∃k:Nat,k<=len/\i=V O k/\Hid (∀(j:Nat) y,j<k->xs[j]?=M y->Yk y.n.toList t.toList=Zi)/\Hid (Below w.heap.size w wr)) (λi _=>len - (intOf i).toNat);case atStart=>exact⟨0,by omega,rfl,λj y hj=>by omega,Yh _ _⟩
 case round=>
  obtain⟨k,hk,rfl,HE,HB⟩:=hrel;by_cases Zo:k<len
  ·obtain⟨b,o,x,rfl,hb,hx,Zc⟩:=dB (HR.below HB.out) Zo;obtain⟨z0,z2,z4,c0,c1,c2,c3,c4⟩:=bD Zc;have HX:=G hx;clear Zc hx z0 z2 z4;have HC:=G (λv:World=>eS x v);have ZW:=G (HB.alloc HB.size (Ze (xov x) 47));go_wp2_with fail;refine (HC.out _).mono ?_;rintro e w1 ⟨rfl,ZN⟩;obtain⟨g1,-,-⟩:=fM ZN;have hs1:=ZN.size;rw[show (wr.alloc (Ze (xov x) 47)).heap.size=wr.heap.size+1 from by simp] at hs1;obtain⟨ZX,d0,d1,d2,d3⟩:=o8;have d4:=ck4 g1;clear g1 ZN c0 c1 c2 c3 c4;cases Zz:Yk x.n.toList t.toList
   ·have ar_:=@G _ @adt;exact qD
   ·exact A2
  ·obtain rfl:k=len:=af
   have hp:pl Xd.n xs t=xs.length:=ik (λj y hy=>HE.out j y nK hy);have hh:hit Xd.n xs t=Zg:=by unfold hit;rw[hp,List.getElem?_eq_none (Ye _)]
   have HP:=G hp;have HH:=G hh;clear hp hh;go_wp2;exact bodyPost_ret (v:=Zn #[V O k,Zf Zg]) (by simp[results,Tryz.results147,go_sem]) rfl ⟨by rw[HP.out,HH.out,Z4],HB.out⟩):p:=h
theorem qk(h:p:=by
 have anW:∀(v:Value) (w:World),(method 361 47 v "loop.example/g00571/impl.called").run Tryz.prog w=.ok (219,v) w:=λ_ _=>by kernel_rfl
 exact asf):p:=h
theorem WY(h:p:=by
 have Bx:=G ZD;replace HB:=upB HB Zr;clear hb Zr ZD;rcases hf with ⟨hh,v,va,vl,vc,hx,hn,rfl,z0,z2,z3,z5,Zx⟩|⟨hh,rfl⟩
 ·have HX2:=G hx;have HN2:=G hn;clear hx hn hh z0 z2 z3 z5 Zx;obtain⟨x0,x1,x2,x3,x4⟩:=cs5 Bx;have awJ:=ae Bx.out;cases q1:(x.v.toList==s.toList)
  ·go_wp2;go_ret;refine ar.f (λ⟨i,j,x',v',e1,e2,e3,e4,e5,_⟩=>?_) (HB.alloc HB.size _);obtain⟨_,rfl⟩:=HX.inj e1 Κ.out (e2.trans HN1.symm);rw[aP e5] at q1;cases q1
  cases q2:(v.m.toList==t.toList)
  ·go_wp2;go_ret;refine ar.f (λ⟨i,j,x',v',e1,e2,e3,e4,e5,e6,_⟩=>?_) (HB.alloc HB.size _);obtain⟨_,rfl⟩:=HV.inj e3 HX2.out (e4.trans HN2.symm);rw[aP e6] at q2;cases q2
  by_cases q3:x.z<=v.c;rotate_left
  ·go_wp2;go_ret;refine ar.f (λ⟨i,j,x',v',e1,e2,e3,e4,e5,e6,e7,_⟩=>?_) (HB.alloc HB.size _);have aqk:=@G _ @MZ;exact nz
  cases q4:(v.k.toList==x.k.toList)
  ·go_wp2;go_ret;refine ar.f (λ⟨i,j,x',v',e1,e2,e3,e4,e5,e6,e7,e8,_⟩=>?_) (HB.alloc HB.size _);have aqk:=@G _ @MY;exact nz
  cases q5:(v.x==x.x)
  ·go_wp2;go_ret;refine ar.f (λ⟨i,j,x',v',e1,e2,e3,e4,e5,e6,e7,e8,e9⟩=>?_) (HB.alloc HB.size _);have aqk:=@G _ @MX;exact nz
  ·go_wp2;go_ret;exact ar.t ⟨_,_,x,v,Κ.out,HN1.out,HX2.out,HN2.out,dy q1,dy q2,q3,dy q4,by simpa using q5⟩ (HB.alloc HB.size _)
 ·have HH2:=G hh;clear hh;have ar6:=@G _ @Mg;exact ue):p:=h
theorem WX(h:p:=by
 have Bx:=G ZD;replace HB:=upB HB Zr;clear hb Zr ZD;rcases hf with ⟨hh,v,va,vl,vc,hx,hn,rfl,z0,z2,z3,z5,Zx⟩|⟨hh,rfl⟩
 ·have HX2:=G hx;have HN2:=G hn;clear hx hn hh z0 z2 z3 z5 Zx;exact Q3
 ·have HH2:=G hh;clear hh;exact Q3):p:=h
theorem WW(h:p:=by
 replace Bs:=upK Bs Zr;have Bx:=G ZD;replace HB:=upB HB Zr;clear hb Zr ZD;rcases hf with ⟨hh,v,va,vl,vc,hx,hn,rfl,z0,z2,z3,z5,Zx⟩|⟨hh,rfl⟩
 ·have HX2:=G hx;have HN2:=G hn;have HT:=G Zx;have HZ0:=G z0;have HZ2:=G z2;clear hx hn hh z0 z2 z3 z5 Zx;have aql:=@G _ @L9;exact nx
 ·have HH2:=G hh;clear hh;have aql:=@G _ @L8;exact nx):p:=h
theorem WV(h:p:=by
 replace Bs:=upK Bs Zr;have Bx:=G ZD;replace HB:=upB HB Zr;clear hb Zr ZD;rcases hf with ⟨hh,v,va,vl,vc,hx,hn,rfl,z0,z2,z3,z5,Zx⟩|⟨hh,rfl⟩
 ·have HX2:=G hx;have HN2:=G hn;have HT:=G Zx;have HZ0:=G z0;have HZ2:=G z2;clear hx hn hh z0 z2 z3 z5 Zx;exact absurd HN2.out (HNE.out _ _ HX2.out)
 ·have HH2:=G hh;clear hh;have aql:=@G _ @L7;exact nx):p:=h
theorem lR(h:p:=by
 rintro e w2 ⟨hb,hf⟩;clear k0 k1 k2 k3 k4 k5 Α;obtain⟨ZD,Zr⟩:=aY hb;replace Bk:=upK Bk Zr;exact aqQ):p:=h
theorem WE(h:p:=by
 have asg:=@G _ @IH;exact tl):p:=h
theorem WD(h:p:=by
 have ash:=@G _ @Ik;exact tf):p:=h
theorem WC(h:p:=by
 have asi:=@G _ @IV;exact tx):p:=h
theorem qj(h:p:=by
 go_wp2_with fail;refine (HC.out _).mono ?_;rintro e w1 ⟨rfl,ZN⟩;obtain⟨g1,-,-⟩:=fM ZN;have hs1:=ZN.size;exact ar8):p:=h
theorem Wr(h:p:=by
 by_cases e:j=k
 ·subst e;rw[HXv.out] at hz;obtain rfl:=Yd hz;exact λh1 h2=>by rcases HCs.out with h|h;(rw[h] at h1;cases h1);exact absurd h h2
 ·exact HQ.out j z af hz):p:=h
theorem zz(h:p:=by
 have an5:=@G _ @DL;exact eC):p:=h
theorem Wq(h:p:=by
 clear c0 c1 c2 c3 c4 c5 c6 c7 Zc hx hn hy hh z0 z2 z3 z5 Zx ZN;obtain⟨j,hjj⟩:∃j,pl Vd.n xs t=j:=⟨_,rfl⟩;rw[hjj] at hj;simp only[hjj] at*;clear hjj;go_wp2;refine bodyPost_ret (v:=Zn #[Zj #[I x.n,V O x.c,I x.z,I x.k,Zf x.x,I x.m,Zf x.y,U va vl vc],Zf Zi]) (by simp[results,Tryz.results51,go_sem, *]) rfl ⟨?_,HI.2⟩;exact ai (Ye _) (ai (Ye _) (ai (Ye _) (ai (Ye _) (ai (Ye _) (ai (Ye _) (ai (Ye _) (ai (Ye _) (HB.out))))))))):p:=h
theorem Wp(h:p:=by
 clear hx hn hh z0 z2 z3 z5 Zx;go_wp2;refine bodyPost_ret (v:=Zn #[Zj #[I x.n,V O x.c,I x.z,I x.k,Zf x.x,I x.m,Zf x.y,U va vl vc],Zf Zi]) (by simp[results,Tryz.results27,go_sem, *]) rfl ⟨?_,HI.2⟩;exact QZ):p:=h
theorem zy(h:p:=by
 have HI:Hid (Si xs t r w (Zh (Zn #[Zj #[I x.n,V O x.c,I x.z,I x.k,Zf x.x,I x.m,Zf x.y,U va vl vc],Zf Zi])) w):=⟨Yh _ _,Zl ⟨hh,x,va,vl,vc,hx,hn,rfl,z0,z2,z3,z5,Zx⟩⟩;exact auR):p:=h
theorem Wo(h:p:=by
 clear ho ZG Zr hg hb c0 c1 c2 c3 c4 c5 c6 c7;go_wp2_with (first|(at_builtin;refine wpList_append_own _ rfl _ _ 25 rfl w.heap.size 37 i0 (Zj #[I ⟨#[]⟩,V O 0,I ⟨#[]⟩,I ⟨#[]⟩,Zf Zg,I ⟨#[]⟩,Zf Zg,U J 0 0]) 8 112 Tryz.underlying25 Y_.1 Y_.2.1 Y_.2.2.1 Y_.2.2.2 rfl ag _ _ _ rfl (HO2.alloc _) ⟨w2.heap.size,0,J⟩ 1 1 [I x.n,V O x.c,I x.z,I x.k,Zf x.x,I x.m,Zf x.y,U a' l' c'] rfl rfl ?c1 ?c2 ?c3 ?c4 ?c5 ?_));case c1=>exact en _ _ _
 case c2=>intro u hu;simp only[YT,List.not_mem_nil,or_false] at hu;rcases hu with rfl|rfl|rfl|rfl|rfl|rfl|rfl|rfl <;> rfl
 case c3=>unfold maxLen;omega
 case c4=>omega
 case c5=>simp;omega
 rintro v' w3 Z5 ZC -;have HO3:Hid (w3.ownsRow w.heap.size 37 8 v' (k+1) (vss++([[I x.n,V O x.c,I x.z,I x.k,Zf x.x,I x.m,Zf x.y,U a' l' c']]:List (List Value))).flatten):=by
  exact xe
 have aqi:Below wr.heap.size wr (w2.alloc (Ze (vov x a' l' c') 37)):=HX2.trans ((aj _ _).mono (Nat.le_of_lt hs2));have hV:=HV.app (r:=vdF x) (vs:=[I x.n,V O x.c,I x.z,I x.k,Zf x.x,I x.m,Zf x.y,U a' l' c']) (hh:=g) aqi (HO2.alloc _) ag ZC rfl rfl
  (CI aoy.out aqa.out avY.out avZ.out (HG.ay (S':=λk=>w.heap.size<=k) (λcu _ q=>Yj _ _ _ (ae q)) (λ_ s=>by have s1:wr.heap.size+1<=g:=s;show w.heap.size<=g;omega)))
  (λi zs hi hz=>by obtain⟨_,rfl⟩:=BD hi;have s1:wr.heap.size+1<=g:=(HG.lt hz).1;omega) (λi i' zs ZB h1 _ h2 _=>(BD h1).1.trans (BD h2).1.symm)
 have e1:(xs.take (k+1)).map vdF=(xs.take k).map vdF++[vdF x]:=by rw[YM,HX.out];simp
 exact Pb):p:=h
theorem Wm(h:p:=by
 clear ho ZG Zr hg hb c0 c1 c2 c3 c4 c5 c6;go_wp2_with (first|(at_builtin;refine wpList_append_own _ rfl _ _ 23 rfl w.heap.size 81 i0 (Zj #[I ⟨#[]⟩,I ⟨#[]⟩,V O 0,V O 0,V O 0,Zf Zg,U J 0 0]) 7 88 Tryz.underlying23 Y_.1 Y_.2.1 Y_.2.2.1 Y_.2.2.2 rfl ag _ _ _ rfl (HO2.alloc _) ⟨w2.heap.size,0,J⟩ 1 1 [I x.n,I x.z,V O x.c,V O x.s,V O x.u,Zf x.d,U a' l' c'] rfl rfl ?c1 ?c2 ?c3 ?c4 ?c5 ?_));case c1=>exact en _ _ _
 case c2=>intro u hu;simp only[YT,List.not_mem_nil,or_false] at hu;rcases hu with rfl|rfl|rfl|rfl|rfl|rfl|rfl <;> rfl
 case c3=>unfold maxLen;omega
 case c4=>omega
 case c5=>simp;omega
 rintro v' w3 Z5 ZC -;have HO3:Hid (w3.ownsRow w.heap.size 81 7 v' (k+1) (vss++([[I x.n,I x.z,V O x.c,V O x.s,V O x.u,Zf x.d,U a' l' c']]:List (List Value))).flatten):=by
  exact xe
 have aqi:Below wr.heap.size wr (w2.alloc (Ze (nov x a' l' c') 81)):=HX2.trans ((aj _ _).mono (Nat.le_of_lt hs2));have hV:=HV.app (r:=ndF x) (vs:=[I x.n,I x.z,V O x.c,V O x.s,V O x.u,Zf x.d,U a' l' c']) (hh:=g) aqi (HO2.alloc _) ag ZC rfl rfl
  (aiI aoy.out avW.out (HG.ay (S':=λk=>w.heap.size<=k) (λcu _ q=>Yj _ _ _ (ae q)) (λ_ s=>by have s1:wr.heap.size+1<=g:=s;show w.heap.size<=g;omega)))
  (λi zs hi hz=>by obtain⟨_,rfl⟩:=B5 hi;have s1:wr.heap.size+1<=g:=(HG.lt hz).1;omega) (λi i' zs ZB h1 _ h2 _=>(B5 h1).1.trans (B5 h2).1.symm)
 have e1:(xs.take (k+1)).map ndF=(xs.take k).map ndF++[ndF x]:=by rw[YM,HX.out];simp
 exact Pb):p:=h
theorem Wl(h:p:=by
 clear ho ZG Zr hg hb c0 c1 c2 c3 c4 c5;go_wp2_with (first|(at_builtin;refine wpList_append_own _ rfl _ _ 27 rfl w.heap.size 102 i0 (Zj #[I ⟨#[]⟩,V O 0,I ⟨#[]⟩,U J 0 0,I ⟨#[]⟩,V O 0]) 6 88 Tryz.underlying27 Y_.1 Y_.2.1 Y_.2.2.1 Y_.2.2.2 rfl ag _ _ _ rfl (HO2.alloc _) ⟨w2.heap.size,0,J⟩ 1 1 [I x.n,V O x.c,I x.z,U a' l' c',I x.d,V O x.p] rfl rfl ?c1 ?c2 ?c3 ?c4 ?c5 ?_));case c1=>exact en _ _ _
 case c2=>intro u hu;simp only[YT,List.not_mem_nil,or_false] at hu;rcases hu with rfl|rfl|rfl|rfl|rfl|rfl <;> rfl
 case c3=>unfold maxLen;omega
 case c4=>omega
 case c5=>simp;omega
 rintro v' w3 Z5 ZC -;have HO3:Hid (w3.ownsRow w.heap.size 102 6 v' (k+1) (vss++([[I x.n,V O x.c,I x.z,U a' l' c',I x.d,V O x.p]]:List (List Value))).flatten):=by
  exact xe
 have aqi:Below wr.heap.size wr (w2.alloc (Ze (pov x a' l' c') 102)):=HX2.trans ((aj _ _).mono (Nat.le_of_lt hs2));have hV:=HV.app (r:=pdF x) (vs:=[I x.n,V O x.c,I x.z,U a' l' c',I x.d,V O x.p]) (hh:=g) aqi (HO2.alloc _) ag ZC rfl rfl
  (aiH aoy.out aqa.out avX.out (HG.ay (S':=λk=>w.heap.size<=k) (λcu _ q=>Yj _ _ _ (ae q)) (λ_ s=>by have s1:wr.heap.size+1<=g:=s;show w.heap.size<=g;omega)))
  (λi zs hi hz=>by obtain⟨_,rfl⟩:=B2 hi;have s1:wr.heap.size+1<=g:=(HG.lt hz).1;omega) (λi i' zs ZB h1 _ h2 _=>(B2 h1).1.trans (B2 h2).1.symm)
 have e1:(xs.take (k+1)).map pdF=(xs.take k).map pdF++[pdF x]:=by rw[YM,HX.out];simp
 exact Pb):p:=h
theorem qh(h:p:=by
 rintro e w2 ⟨a',l',c',rfl,ho,ZG⟩;obtain⟨-,Zr⟩:=aY ZG;rw[cW] at ho;obtain⟨g,hg⟩:=ho.fr;obtain⟨HG,HX2,HO2,hs2⟩:=al2;exact ar7):p:=h
theorem Wi(h:p:=by
 clear c0 c1 c2 c3 c4 c5 c6 Zc hx hn hy hh z0 z1 Zx ZN;obtain⟨j,hjj⟩:∃j,pl Nd.n xs t=j:=⟨_,rfl⟩;rw[hjj] at hj;simp only[hjj] at*;clear hjj;go_wp2;refine bodyPost_ret (v:=Zn #[Zj #[I x.n,I x.z,V O x.c,V O x.s,V O x.u,Zf x.d,U va vl vc],Zf Zi]) (by simp[results,Tryz.results175,go_sem, *]) rfl ⟨?_,HI.2⟩;exact ai (Ye _) (ai (Ye _) (ai (Ye _) (ai (Ye _) (ai (Ye _) (ai (Ye _) (ai (Ye _) (HB.out)))))))):p:=h
theorem Wh(h:p:=by
 clear hx hn hh z0 z1 Zx;go_wp2;refine bodyPost_ret (v:=Zn #[Zj #[I x.n,I x.z,V O x.c,V O x.s,V O x.u,Zf x.d,U va vl vc],Zf Zi]) (by simp[results,Tryz.results128,go_sem, *]) rfl ⟨?_,HI.2⟩;exact QN):p:=h
theorem zv(h:p:=by
 have HI:Hid (Sj xs t r w (Zh (Zn #[Zj #[I x.n,I x.z,V O x.c,V O x.s,V O x.u,Zf x.d,U va vl vc],Zf Zi])) w):=⟨Yh _ _,Zl ⟨hh,x,va,vl,vc,hx,hn,rfl,z0,z1,Zx⟩⟩;exact auX):p:=h
theorem Wg(h:p:=by
 by_cases e:j=k
 ·subst e;rw[HX.out] at hq;obtain rfl:=Yd hq;rfl
 ·exact absurd (HSe.out ▸ HQ.out j q af hq h1 h2) h1):p:=h
theorem Wf(h:p:=by
 by_cases e:j=k
 ·subst e;rw[HX.out] at hq;obtain rfl:=Yd hq;rfl
 ·exact (HQ.out j q af hq h1 h2).trans HD.symm):p:=h
theorem zt(h:p:=by
 obtain⟨r0,r1,r2,r3,r4,r5⟩:=cs6 Br;go_wp2_with fail;refine⟨⟨k+1,p.d,by omega,rfl,by go_num,λj q hj hq h1 h2=>?_,Zk ⟨k,p,by omega,HX.out,HEm.out,HIn.out,rfl⟩,HB.out⟩,by simp[intOf];omega⟩;exact auY):p:=h
theorem V0(h:p:=by
 obtain⟨i,m,e1,e2,_⟩:=(h.1 k v HXv.out) kq t HXt.out;have:=(bj HNR.out e1 e2).2;rw[HH.out] at this;cases this):p:=h
theorem VZ(h:p:=by
 obtain⟨i,m2,e1,e2,e3⟩:=(h.1 k v HXv.out) kq t HXt.out;obtain⟨_,rfl⟩:=HNR.inj e1 HXm.out (e2.trans HNm.symm);exact HZ.out e3):p:=h
theorem zl(h:p:=by
 obtain⟨k0,k1,k2,k3,k4,k5⟩:=cs6 Bk;obtain⟨v0,v1,v2,v3,v4,v5,v6,v7⟩:=cs8 Bv;have aqS:=ae Bv.out;go_wp2;go_ret;refine ar.f (λh=>?_) (HB.alloc HB.size _);exact auZ):p:=h
theorem VY(h:p:=by
 clear c0 c1 c2 c3 c4 Zc hx hn hy hh z0 z2 z4 ZN;obtain⟨j,hjj⟩:∃j,pl Xd.n xs t=j:=⟨_,rfl⟩;rw[hjj] at hj;simp only[hjj] at*;clear hjj;go_wp2;refine bodyPost_ret (v:=Zn #[Zj #[I x.n,V O x.z,I x.k,Zf x.x,I x.v],Zf Zi]) (by simp[results,Tryz.results91,go_sem, *]) rfl ⟨?_,HI.2⟩;exact ai (Ye _) (ai (Ye _) (ai (Ye _) (ai (Ye _) (ai (Ye _) (HB.out)))))):p:=h
theorem VX(h:p:=by
 clear hx hn hh z0 z2 z4;go_wp2;refine bodyPost_ret (v:=Zn #[Zj #[I x.n,V O x.z,I x.k,Zf x.x,I x.v],Zf Zi]) (by simp[results,Tryz.results45,go_sem, *]) rfl ⟨?_,HI.2⟩;exact QD):p:=h
theorem zk(h:p:=by
 have HI:Hid (Sh xs t r w (Zh (Zn #[Zj #[I x.n,V O x.z,I x.k,Zf x.x,I x.v],Zf Zi])) w):=⟨Yh _ _,Zl ⟨hh,x,hx,hn,rfl,z0,z2,z4⟩⟩;exact au0):p:=h
theorem VW(h:p:=by
 have e4:=hf 4 ag;simp[Gi.slotFact,Yg] at e4;clear hf;go_simp;refine (re d.a1 d.l1 d.c1 c.ns _ (HR.n.below (HB.trans (Below.mono hW HB.size))) (by have:=HS.n;omega) HS.ns).mono ?_;exact xv):p:=h
theorem VV(h:p:=by
 have e7:=hf 7 ag;simp[Gi.slotFact,Yg] at e7;clear hf;cases hq:d.a2 with
 | none=>
  have h0:c.ks=[]:=by
   rcases HR.k.2.2.2 with h|⟨b,o,e,_⟩
   ·have h9:c.ks.map kdF=[]:=h
    simpa using h9
   ·rw[hq] at e;cases e
  have hl0:d.l2=0:=by rw[<-hl2,h0];rfl
  rw[hq,hl0] at e7;go_simp;refine hK _ _ (Yh _ _) ⟨J,0,by rw[hl0],?_,Below.size hW⟩;rw[hl0,h0];exact av.nil _ _ _ _ _ af
 | some ad=>
  rw[hq] at e7;have Z6:=HR.k.below (HB.trans (Below.mono hW HB.size));have apB:aV wg d.a2 d.l2 d.c2 4 (c.ks.map kdF):=Z6;rw[hq] at apB
  have hz:i2.zero=M (Zj #[I ⟨#[]⟩,Zf Zg,Zf Zg,I ⟨#[]⟩])/\i2.size=4/\i2.bytes=40:=by have:=HI2.2;simp only[Prod.mk.injEq] at this;exact this
  refine yz _ (.tmp 7) 24 72 rfl i2 (Zj #[I ⟨#[]⟩,Zf Zg,Zf Zg,I ⟨#[]⟩]) 4 40 Tryz.underlying24 HI2.1 hz.1 hz.2.1 hz.2.2 rfl ag ag wg.heap.size (U J 0 0) rfl (World.ownsRow_nil _ _ _ _) (Ye _) (by simpa[Act.eval] using e7) apB (ki A9 _) (by have:=HS.k;omega) ag ?_;intro a' c' w' hR hg;exact hK _ _ ((Yh _ _).grown hg (Ye _) (λk hk=>by cases hk)) ⟨a',c',rfl,hR,Below.size hW⟩):p:=h
theorem VU(h:p:=by
 have e10:=hf 10 ag;simp[Gi.slotFact,Yg] at e10;clear hf;go_simp;refine (qZ d.a3 d.l3 d.c3 c.vs _ (HR.v.below (HB.trans (Below.mono hW HB.size))) (by have:=HS.v;omega) HS.vs).mono ?_;exact xv):p:=h
theorem VT(h:p:=by
 have e13:=hf 13 ag;simp[Gi.slotFact,Yg] at e13;clear hf;cases hq:d.a4 with
 | none=>
  have h0:c.xs=[]:=by
   rcases HR.x.2.2.2 with h|⟨b,o,e,_⟩
   ·have h9:c.xs.map xdF=[]:=h
    simpa using h9
   ·rw[hq] at e;cases e
  have hl0:d.l4=0:=by rw[<-hl4,h0];rfl
  rw[hq,hl0] at e13;go_simp;refine hK _ _ (Yh _ _) ⟨J,0,by rw[hl0],?_,Below.size hW⟩;rw[hl0,h0];exact av.nil _ _ _ _ _ af
 | some ad=>
  rw[hq] at e13;have Z6:=HR.x.below (HB.trans (Below.mono hW HB.size));have apB:aV wg d.a4 d.l4 d.c4 5 (c.xs.map xdF):=Z6;rw[hq] at apB
  have hz:i4.zero=M (Zj #[I ⟨#[]⟩,V O 0,I ⟨#[]⟩,Zf Zg,I ⟨#[]⟩])/\i4.size=5/\i4.bytes=64:=by have:=HI4.2;simp only[Prod.mk.injEq] at this;exact this
  refine yz _ (.tmp 13) 26 47 rfl i4 (Zj #[I ⟨#[]⟩,V O 0,I ⟨#[]⟩,Zf Zg,I ⟨#[]⟩]) 5 64 Tryz.underlying26 HI4.1 hz.1 hz.2.1 hz.2.2 rfl ag ag wg.heap.size (U J 0 0) rfl (World.ownsRow_nil _ _ _ _) (Ye _) (by simpa[Act.eval] using e13) apB (ki yy _) (by have:=HS.x;omega) ag ?_;intro a' c' w' hR hg;exact hK _ _ ((Yh _ _).grown hg (Ye _) (λk hk=>by cases hk)) ⟨a',c',rfl,hR,Below.size hW⟩):p:=h
theorem VS(h:p:=by
 have e16:=hf 16 ag;simp[Gi.slotFact,Yg] at e16;clear hf;go_simp;refine (q_ d.a5 d.l5 d.c5 c.ps _ (HR.p.below (HB.trans (Below.mono hW HB.size))) (by have:=HS.p;omega) HS.ps).mono ?_;exact xv):p:=h
theorem jN(h:p:=by
 refine Gi.Obl.plain rfl ?_;intro ac wg K lo hi Zq hW hpr hf hap hK;clear Zq hpr hap;exact apN):p:=h
theorem VN(h:p:=by
 clear c0 c1 c2 c3 Zc hx hn hy hh z0 z3 ZN;obtain⟨j,hjj⟩:∃j,pl Kd.n xs t=j:=⟨_,rfl⟩;rw[hjj] at hj;simp only[hjj] at*;clear hjj;go_wp2;refine bodyPost_ret (v:=Zn #[Zj #[I x.n,Zf x.x,Zf x.y,I x.z],Zf Zi]) (by simp[results,Tryz.results92,go_sem, *]) rfl ⟨?_,HI.2⟩;exact ai (Ye _) (ai (Ye _) (ai (Ye _) (ai (Ye _) (HB.out))))):p:=h
theorem VM(h:p:=by
 clear hx hn hh z0 z3;go_wp2;refine bodyPost_ret (v:=Zn #[Zj #[I x.n,Zf x.x,Zf x.y,I x.z],Zf Zi]) (by simp[results,Tryz.results46,go_sem, *]) rfl ⟨?_,HI.2⟩;exact Qh):p:=h
theorem zh(h:p:=by
 have HI:Hid (Sk xs t r w (Zh (Zn #[Zj #[I x.n,Zf x.x,Zf x.y,I x.z],Zf Zi])) w):=⟨Yh _ _,Zl ⟨hh,x,hx,hn,rfl,z0,z3⟩⟩;exact au1):p:=h
theorem VH(h:p:=by
 have Z4:vs.length=l3:=ef
 clear hr;go_enter Tryz.func129,Tryz.ntmps129;go_wp2;go_loopw [5,11] (λq i wr=> ∃(k:Nat) (s:Int),k<=l3/\q=V O s/\i=V O k/\Hid (s=onOf t (vs.take k))/\0<=s/\s<=k/\Hid (Below w.heap.size w wr)) (λ_ i _=>l3 - (intOf i).toNat);case atStart=>exact⟨0,0,by omega,rfl,rfl,rfl,by omega,by omega,aj _ _⟩
 case round=>
  obtain⟨k,s,hk,rfl,rfl,HS,hs0,hs1,HB⟩:=hrel;by_cases Zo:k<l3
  ·obtain⟨b,o,v,rfl,hb,hx,Zc⟩:=bY (HR.below HB.out) Zo;have aoW:=@G _ @ad_;exact gA
  ·obtain rfl:l3=k:=af
   exact xB):p:=h
theorem UP(h:p:=by
 exact apO):p:=h
theorem iK(h:p:=by
 have Χ:=@G _ @Ly;exact c_):p:=h
theorem UG(h:p:=by
 have HTn:=G Zx;clear Zc hx z0 z1 Zx;have aox:=@G _ @KE;exact fR):p:=h
theorem UE(h:p:=by
 clear Zc hx z0 z1 Zx;obtain⟨GK,GR,HW⟩:=ahK;obtain⟨k0,k1,k2,k3,k4,k5⟩:=sl6 GK;obtain⟨r0,r1,r2,r3,r4,r5⟩:=sl6 GR;have hne0:=Wd.ne (wr.alloc (Ze (nov n va vl vc) 81));have HC:=G (λq:Wd (wr.alloc (Ze (nov n va vl vc) 81))=>qX ⟨(M ⟨b,o,J⟩),l1,y1,a2,l2,y2,a3,l3,y3,a4,l4,y4,a5,l5,y5⟩ c.now c.ps n.n q.w (HR.p.below (HW.trans (q.b.mono HW.size))) HL5.out HPC.out);have Zw:=@G _ @ajg;exact aB):p:=h
theorem UD(h:p:=by
 clear Zc hx z0 z1 Zx;obtain⟨GK,GR,HW⟩:=ahK;obtain⟨k0,k1,k2,k3,k4,k5⟩:=sl6 GK;have r0:=λq:Wd (wr.alloc (Ze (nov n va vl vc) 81))=>q.slot (o:=0) GR.out rfl;have r3:=λq:Wd (wr.alloc (Ze (nov n va vl vc) 81))=>q.slot (o:=3) GR.out rfl;have hne0:=Wd.ne (wr.alloc (Ze (nov n va vl vc) 81));have HC:=G (λq:Wd (wr.alloc (Ze (nov n va vl vc) 81))=>n_ ⟨(M ⟨b,o,J⟩),l1,y1,a2,l2,y2,a3,l3,y3,a4,l4,y4,a5,l5,y5⟩ c.now c.vs n.n q.w (HR.v.below (HW.trans (q.b.mono HW.size))) HL3.out);have Zw:=@G _ @ajf;exact aB):p:=h
theorem TI(h:p:=by
 refine (cG s 0 8 _).mono ?_;have apu:=@G _ @Ka;exact j5):p:=h
theorem TH(h:p:=by
 refine (dt v _ hv).mono ?_;exact PE):p:=h
theorem TG(h:p:=by
 refine (gC a len cap zs 3 _ (HR.below (aj _ _))).mono ?_;have apu:=@G _ @J_;exact j5):p:=h
theorem TD(h:p:=by
 by_cases hp2:p.p=2;rotate_left
 ·have HP2:=G hp2;have auP:=@G _ @QA;exact zz
 have HP2:=G hp2;rw[hp2] at c5;clear hp2;have aox:=@G _ @KD;exact fR):p:=h
theorem TB(h:p:=by
 have aox:=@G _ @KC;exact fR):p:=h
theorem yW(h:p:=by
 have ar2:=@G _ @Kh;exact tQ):p:=h
theorem Tv(h:p:=by
 replace HB:=upB HB Zr;clear ZG Zr ZD;clear hb c0 c1 c2 c3 c4 c5 c6 c7;rcases hf with ⟨hh,rfl⟩|⟨hh,T,q,rfl⟩;rotate_left
 ·have HH:=G hh;clear hh;have apC:=@G _ @Jz;exact jZ
 have HH:=G hh;clear hh;by_cases he:v.m=⟨#[]⟩
 ·have hq:=cw he;have HEm:=G he;clear he;have apC:=@G _ @Jy;exact jZ
 ·have hq:=aU he;have HEm:=G he;clear he;have apC:=@G _ @Jw;exact jZ):p:=h
theorem Tu(h:p:=by
 replace HB:=upB HB Zr;clear ZG Zr ZD;clear hb c0 c1 c2 c3 c4;rcases hf with ⟨hh,rfl⟩|⟨hh,T,q,rfl⟩;rotate_left
 ·have HH:=G hh;clear hh;have aoB:=@G _ @IZ;exact fP
 have HH:=G hh;clear hh;by_cases he:x.v=⟨#[]⟩
 ·have hq:=cw he;have HEm:=G he;clear he;have aoB:=@G _ @IY;exact fP
 ·have hq:=aU he;have HEm:=G he;clear he;have aoB:=@G _ @IX;exact fP):p:=h
theorem Tt(h:p:=by
 have HI:=G hi;clear hi;cases r
 ·have aoB:=@G _ @IW;exact fP
 have HT:=G (HI.1 bU);obtain⟨k0,k1,k2,k3,k4,k5⟩:=cs6 Bk;go_wp2_with fail;refine (iB d c.now c.xs t w _ HR.x HB.out).mono ?_;rintro e w2 ⟨hb,hf⟩;have apk:=@G _ @acr;exact iO):p:=h
theorem SE(h:p:=by
 have asg:=@G _ @IG;exact tl):p:=h
theorem Ov(h:p:=by
 have ash:=@G _ @Ij;exact tf):p:=h
theorem Ou(h:p:=by
 have asi:=@G _ @IU;exact tx):p:=h
theorem Ot(h:p:=by
 rw[show (wr.alloc (Ze (xov x) 47)).heap.size=wr.heap.size+1 from by simp] at hs1;obtain⟨ZX,d0,d1,d2,d3⟩:=o8;have d4:=ck4 g1;have HG:=G g1;have HI:=G hrt;clear g1 ZN hrt c0 c1 c2 c3 c4;have apM:=@G _ @aan;exact jO):p:=h
theorem Oq(h:p:=by
 rw[show (wr.alloc (Ze (pov x va vl vc) 102)).heap.size=wr.heap.size+1 from by simp] at hs1;obtain⟨ZX,d0,d1,d2,d3⟩:=o8;have d4:=ck4 g1;have d5:=ck5 g1;have HG:=G g1;have HI:=G hrt;clear g1 ZN hrt c0 c1 c2 c3 c4 c5;have apM:=@G _ @aam;exact jO):p:=h
theorem jL(h:p:=by
 go_wp2_with fail;refine HRt.mono ?_;rintro e w1 ⟨r,rfl,hrt,ZN⟩;obtain⟨g1,-,-⟩:=fM ZN;have hs1:=ZN.size;exact apP):p:=h
theorem N_(h:p:=by
 rcases hf with ⟨hh,x,hx,hn,rfl,z0,z2,z4⟩|⟨hh,rfl⟩
 ·have Κ:=G hx;have HN1:=G hn;clear hx hn hh z0 z2 z4;have apO:=@G _ @aeO;exact jS
 ·have HH1:=G hh;clear hh;have apO:=@G _ @aeN;exact jS):p:=h
theorem N9(h:p:=by
 have HI1:=G hi;clear hi;cases r
 ·exact Q4
 obtain⟨k0,k1,k2,k3,k4,k5⟩:=cs6 Bk;go_wp2_with fail;refine (wT _ _ _ c.ks 8 _ (HR.k.below HB.out)).mono ?_;rintro e w2 ⟨r,rfl,hi,hb⟩;have apj:=@G _ @aav;exact iM):p:=h
theorem NC(h:p:=by
 go_enter Tryz.func161,Tryz.ntmps161;go_wp2;go_loopw [5,10] (λvo vi wr=> ∃(k:Nat) (vss:List (List Value)) (H:Nat->Nat->Nat),k<=len/\vi=V O k/\Hid (wr.ownsRow w.heap.size 37 8 vo k vss.flatten)/\Hid (aR wr (λk=>w.heap.size<=k) 8 ((xs.take k).map vdF) vss H)/\Hid (Below w.heap.size w wr)) (λ_ vi _=>len - (intOf vi).toNat);case atStart=>exact⟨0,[],λ_ _=>0,by omega,rfl,World.ownsRow_nil _ _ _ _,aR.nil _ _ _ _,Yh _ _⟩
 case round=>
  obtain⟨k,vss,H,hk,rfl,HO,HV,HB⟩:=hrel;have hBs:=HB.size;by_cases Zo:k<len
  ·obtain⟨b,o,x,rfl,hb,hx,Zc⟩:=bY (HR.below HB.out) Zo;have aoW:=@G _ @aec;exact gA
  ·have ar9:=@G _ @Xs;exact qn):p:=h
theorem NB(h:p:=by
 exact apQ):p:=h
theorem Nr(h:p:=by
 by_cases e:j=k
 ·subst e;rw[HXt.out] at hs;obtain rfl:=Yd hs;exact⟨_,v,HXv.out,HNv.out,Zl HD.out⟩
 ·exact HQ.out j s af hs):p:=h
theorem Nq(h:p:=by
 by_cases e:j=k
 ·subst e;rw[HXt.out] at hs;obtain rfl:=Yd hs;exact⟨v,HD.out,HZ2.out⟩
 ·exact HQ.out j s af hs):p:=h
theorem uD(h:p:=by
 refine⟨⟨k+1,by omega,by go_num,λj s hj hs=>?_,(HB.alloc HB.size _),(Yj _ _ _ (ae Bk.out)).trans Bk.out,(Yj _ _ _ (ae Bn.out)).trans Bn.out⟩,by simp[intOf];omega⟩;exact asa):p:=h
theorem Nn(h:p:=by
 refine (wP _ _ _ c.xs 8 _ (HR.x.below HB.out)).mono ?_;rintro e w4 ⟨r,rfl,hi,hb⟩;have an1:=@G _ @Hp;exact dR):p:=h
theorem Nl(h:p:=by
 refine (vO d c _ (HR.below HB.out) ZQ.1.2.2 ZQ.2.2.2.1.2.2 ZQ.2.2.1.2.2 ZQ.ne (by have:=ZQ.2.2.2.2.1;omega) ZQ.cpu (HE.below HB.out)).mono ?_;rintro e w4 ⟨r,rfl,hi,hb⟩;have an1:=@G _ @Ho;exact dR):p:=h
theorem uB(h:p:=by
 rintro e w3 ⟨r,rfl,hi,hb⟩;have an1:=@G _ @Hn;exact dR):p:=h
theorem Nf(h:p:=by
 go_enter Tryz.func125,Tryz.ntmps125;have auU:=@G _ @X_;exact zJ):p:=h
theorem Nc(h:p:=by
 go_enter Tryz.func131,Tryz.ntmps131;have auU:=@G _ @X9;exact zJ):p:=h
theorem uz(h:p:=by
 unfold Zs;have HR:=G hr;have HN:=G hn;obtain⟨HX,HV,HNE⟩:=jg;have HP:=G hp;have hlc:=Yo hp.2.1 hp.2.2.1;have hzl:=hp.1;have HB:=G (Yh w.heap.size w);clear hr hn hx hv ZE hp;exact asj):p:=h
theorem Nb(h:p:=by
 clear g1 hb;rcases hf with ⟨hh,x,va,vl,vc,hx,hn,rfl,z0,z1,Zx⟩|⟨hh,rfl⟩
 ·have auX:=@G _ @Wh;exact zv
 ·have HH:=G hh;clear hh;go_wp2;refine bodyPost_ret (v:=Zn #[Zj #[I ⟨#[]⟩,I ⟨#[]⟩,V O 0,V O 0,V O 0,Zf Zg,U J 0 0],Zf Zg]) (by simp[results,Tryz.results128,go_sem, *]) rfl ⟨?_,Zk ⟨HH.out,rfl⟩⟩;exact QN):p:=h
theorem Na(h:p:=by
 clear g1 hb;rcases hf with ⟨hh,x,hx,hn,rfl,z0,z3⟩|⟨hh,rfl⟩
 ·have au1:=@G _ @VM;exact zh
 ·have HH:=G hh;clear hh;go_wp2;refine bodyPost_ret (v:=Zn #[Zj #[I ⟨#[]⟩,Zf Zg,Zf Zg,I ⟨#[]⟩],Zf Zg]) (by simp[results,Tryz.results46,go_sem, *]) rfl ⟨?_,Zk ⟨HH.out,rfl⟩⟩;exact Qh):p:=h
theorem M_(h:p:=by
 clear g1 hb;rcases hf with ⟨hh,x,va,vl,vc,hx,hn,rfl,z0,z2,z3,z5,Zx⟩|⟨hh,rfl⟩
 ·have auR:=@G _ @Wp;exact zy
 ·have HH:=G hh;clear hh;go_wp2;refine bodyPost_ret (v:=Zn #[Zj #[I ⟨#[]⟩,V O 0,I ⟨#[]⟩,I ⟨#[]⟩,Zf Zg,I ⟨#[]⟩,Zf Zg,U J 0 0],Zf Zg]) (by simp[results,Tryz.results27,go_sem, *]) rfl ⟨?_,Zk ⟨HH.out,rfl⟩⟩;exact QZ):p:=h
theorem M9(h:p:=by
 clear g1 hb;rcases hf with ⟨hh,x,hx,hn,rfl,z0,z2,z4⟩|⟨hh,rfl⟩
 ·have au0:=@G _ @VX;exact zk
 ·have HH:=G hh;clear hh;go_wp2;refine bodyPost_ret (v:=Zn #[Zj #[I ⟨#[]⟩,V O 0,I ⟨#[]⟩,Zf Zg,I ⟨#[]⟩],Zf Zg]) (by simp[results,Tryz.results45,go_sem, *]) rfl ⟨?_,Zk ⟨HH.out,rfl⟩⟩;exact QD):p:=h
theorem fS(h:p:=by
 have HB:Hid (Below w.heap.size w w1):=(aM _ _ _).trans (hb.mono bg);exact aoA):p:=h
theorem MZ(h:p:=by
 omega):p:=h
theorem MY(h:p:=by
 rw[aP e8] at q4;cases q4):p:=h
theorem MX(h:p:=by
 rw[e9] at q5;simp at q5):p:=h
theorem nz(h:p:=by
 obtain⟨_,rfl⟩:=HX.inj e1 Κ.out (e2.trans HN1.symm);obtain⟨_,rfl⟩:=HV.inj e3 HX2.out (e4.trans HN2.symm);exact aqk):p:=h
theorem MO(h:p:=by
 obtain⟨d4,f4,d5,f5,d6,f6⟩:=qM;have HB:=G ZN;have hs1:=hb.size;rw[show (w.alloc (Ze #[I ⟨#[]⟩,I ⟨#[]⟩,V O 0,V O 0,V O 0,Zf Zg,U J 0 0] 81)).heap.size=w.heap.size+1 from by simp] at hs1;have av2:w.heap.size<w1.heap.size:=af
 clear hb g1 hs1;cases hh:hit Nd.n xs t
 ·generalize pl Nd.n xs t=j;have HH:=G hh;clear hh ZN Z4;go_wp2;refine bodyPost_ret (v:=Zn #[Zj #[I ⟨#[]⟩,I ⟨#[]⟩,V O 0,V O 0,V O 0,Zf Zg,U J 0 0],Zf Zg]) (by simp[results,Tryz.results175,go_sem, *]) rfl ⟨?_,Zk ⟨HH.out,rfl⟩⟩;exact Below.alloc (ai (Ye _) (ai (Ye _) (ai (Ye _) (ai (Ye _) (ai (Ye _) (ai (Ye _) (ai (Ye _) (HB.out)))))))) nG _
 ·obtain⟨x,hx,hn⟩:=cy hh;have hj:pl Nd.n xs t<len:=by have:=(Yc.1 hx).1;omega
  obtain⟨b,o,y,rfl,Z3,hy,Zc⟩:=dF HR.out hj;rw[hx] at hy;obtain rfl:=Yd hy;obtain⟨va,vl,vc,Zx,z0,z1,c0,c1,c2,c3,c4,c5,c6⟩:=bo Zc;obtain⟨δ,e0,e1,e2,e3⟩:=AW;obtain⟨e4,e5,e6⟩:=O3;have auX:=@G _ @Wi;exact zv):p:=h
theorem MN(h:p:=by
 have HB:=G ZN;have hs1:=hb.size;rw[show (w.alloc (Ze #[I ⟨#[]⟩,Zf Zg,Zf Zg,I ⟨#[]⟩] 72)).heap.size=w.heap.size+1 from by simp] at hs1;have av2:w.heap.size<w1.heap.size:=af
 clear hb g1 hs1;cases hh:hit Kd.n xs t
 ·generalize pl Kd.n xs t=j;have HH:=G hh;clear hh ZN Z4;go_wp2;refine bodyPost_ret (v:=Zn #[Zj #[I ⟨#[]⟩,Zf Zg,Zf Zg,I ⟨#[]⟩],Zf Zg]) (by simp[results,Tryz.results92,go_sem, *]) rfl ⟨?_,Zk ⟨HH.out,rfl⟩⟩;exact Below.alloc (ai (Ye _) (ai (Ye _) (ai (Ye _) (ai (Ye _) (HB.out))))) nG _
 ·obtain⟨x,hx,hn⟩:=cy hh;have hj:pl Kd.n xs t<len:=by have:=(Yc.1 hx).1;omega
  obtain⟨b,o,y,rfl,Z3,hy,Zc⟩:=gR HR.out hj;rw[hx] at hy;obtain rfl:=Yd hy;obtain⟨z0,z3,c0,c1,c2,c3⟩:=dh Zc;obtain⟨δ,e0,e1,e2,e3⟩:=AW;have au1:=@G _ @VN;exact zh):p:=h
theorem MM(h:p:=by
 obtain⟨d4,f4,d5,f5,d6,f6⟩:=qM;have d7:=ck7 g1;have f7:=ak g1 7;have HB:=G ZN;have hs1:=hb.size;rw[show (w.alloc (Ze #[I ⟨#[]⟩,V O 0,I ⟨#[]⟩,I ⟨#[]⟩,Zf Zg,I ⟨#[]⟩,Zf Zg,U J 0 0] 37)).heap.size=w.heap.size+1 from by simp] at hs1;have av2:w.heap.size<w1.heap.size:=af
 clear hb g1 hs1;cases hh:hit Vd.n xs t
 ·generalize pl Vd.n xs t=j;have HH:=G hh;clear hh ZN Z4;go_wp2;refine bodyPost_ret (v:=Zn #[Zj #[I ⟨#[]⟩,V O 0,I ⟨#[]⟩,I ⟨#[]⟩,Zf Zg,I ⟨#[]⟩,Zf Zg,U J 0 0],Zf Zg]) (by simp[results,Tryz.results51,go_sem, *]) rfl ⟨?_,Zk ⟨HH.out,rfl⟩⟩;exact Below.alloc (ai (Ye _) (ai (Ye _) (ai (Ye _) (ai (Ye _) (ai (Ye _) (ai (Ye _) (ai (Ye _) (ai (Ye _) (HB.out))))))))) nG _
 ·obtain⟨x,hx,hn⟩:=cy hh;have hj:pl Vd.n xs t<len:=by have:=(Yc.1 hx).1;omega
  obtain⟨b,o,y,rfl,Z3,hy,Zc⟩:=bY HR.out hj;rw[hx] at hy;obtain rfl:=Yd hy;have aoW:=@G _ @aea;exact gA):p:=h
theorem ML(h:p:=by
 have d4:=ck4 g1;have f4:=ak g1 4;have HB:=G ZN;have hs1:=hb.size;rw[show (w.alloc (Ze #[I ⟨#[]⟩,V O 0,I ⟨#[]⟩,Zf Zg,I ⟨#[]⟩] 47)).heap.size=w.heap.size+1 from by simp] at hs1;have av2:w.heap.size<w1.heap.size:=af
 clear hb g1 hs1;cases hh:hit Xd.n xs t
 ·generalize pl Xd.n xs t=j;have HH:=G hh;clear hh ZN Z4;go_wp2;refine bodyPost_ret (v:=Zn #[Zj #[I ⟨#[]⟩,V O 0,I ⟨#[]⟩,Zf Zg,I ⟨#[]⟩],Zf Zg]) (by simp[results,Tryz.results91,go_sem, *]) rfl ⟨?_,Zk ⟨HH.out,rfl⟩⟩;exact Below.alloc (ai (Ye _) (ai (Ye _) (ai (Ye _) (ai (Ye _) (ai (Ye _) (HB.out)))))) nG _
 ·obtain⟨x,hx,hn⟩:=cy hh;have hj:pl Xd.n xs t<len:=by have:=(Yc.1 hx).1;omega
  obtain⟨b,o,y,rfl,Z3,hy,Zc⟩:=dB HR.out hj;rw[hx] at hy;obtain rfl:=Yd hy;obtain⟨z0,z2,z4,c0,c1,c2,c3,c4⟩:=bD Zc;obtain⟨δ,e0,e1,e2,e3⟩:=AW;have e4:=(ah ZN δ).trans ((ah HRW.out Z3).trans c4);have au0:=@G _ @VY;exact zk):p:=h
theorem j7(h:p:=by
 rintro e w1 ⟨rfl,hb⟩;obtain⟨g1,ZN,-⟩:=fM hb;obtain⟨d0,f0,d1,f1,d2,f2,d3,f3⟩:=ahX;exact apD):p:=h
theorem Mh(h:p:=by
 have:=(bj HX.out e1 e2).2;rw[HH1.out] at this;cases this):p:=h
theorem Mg(h:p:=by
 have:=(bj HV.out e3 e4).2;rw[HH2.out] at this;cases this):p:=h
theorem ue(h:p:=by
 obtain⟨x0,x1,x2,x3,x4⟩:=cs5 Bx;have awJ:=ae Bx.out;go_wp2;go_ret;refine ar.f (λ⟨i,j,x',v',e1,e2,e3,e4,_⟩=>?_) (HB.alloc HB.size _);exact ar6):p:=h
theorem Ma(h:p:=by
 rcases hf with ⟨hh,v,va,vl,vc,hx,hn,rfl,z0,z2,z3,z5,Zx⟩|⟨hh,rfl⟩;rotate_left
 ·have HH:=G hh;clear hh;have ao5:=@G _ @Xo;exact gq
 have HXv:=G hx;have HNv:=G hn;have HTv:=G Zx;clear hx hn hh z0 z2 z3 z5 Zx;rcases Bool.eq_false_or_eq_true n.d with hd|hd
 ·have auT:=@G _ @adj;exact Af
 ·have auT:=@G _ @adi;exact Af):p:=h
theorem L_(h:p:=by
 rcases hf with ⟨v,xa,xl,xc,ω,rfl,z0,z2,hxr⟩|⟨ω,rfl⟩;rotate_left
 ·exact akQ
 have HD:=G ω;clear ω hxr z0 z2;exact auW):p:=h
theorem ub(h:p:=by
 rintro e w2 ⟨ZG,hf⟩;clear k0 k1 k2 k3 k4 k5 n0 n1 n2 n3 n4 n5 n6;replace Bk:=upK Bk ZG;replace Bn:=upK Bn ZG;replace HB:=upB HB ZG;clear ZG;clear hb hc;exact asc):p:=h
theorem L9(h:p:=by
 refine bodyPost_ret (v:=Zn #[Zj #[I v.n,V O v.c,I v.z,I v.k,Zf v.x,I v.m,Zf v.y,U va vl vc],Zf Zi]) OE rfl ⟨ai (Yz _) (ai (Yz _) (ai (Yz _) (ai (Yz _) (ai (Yz _) (ai (Yz _) (ai (Yz _) (ai (Yz _) (HB.out)))))))),Zl ⟨v,va,vl,vc,⟨_,_,x,Κ.out,HN1.out,HX2.out,HN2.out⟩,rfl,HZ0.out,HZ2.out,HT.out⟩⟩):p:=h
theorem L8(h:p:=by
 refine bodyPost_ret (v:=Zn #[Zj #[I ⟨#[]⟩,V O 0,I ⟨#[]⟩,I ⟨#[]⟩,Zf Zg,I ⟨#[]⟩,Zf Zg,U J 0 0],Zf Zg]) OE rfl ⟨ai (Yz _) (ai (Yz _) (ai (Yz _) (ai (Yz _) (ai (Yz _) (ai (Yz _) (ai (Yz _) (ai (Yz _) (HB.out)))))))),Zk ⟨λv ⟨i,j,x2,e1,e2,e3,e4⟩=>(by obtain⟨_,rfl⟩:=HX.inj e1 Κ.out (e2.trans HN1.symm);have:=(bj HV.out e3 e4).2;rw[HH2.out] at this;cases this),rfl⟩⟩):p:=h
theorem L7(h:p:=by
 refine bodyPost_ret (v:=Zn #[Zj #[I ⟨#[]⟩,V O 0,I ⟨#[]⟩,I ⟨#[]⟩,Zf Zg,I ⟨#[]⟩,Zf Zg,U J 0 0],Zf Zg]) OE rfl ⟨ai (Yz _) (ai (Yz _) (ai (Yz _) (ai (Yz _) (ai (Yz _) (ai (Yz _) (ai (Yz _) (ai (Yz _) (HB.out)))))))),Zk ⟨λv ⟨i,j,x2,e1,e2,e3,e4⟩=>(by have:=(bj HX.out e1 e2).2;rw[HH1.out] at this;cases this),rfl⟩⟩):p:=h
theorem nx(h:p:=by
 obtain⟨s0,s1,s2,s3,s4,s5,s6,s7⟩:=cs8 Bs;obtain⟨ZR,ZS,ZT,ZU,ZV,ZY,Z1,Z2⟩:=al1;go_wp2;exact aql):p:=h
theorem L2(h:p:=by
 exact Yb hl4 hm4):p:=h
theorem Ly(h:p:=by
 exact apo):p:=h
theorem c_(h:p:=by
 obtain⟨k0,k1,k2,k3,k4,k5⟩:=cs6 Bk;have Α:=ae Bk.out;go_wp2_with fail;exact Χ):p:=h
theorem KQ(h:p:=by
 clear Zc hx z0 z2 z3 z5 Zx;have an5:=@G _ @DK;exact eC):p:=h
theorem KP(h:p:=by
 clear Zc hx z0 z2 z3 z5 Zx;have aof:(v.x=Zg\/v.m=⟨#[]⟩)\/(v.x=Zi/\¬v.m=⟨#[]⟩):=by
  rcases Bool.eq_false_or_eq_true v.x with h|h
  ·by_cases e:v.m=⟨#[]⟩
   ·exact Zl (Zk e)
   ·exact Zk ⟨h,e⟩
  ·exact Zl (Zl h)
 rcases aof with aof|⟨hs,he⟩
 ·have HCs:=G aof;rcases aof with hs|he
  ·exact Pg
  ·have hq:=cw he;clear he;rcases Bool.eq_false_or_eq_true v.x with hs|hs
   ·exact Pg
   ·exact Pg
 ·have hq:=aU he;have HEm:=G he;have HSi:=G hs;rw[hs] at c4;clear he hs;have an5:=@G _ @DJ;exact eC):p:=h
theorem KF(h:p:=by
 refine (jc ⟨a1,l1,y1,a2,l2,y2,a3,l3,y3,(M ⟨b,o,J⟩),l4,y4,a5,l5,y5⟩ c.now c.ks x.k _ (HR.k.below (HB.trans ((aj _ _).mono HB.size))) (HE.below (HB.trans ((aj _ _).mono HB.size)))).mono ?_;have arx:=@G _ @Tu;exact pZ):p:=h
theorem KE(h:p:=by
 refine (RM ⟨(M ⟨b,o,J⟩),l1,y1,a2,l2,y2,a3,l3,y3,a4,l4,y4,a5,l5,y5⟩ c n va vl vc _ (HR.below (HB.trans ((aj _ _).mono HB.size))) σ.out (HTn.below (aj _ _))).mono ?_;have aqm:=@G _ @E2;exact mO):p:=h
theorem KD(h:p:=by
 have au2:=G (RF ⟨a1,l1,y1,a2,l2,y2,a3,l3,y3,a4,l4,y4,(M ⟨b,o,J⟩),l5,y5⟩ c p va vl vc (wr.alloc (Ze #[I p.n,V O p.c,I p.z,U va vl vc,I p.d,V O 2] 102)) (HR.below (HB.trans ((aj _ _).mono HB.size))) HNR.out HXR.out σ.out HNE.out (HTp.below (aj _ _)));rw[HP2.out] at au2;refine (au2.out).mono ?_;have aqm:=@G _ @E1;exact mO):p:=h
theorem KC(h:p:=by
 refine (oc ⟨a1,l1,y1,a2,l2,y2,a3,l3,y3,a4,l4,y4,(M ⟨b,o,J⟩),l5,y5⟩ c.now c.xs va vl vc p.zs _ (HR.x.below (HB.trans ((aj _ _).mono HB.size))) (HTp.below (aj _ _)) (HE.below (HB.trans ((aj _ _).mono HB.size)))).mono ?_;have ap4:=@G _ @G_;exact mZ):p:=h
theorem Kh(h:p:=by
 exact au3):p:=h
theorem Ka(h:p:=by
 refine (cG u 0 1000000 _).mono ?_;have ap5:=@G _ @Ft;exact mQ):p:=h
theorem J_(h:p:=by
 refine (xV n c z a len cap d p _ hd).mono ?_;rintro e w1 ⟨r,rfl,hr,hb⟩;go_wp2_with fail;go_ret;exact⟨r,rfl,⟨λh=>⟨h0.out,h1.out,h2.out,h3.out,hr.1 h⟩,λh=>hr.2 h.2.2.2.2⟩,(fM hb).2.1⟩):p:=h
theorem Jz(h:p:=by
 go_wp2;go_ret;exact ar.f (λh=>HH.out (h.1 k v HXv.out).1) HB.out):p:=h
theorem Jy(h:p:=by
 have an3:=@G _ @abG;exact dI):p:=h
theorem Jw(h:p:=by
 go_wp2_with fail;refine (pC ⟨a1,l1,y1,a2,l2,y2,(M ⟨b,o,J⟩),l3,y3,a4,l4,y4,a5,l5,y5⟩ c v.m v.n _ (HR.below HB.out) HXR.out σ.out).mono ?_;rintro e w2 ⟨r,rfl,hi,Zy⟩;clear k0 k1 k2 k3 k4 k5 r0 r1 r2 r3 r4 r5 r6 r7;replace Bk:=upK Bk Zy;replace Br:=upK Br Zy;replace HB:=upB HB Zy;clear Zy;have HI:=G hi;clear hi;cases r
 ·go_wp2;go_ret;refine ar.f (λh=>?_) HB.out;rcases (h.1 k v HXv.out).2 with h2|h2
  ·exact HEm.out h2
  ·have:=HI.2 h2;cases this
 ·have an3:=@G _ @abF;exact dI):p:=h
theorem jZ(h:p:=by
 obtain⟨k0,k1,k2,k3,k4,k5⟩:=cs6 Bk;obtain⟨r0,r1,r2,r3,r4,r5,r6,r7⟩:=cs8 Br;exact apC):p:=h
theorem Jm(h:p:=by
 refine (rh d c _ (HR.below HB.out) ZQ.1.2.2 ZQ.2.2.2.1.2.2 ZQ.2.2.1.2.2 ZQ.ne).mono ?_;rintro e w6 ⟨r,rfl,hi,hb⟩;have an1:=@G _ @Hm;exact dR):p:=h
theorem Ji(h:p:=by
 have auV:=ae Bp.out;go_wp2;go_loopw [27] (λi wr=> ∃k:Nat,k<=pl/\i=V O k/\Hid (∀(j:Nat) t,j<k->p.zs[j]?=M t->∃v,aX c t v/\InL n.zs v.n)/\Hid (Below w.heap.size w wr)/\Hid (wr.heap[w.heap.size]?=M (Ze (Zs d c.now) 29 (0,0)))/\Hid (wr.heap[w1.heap.size]?=M (Ze #[I n.n,I n.z,V O n.c,V O n.s,V O n.u,Zf Zg,U va vl vc] 81 (0,0)))) (λi _=>pl - (intOf i).toNat);case atStart=>exact⟨0,by omega,rfl,λ_ _ h=>absurd h af,HB.alloc HB.size _,(Yj _ _ _ (ae Bk.out)).trans Bk.out,Yf⟩
 case round=>
  obtain⟨k,hk,rfl,HQ,HB,Bk,Bn⟩:=hrel;by_cases Zo:k<pl
  ·have auW:=@G _ @aeJ;exact Az
  ·exact PJ):p:=h
theorem I_(h:p:=by
 have HX:=G hx;clear Zc hx z0 z1 Zx;have HC:=G (λv:World=>kB x va vl vc v);have ZW:=G (HB.alloc HB.size (Ze (nov x va vl vc) 81));have ar8:=@G _ @WE;exact qj):p:=h
theorem I9(h:p:=by
 have HX:=G hx;have HC:=G (λv:World=>kB x va vl vc v);have ZW:=G (HB.alloc HB.size (Ze (nov x va vl vc) 81));have HRt:=G (sd x va vl vc (wr.alloc (Ze (nov x va vl vc) 81)) z0 z1 (Zx.below (aj _ _)));clear Zc hx z0 z1 Zx;have apP:=@G _ @SE;exact jL):p:=h
theorem I8(h:p:=by
 obtain⟨hz8,HX,HT,aoy⟩:=wV;have avW:=G z1;clear Zc hx Zx z0 z1;go_wp2_with fail;refine (xY x va vl vc _ (HT.below (aj _ _)) hz8).mono ?_;have ar7:=@G _ @Wm;exact qh):p:=h
theorem nh(h:p:=by
 obtain⟨b,o,x,rfl,hb,hx,Zc⟩:=dF (HR.below HB.out) Zo;obtain⟨va,vl,vc,Zx,z0,z1,c0,c1,c2,c3,c4,c5,c6⟩:=bo Zc;exact aqj):p:=h
theorem I3(h:p:=by
 have aog:=ae Br.out;obtain⟨ZR,ZS,ZT,ZU,ZV⟩:=nM;go_wp2;exact bodyPost_ret (v:=Zn #[Zj #[I x.n,V O x.z,I x.k,Zf x.x,I x.v],.nilIface]) AL rfl ⟨Below.alloc (sb1 (sb1 (sb1 (sb1 (sb1 (HB.out)))))) oZ _,Zk ⟨hl,HT.out,x,HX.1,HX.2.1,rfl,HX.2.2⟩⟩):p:=h
theorem I0(h:p:=by
 have aog:=ae Br.out;obtain⟨ZR,ZS,ZT,ZU,ZV⟩:=nM;have ev:=(HE.below HB.out).v2;have evl:=a_ HE.v2;have awK:=a_ ev;go_wp2;go_region;go_wp2;exact bodyPost_ret (v:=Zn #[Zj #[I ⟨#[]⟩,V O 0,I ⟨#[]⟩,Zf Zg,I ⟨#[]⟩],.iface 217 (Zm (M (E 2)))]) AL rfl ⟨Below.gT (Below.alloc (sb1 (sb1 (sb1 (sb1 (sb1 (HB.out)))))) oZ _),Zl ⟨2,by decide,⟨hl,HT.out,oC.no HT.out HH.out⟩,rfl⟩⟩):p:=h
theorem IZ(h:p:=by
 go_wp2;go_ret;exact ar.f (λh=>HH.out (h.2 k x HXx.out).1) HB.out):p:=h
theorem IY(h:p:=by
 have an3:=@G _ @abE;exact dI):p:=h
theorem IX(h:p:=by
 go_wp2_with fail;refine (pC ⟨a1,l1,y1,a2,l2,y2,a3,l3,y3,(M ⟨b,o,J⟩),l4,y4,a5,l5,y5⟩ c x.n x.v _ (HR.below HB.out) HXR.out σ.out).mono ?_;rintro e w2 ⟨r,rfl,hi,Zy⟩;clear k0 k1 k2 k3 k4 k5 r0 r1 r2 r3 r4;replace Bk:=upK Bk Zy;replace Br:=upK Br Zy;replace HB:=upB HB Zy;clear Zy;have HI:=G hi;clear hi;cases r
 ·go_wp2;go_ret;refine ar.f (λh=>?_) HB.out;rcases (h.2 k x HXx.out).2 with h2|h2
  ·exact HEm.out h2
  ·have:=HI.2 h2;cases this
 ·have an3:=@G _ @abD;exact dI):p:=h
theorem IW(h:p:=by
 obtain⟨ZR,ZS,ZT,ZU,ZV⟩:=nM;have ev:=(HE.below HB.out).v1;have evl:=a_ HE.v1;go_wp2;go_region;go_wp2;exact bodyPost_ret (v:=Zn #[Zj #[I ⟨#[]⟩,V O 0,I ⟨#[]⟩,Zf Zg,I ⟨#[]⟩],.iface 217 (Zm (M (E 1)))]) AL rfl ⟨Below.gT (sb1 (sb1 (sb1 (sb1 (sb1 (HB.out)))))),Zl ⟨1,by decide,⟨hl,λh=>AF⟩,rfl⟩⟩):p:=h
theorem fP(h:p:=by
 obtain⟨k0,k1,k2,k3,k4,k5⟩:=cs6 Bk;obtain⟨r0,r1,r2,r3,r4⟩:=cs5 Br;exact aoB):p:=h
theorem IV(h:p:=by
 clear g1 ZN c0 c1 c2 c3 c4 c5 c6 c7;cases Zz:Yk x.n.toList t.toList
 ·go_wp2_with fail;refine (HC.out _).mono ?_;rintro e w2 ⟨rfl,ZG⟩;obtain⟨Z7,hp⟩:=ahP;clear ZG;go_wp2_with fail;refine bodyPost_ret (v:=Zn #[V O k,Zf (x.n.toList==t.toList)]) (by simp[results,Tryz.results103,go_sem]) rfl ⟨?_,Z7.out⟩;unfold hit;rw[hp,HX.out]
 ·exact A2):p:=h
theorem IU(h:p:=by
 have HG:=G g1;have HI:=G hrt;clear g1 ZN hrt c0 c1 c2 c3 c4 c5 c6 c7;have apM:=@G _ @aao;exact jO):p:=h
theorem tx(h:p:=by
 rw[show (wr.alloc (Ze (vov x va vl vc) 37)).heap.size=wr.heap.size+1 from by simp] at hs1;obtain⟨ZX,d0,d1,d2,d3⟩:=o8;have d4:=ck4 g1;have d5:=ck5 g1;have d6:=ck6 g1;have d7:=ck7 g1;exact asi):p:=h
theorem IN(h:p:=by
 go_enter Tryz.func148,Tryz.ntmps148;go_wp2;go_loopw [10] (λi wr=> ∃k:Nat,k<=len/\i=V O k/\Hid (∀(j:Nat) y,j<k->xs[j]?=M y->Yk y.n.toList t.toList=Zi)/\Hid (Below w.heap.size w wr)) (λi _=>len - (intOf i).toNat);case atStart=>exact⟨0,by omega,rfl,λj y hj=>by omega,Yh _ _⟩
 case round=>
  obtain⟨k,hk,rfl,HE,HB⟩:=hrel;by_cases Zo:k<len
  ·obtain⟨b,o,x,rfl,hb,hx,Zc⟩:=gR (HR.below HB.out) Zo;obtain⟨z0,z3,c0,c1,c2,c3⟩:=dh Zc;have HX:=G hx;clear Zc hx z0 z3;have HC:=G (λv:World=>kC x v);have ZW:=G (HB.alloc HB.size (Ze #[I x.n,Zf x.x,Zf x.y,I x.z] 72));have ar8:=@G _ @WD;exact qj
  ·obtain rfl:k=len:=af
   have hp:pl Kd.n xs t=xs.length:=ik (λj y hy=>HE.out j y nK hy);have hh:hit Kd.n xs t=Zg:=by unfold hit;rw[hp,List.getElem?_eq_none (Ye _)]
   have HP:=G hp;have HH:=G hh;clear hp hh;go_wp2;exact bodyPost_ret (v:=Zn #[V O k,Zf Zg]) (by simp[results,Tryz.results148,go_sem]) rfl ⟨by rw[HP.out,HH.out,Z4],HB.out⟩):p:=h
theorem IM(h:p:=by
 have aoT:∀(v:Value) (w:World),(method 361 72 v "loop.example/g00571/impl.right").run Tryz.prog w=.ok (223,v) w:=λ_ _=>by kernel_rfl
 by_cases hmo:Zu<(len:Int)
 ·go_enter Tryz.func118,Tryz.ntmps118;exact nS
 go_enter Tryz.func118,Tryz.ntmps118;go_wp2;go_loopw [5,14] (λq i wr=> ∃(k:Nat) (y:ByteArray),k<=len/\q=I y/\i=V O k/\Hid (k=0->y=⟨#[]⟩)/\Hid (∀z,0<k->xs[k - 1]?=M z->z.n=y)/\Hid (∀(j:Nat) z,j<k->xs[j]?=M z->xS z)/\Hid (∀(j:Nat) z u,j+1<k->xs[j+1]?=M z->xs[j]?=M u->Yk u.n.toList z.n.toList=Zi)/\Hid (Below w.heap.size w wr)) (λ_ i _=>len - (intOf i).toNat);case atStart=>exact⟨0,_,by omega,rfl,rfl,λ_=>rfl,λ_ h=>absurd h af,λ_ _ h=>absurd h af,λ_ _ _ h=>absurd h af,Yh _ _⟩
 case round=>
  obtain⟨k,y,hk,rfl,rfl,H0,H1,HE,HO,HB⟩:=hrel;by_cases Zo:k<len
  ·obtain⟨b,o,x,rfl,hb,hx,Zc⟩:=gR (HR.below HB.out) Zo;obtain⟨z0,z3,c0,c1,c2,c3⟩:=dh Zc;have HX:=G hx;have HC:=G (λv:World=>kC x v);have ZW:=G (HB.alloc HB.size (Ze #[I x.n,Zf x.x,Zf x.y,I x.z] 72));have HRt:=G (se x (wr.alloc (Ze #[I x.n,Zf x.x,Zf x.y,I x.z] 72)) z0 z3);clear Zc hx z0 z3;have apP:=@G _ @Ov;exact jL
  ·exact vh):p:=h
theorem tr(h:p:=by
 obtain⟨HR,Z4,hlc⟩:=nL;clear hr;have anW:∀(v:Value) (w:World),(method 361 72 v "loop.example/g00571/impl.called").run Tryz.prog w=.ok (222,v) w:=λ_ _=>by kernel_rfl
 exact asl):p:=h
theorem IH(h:p:=by
 clear g1 ZN c0 c1 c2 c3 c4 c5 c6;cases Zz:Yk x.n.toList t.toList
 ·have ar_:=@G _ @adv;exact qD
 ·exact A2):p:=h
theorem IG(h:p:=by
 have HG:=G g1;have HI:=G hrt;clear g1 ZN hrt c0 c1 c2 c3 c4 c5 c6;have apM:=@G _ @aaq;exact jO):p:=h
theorem tl(h:p:=by
 rw[show (wr.alloc (Ze (nov x va vl vc) 81)).heap.size=wr.heap.size+1 from by simp] at hs1;obtain⟨ZX,d0,d1,d2,d3⟩:=o8;have d4:=ck4 g1;have d5:=ck5 g1;have d6:=ck6 g1;exact asg):p:=h
theorem IE(h:p:=by
 have HC:=G (λv:World=>rk x va vl vc v);have ZW:=G (HB.alloc HB.size (Ze (pov x va vl vc) 102));have HRt:=G (sb x va vl vc (wr.alloc (Ze (pov x va vl vc) 102)) z0 z2 z4 (Zx.below (aj _ _)));clear Zc hx z0 z2 z4 Zx;have apP:=@G _ @Oq;exact jL):p:=h
theorem ID(h:p:=by
 have HT:=G Zx;clear Zc hx z0 z2 z4 Zx;have skip:(p.d=⟨#[]⟩\/¬InL p.zs t)->∀(j:Nat) q,j<k+1->c.ps[j]?=M q->¬q.d=⟨#[]⟩->InL q.zs t->q.d=s:=by
  intro h j q hj hq h1 h2;by_cases e:j=k
  ·subst e;rw[HX.out] at hq;obtain rfl:=Yd hq;rcases h with h|h
   ·exact absurd h h1
   ·exact absurd h2 h
  ·exact HQ.out j q af hq h1 h2
 have SK:=G skip;clear skip;have au4:s=⟨#[]⟩\/∃(j:Nat) (p:Pd),j<k+1/\c.ps[j]?=M p/\¬p.d=⟨#[]⟩/\InL p.zs t/\p.d=s:=HS.imp id (λ⟨j,p,h1,h2⟩=>⟨j,p,by omega,h2⟩);have KS:=G au4;clear au4;by_cases he:p.d=⟨#[]⟩
 ·have hq:=cw he;have HEm:=G he;clear he;go_wp2;exact⟨⟨k+1,s,by omega,rfl,by go_num,SK.out (Zl HEm.out),KS.out,HB.alloc HB.size _⟩,by simp[intOf];omega⟩
 ·have hq:=aU he;have HEm:=G he;clear he;go_wp2_with fail;refine (eu va vl vc p.zs t _ (HT.below (aj _ _))).mono ?_;rintro e w1 ⟨r,rfl,hi,ZG⟩;obtain⟨ZD,Zr⟩:=aY ZG;have Br:=G ZD;replace HB:=upB HB Zr;clear ZG Zr ZD;have HI:=G hi;clear hi c0 c1 c2 c3 c4 c5 hb;cases r
  ·obtain⟨r0,r1,r2,r3,r4,r5⟩:=cs6 Br;go_wp2;exact⟨⟨k+1,s,by omega,rfl,by go_num,SK.out (Zk (λh=>by have:=HI.2 h;cases this)),KS.out,HB.out⟩,by simp[intOf];omega⟩
  ·have HIn:=G (HI.1 bU);by_cases hs:s=⟨#[]⟩
   ·have Τ:=cw hs;have HSe:=G hs;clear hs;have auY:=@G _ @Wg;exact zt
   ·have Τ:=aU hs;have HSe:=G hs;clear hs;by_cases hd:p.d=s
    ·have hq3:=aP hd;have HD:=G hd;clear hd;have auY:=@G _ @Wf;exact zt
    ·have hq3:=bu hd;have HD:=G hd;clear hd;obtain⟨r0,r1,r2,r3,r4,r5⟩:=cs6 Br;go_wp2;go_ret;refine ar.f (λh=>?_) HB.out;rcases HS.out with h1|⟨j,q,h1,h2,h3,h4,h5⟩
     ·exact HSe.out h1
     ·exact HD.out ((h k j p q HX.out h2 HEm.out h3 HIn.out h4).trans h5)):p:=h
theorem IC(h:p:=by
 have hpc:=HP.out k p hx;clear Zc hx z0 z2 z4 Zx;by_cases hn:p.d=t
 ·have hq:=aP hn;have HN:=G hn;clear hn;go_wp2;refine⟨⟨k+1,s+p.c,by omega,by go_num,by go_num,?_,by omega,by omega,HB.alloc HB.size _⟩,by simp[intOf];omega⟩;show _=_;rw[gH HX.out,if_pos HN.out,<-HS.out]
 ·have hq:=bu hn;have HN:=G hn;clear hn;go_wp2;refine⟨⟨k+1,s,by omega,rfl,by go_num,?_,by omega,by omega,HB.alloc HB.size _⟩,by simp[intOf];omega⟩;show _=_;rw[gH HX.out,if_neg HN.out,<-HS.out,Int.add_zero]):p:=h
theorem Iv(h:p:=by
 have kc:=ck0 Bk;go_wp2;go_loopw [45] (λi wr=> ∃k:Nat,k<=l1/\i=V O k/\Hid (∀(j:Nat) z,j<k->c.ns[j]?=M z->AQ2 c z)/\Hid (Below w.heap.size w wr)/\Hid (wr.heap[w.heap.size]?=M (Ze (Zd a1 l1 y1 a2 l2 y2 a3 l3 y3 a4 l4 y4 a5 l5 y5 c.now) 29 (0,0)))) (λi _=>l1 - (intOf i).toNat);case atStart=>exact⟨0,by omega,rfl,λ_ _ h=>absurd h af,HB.out,Bk.out⟩
 case round=>
  obtain⟨k,hk,rfl,HQ,HB,Bk⟩:=hrel;by_cases Zo:k<l1
  ·have ao3:=@G _ @UD;exact gn
  ·obtain rfl:l1=k:=af
   have ν:Hid (∀(j:Nat) z,c.ns[j]?=M z->AQ2 c z):=λj z hz=>HQ.out j z dO hz;exact qO):p:=h
theorem Ik(h:p:=by
 clear g1 ZN c0 c1 c2 c3;cases Zz:Yk x.n.toList t.toList
 ·have ar_:=@G _ @adu;exact qD
 ·exact A2):p:=h
theorem Ij(h:p:=by
 have HG:=G g1;have HI:=G hrt;clear g1 ZN hrt c0 c1 c2 c3;have apM:=@G _ @aap;exact jO):p:=h
theorem tf(h:p:=by
 rw[show (wr.alloc (Ze #[I x.n,Zf x.x,Zf x.y,I x.z] 72)).heap.size=wr.heap.size+1 from by simp] at hs1;obtain⟨ZX,d0,d1,d2,d3⟩:=o8;exact ash):p:=h
theorem Hp(h:p:=by
 have HI4:=G hi;clear hi;cases r
 ·exact Qs
 obtain⟨k0,k1,k2,k3,k4,k5⟩:=cs6 Bk;go_wp2_with fail;refine (wR _ _ _ c.ps 8 _ (HR.p.below HB.out)).mono ?_;rintro e w5 ⟨r,rfl,hi,hb⟩;clear k0 k1 k2 k3 k4 k5;replace Bk:=upK Bk hb;replace HB:=upB HB hb;clear hb;have HI5:=G hi;clear hi;cases r
 ·obtain⟨k0,k1,k2,k3,k4,k5⟩:=cs6 Bk;go_wp2;go_ret;exact ar.f (λh=>by have:=HI5.2 h.2.2.2.2;cases this) HB.out
 go_wp2;go_ret;exact ar.t ⟨HI1.1 bU,HI2.1 bU,HI3.1 bU,HI4.1 bU,HI5.1 bU⟩ HB.out):p:=h
theorem Ho(h:p:=by
 have HI4:=G hi;clear hi;cases r
 ·exact Qs
 obtain⟨k0,k1,k2,k3,k4,k5⟩:=cs6 Bk;go_wp2_with fail;refine (ow d c _ (HR.below HB.out) ZQ.1.2.2 (by have:=ZQ.2.2.1.1;omega)).mono ?_;have ar0:=@G _ @Jm;exact tF):p:=h
theorem Hn(h:p:=by
 have HI3:=G hi;clear hi;cases r
 ·exact akZ
 obtain⟨k0,k1,k2,k3,k4,k5⟩:=cs6 Bk;go_wp2_with fail;exact asb):p:=h
theorem Hm(h:p:=by
 have HI6:=G hi;clear hi;cases r
 ·exact Qu
 go_wp2;go_ret;exact ar.t ⟨HI1.1 bU,HI2.1 bU,HI3.1 bU,HI4.1 bU,HI5.1 bU,HI6.1 bU⟩ HB.out):p:=h
theorem Hi(h:p:=by
 clear Zc hx z0 z2 z4;have aox:=@G _ @KF;exact fR):p:=h
theorem G_(h:p:=by
 replace HTp:=G (HTp.below Zr);replace HB:=upB HB Zr;clear ZG Zr ZD;clear hb c0 c1 c2 c3 c4 c5;rcases hf with ⟨hh,rfl⟩|⟨hh,T,q,rfl⟩;rotate_left
 ·have HH:=G hh;clear hh;obtain⟨k0,k1,k2,k3,k4,k5⟩:=cs6 Bk;obtain⟨r0,r1,r2,r3,r4,r5⟩:=cs6 Br;go_wp2;go_ret;exact ar.f (λh=>HH.out (h.1 k p HXp.out).1) HB.out
 have HH:=G hh;clear hh;by_cases he:p.d=⟨#[]⟩
 ·have hq:=cw he;have HEm:=G he;clear he;obtain⟨k0,k1,k2,k3,k4,k5⟩:=cs6 Bk;obtain⟨r0,r1,r2,r3,r4,r5⟩:=cs6 Br;have aoH:=@G _ @afC;exact fA
 ·have hq:=aU he;have HEm:=G he;clear he;obtain⟨k0,k1,k2,k3,k4,k5⟩:=cs6 Bk;obtain⟨r0,r1,r2,r3,r4,r5⟩:=cs6 Br;go_wp2_with fail;refine (Cf ⟨a1,l1,y1,a2,l2,y2,a3,l3,y3,a4,l4,y4,(M ⟨b,o,J⟩),l5,y5⟩ c p va vl vc _ (HR.below HB.out) HNR.out HXR.out σ.out HNE.out HTp.out).mono ?_;rintro e w2 ⟨r,rfl,hi,Zy⟩;clear k0 k1 k2 k3 k4 k5 r0 r1 r2 r3 r4 r5;replace Bk:=upK Bk Zy;replace Br:=upK Br Zy;replace HTp:=G (HTp.below Zy);replace HB:=upB HB Zy;clear Zy;have HI:=G hi;clear hi;cases r
  ·go_wp2;go_ret;refine ar.f (λh=>?_) HB.out;rcases (h.1 k p HXp.out).2 with h2|h2
   ·exact HEm.out h2
   ·have:=HI.2 h2;cases this
  ·have aoH:=@G _ @afB;exact fA):p:=h
theorem Ga(h:p:=by
 have HX:=G hx;have HC:=G (λv:World=>eT x va vl vc v);have ZW:=G (HB.alloc HB.size (Ze (vov x va vl vc) 37));have HRt:=G (r_ x va vl vc (wr.alloc (Ze (vov x va vl vc) 37)) z0 z2 z3 z5 (Zx.below (aj _ _)));clear Zc hx z0 z2 z3 z5 Zx;have apP:=@G _ @Ou;exact jL):p:=h
theorem Ft(h:p:=by
 go_wp2_with fail;refine (gC a len cap zs 8 _ (HR.below (aj _ _))).mono ?_;rintro e w1 ⟨r,rfl,hr,rfl⟩;go_wp2_with fail;go_ret;exact⟨r,rfl,⟨λh=>⟨h0.out,h1.out,h2.out,h3.out,h4.out,hr.1 h⟩,λh=>hr.2 h.2.2.2.2.2⟩,aj _ _⟩):p:=h
theorem Fp(h:p:=by
 go_enter Tryz.func193,Tryz.ntmps193;go_wp2;go_loopw [10] (λi wr=> ∃k:Nat,k<=len/\i=V O k/\Hid (∀(j:Nat) y,j<k->xs[j]?=M y->Yk y.n.toList t.toList=Zi)/\Hid (Below w.heap.size w wr)) (λi _=>len - (intOf i).toNat);case atStart=>exact⟨0,by omega,rfl,λj y hj=>by omega,Yh _ _⟩
 case round=>
  obtain⟨k,hk,rfl,HE,HB⟩:=hrel;by_cases Zo:k<len
  ·have aqj:=@G _ @I_;exact nh
  ·obtain rfl:k=len:=af
   have hp:pl Nd.n xs t=xs.length:=ik (λj y hy=>HE.out j y nK hy);have hh:hit Nd.n xs t=Zg:=by unfold hit;rw[hp,List.getElem?_eq_none (Ye _)]
   have HP:=G hp;have HH:=G hh;clear hp hh;go_wp2;exact bodyPost_ret (v:=Zn #[V O k,Zf Zg]) (by simp[results,Tryz.results193,go_sem]) rfl ⟨by rw[HP.out,HH.out,Z4],HB.out⟩):p:=h
theorem Fo(h:p:=by
 have aoT:∀(v:Value) (w:World),(method 361 81 v "loop.example/g00571/impl.right").run Tryz.prog w=.ok (225,v) w:=λ_ _=>by kernel_rfl
 by_cases hmo:Zu<(len:Int)
 ·go_enter Tryz.func117,Tryz.ntmps117;exact nS
 go_enter Tryz.func117,Tryz.ntmps117;go_wp2;go_loopw [5,14] (λq i wr=> ∃(k:Nat) (y:ByteArray),k<=len/\q=I y/\i=V O k/\Hid (k=0->y=⟨#[]⟩)/\Hid (∀z,0<k->xs[k - 1]?=M z->z.n=y)/\Hid (∀(j:Nat) z,j<k->xs[j]?=M z->xI z)/\Hid (∀(j:Nat) z u,j+1<k->xs[j+1]?=M z->xs[j]?=M u->Yk u.n.toList z.n.toList=Zi)/\Hid (Below w.heap.size w wr)) (λ_ i _=>len - (intOf i).toNat);case atStart=>exact⟨0,_,by omega,rfl,rfl,λ_=>rfl,λ_ h=>absurd h af,λ_ _ h=>absurd h af,λ_ _ _ h=>absurd h af,Yh _ _⟩
 case round=>
  obtain⟨k,y,hk,rfl,rfl,H0,H1,HE,HO,HB⟩:=hrel;by_cases Zo:k<len
  ·have aqj:=@G _ @I9;exact nh
  ·exact vh):p:=h
theorem sL(h:p:=by
 obtain⟨HR,Z4,hlc⟩:=nL;clear hr;have anW:∀(v:Value) (w:World),(method 361 81 v "loop.example/g00571/impl.called").run Tryz.prog w=.ok (224,v) w:=λ_ _=>by kernel_rfl
 exact asm):p:=h
theorem E3(h:p:=by
 have Br:=G ZD;replace HB:=upB HB Zr;clear Zy Zr ZD;have HI:=G hi;clear hi hb c0 c1 c2 c3 c4 c5 c6 c7;cases r
 ·go_wp2;go_ret;exact ar.f (λh=>by have:=HI.2 ((h.2.2 k v HXv.out) HSi.out HEm.out);cases this) HB.out
 ·have aoH:=@G _ @afA;exact fA):p:=h
theorem E2(h:p:=by
 replace HB:=upB HB Zr;clear Zy Zr ZD;have HI:=G hi;clear hi hb c0 c1 c2 c3 c4 c5 c6;cases r
 ·go_wp2;go_ret;exact ar.f (λh=>by have:=HI.2 (h.1 k n HXn.out);cases this) HB.out
 ·have an3:=@G _ @abC;exact dI):p:=h
theorem E1(h:p:=by
 replace HB:=upB HB Zr;clear Zy Zr ZD;have HI:=G hi;clear hi hb c0 c1 c2 c3 c4 c5;cases r
 ·go_wp2;go_ret;exact ar.f (λh=>by have:=HI.2 ((h.2 k p HXp.out) HP2.out);cases this) HB.out
 ·have an3:=@G _ @abB;exact dI):p:=h
theorem mO(h:p:=by
 rintro e w2 ⟨r,rfl,hi,Zy⟩;clear k0 k1 k2 k3 k4 k5 aqM;obtain⟨ZD,Zr⟩:=aY Zy;replace Bk:=upK Bk Zr;exact aqm):p:=h
theorem EM(h:p:=by
 have kc:=ck4 Bk;go_wp2;go_loopw [22] (λi wr=> ∃k:Nat,k<=l5/\i=V O k/\Hid (∀(j:Nat) z,j<k->c.ps[j]?=M z->MQ2 c z)/\Hid (Below w.heap.size w wr)/\Hid (wr.heap[w.heap.size]?=M (Ze (Zd a1 l1 y1 a2 l2 y2 a3 l3 y3 a4 l4 y4 a5 l5 y5 c.now) 29 (0,0)))) (λi _=>l5 - (intOf i).toNat);case atStart=>exact⟨0,by omega,rfl,λ_ _ h=>absurd h af,HB.out,Bk.out⟩
 case round=>
  obtain⟨k,hk,rfl,HQ,HB,Bk⟩:=hrel;by_cases Zo:k<l5
  ·have au3:=@G _ @TD;exact yW
  ·obtain rfl:l5=k:=af
   have ν:Hid (∀(j:Nat) z,c.ps[j]?=M z->MQ2 c z):=λj z hz=>HQ.out j z dO hz;exact qO):p:=h
theorem D9(h:p:=by
 obtain⟨hl5,hm5⟩:=lK;clear hr;have HE:=G hG;have HNR:=G hn;have HXR:=G hx;have σ:=G hv;have HNE:=G ZE;have HL5:=G arJ;have HPC:=G hpc;clear hn hx hv ZE arJ hpc hG;go_enter Tryz.func69,Tryz.ntmps69;go_wp2;go_loopw [12] (λi wr=> ∃k:Nat,k<=l5/\i=V O k/\Hid (∀(j:Nat) z,j<k->c.ps[j]?=M z->PQ1 c z)/\Hid (Below w.heap.size w wr)/\Hid (wr.heap[w.heap.size]?=M (Ze (Zd a1 l1 y1 a2 l2 y2 a3 l3 y3 a4 l4 y4 a5 l5 y5 c.now) 29 (0,0)))) (λi _=>l5 - (intOf i).toNat);case atStart=>exact⟨0,by omega,rfl,λ_ _ h=>absurd h af,aj _ _,Yf⟩
 case round=>
  obtain⟨k,hk,rfl,HQ,HB,Bk⟩:=hrel;by_cases Zo:k<l5
  ·have au3:=@G _ @TB;exact yW
  ·obtain rfl:l5=k:=af
   have HQ1:Hid (∀(j:Nat) z,c.ps[j]?=M z->PQ1 c z):=λj z hz=>HQ.out j z dO hz;have kc:=ck0 Bk;go_wp2;go_loopw [36] (λi wr=> ∃k:Nat,k<=l1/\i=V O k/\Hid (∀(j:Nat) z,j<k->c.ns[j]?=M z->PQ2 c z)/\Hid (Below w.heap.size w wr)/\Hid (wr.heap[w.heap.size]?=M (Ze (Zd a1 l1 y1 a2 l2 y2 a3 l3 y3 a4 l4 y4 a5 l5 y5 c.now) 29 (0,0)))) (λi _=>l1 - (intOf i).toNat);case atStart=>exact⟨0,by omega,rfl,λ_ _ h=>absurd h af,HB.out,Bk.out⟩
   case round=>
    obtain⟨k,hk,rfl,HQ,HB,Bk⟩:=hrel;by_cases Zo:k<l1
    ·have ao3:=@G _ @UE;exact gn
    ·obtain rfl:l1=k:=af
     have ν:Hid (∀(j:Nat) z,c.ns[j]?=M z->PQ2 c z):=λj z hz=>HQ.out j z dO hz;have kc:=ck2 Bk;go_wp2;go_loopw [51] (λi wr=> ∃k:Nat,k<=l3/\i=V O k/\Hid (∀(j:Nat) z,j<k->c.vs[j]?=M z->PQ3 c z)/\Hid (Below w.heap.size w wr)/\Hid (wr.heap[w.heap.size]?=M (Ze (Zd a1 l1 y1 a2 l2 y2 a3 l3 y3 a4 l4 y4 a5 l5 y5 c.now) 29 (0,0)))) (λi _=>l3 - (intOf i).toNat);case atStart=>exact⟨0,by omega,rfl,λ_ _ h=>absurd h af,HB.out,Bk.out⟩
     case round=>
      obtain⟨k,hk,rfl,HQ,HB,Bk⟩:=hrel;by_cases Zo:k<l3
      ·have apZ:=@G _ @KP;exact nt
      ·obtain rfl:l3=k:=af
       have HQ3:Hid (∀(j:Nat) z,c.vs[j]?=M z->PQ3 c z):=λj z hz=>HQ.out j z dO hz;go_wp2;go_ret;exact ar.t ⟨HQ1.out,ν.out,HQ3.out⟩ HB.out):p:=h
theorem D8(h:p:=by
 clear hr;have HNR:=G hn;have HL3:=G ar3;clear hn ar3;go_enter Tryz.func70,Tryz.ntmps70;go_wp2;go_loopw [14] (λi wr=> ∃k:Nat,k<=l3/\i=V O k/\Hid (∀(j:Nat) z,j<k->c.vs[j]?=M z->AQ1 c z)/\Hid (Below w.heap.size w wr)/\Hid (wr.heap[w.heap.size]?=M (Ze (Zd a1 l1 y1 a2 l2 y2 a3 l3 y3 a4 l4 y4 a5 l5 y5 c.now) 29 (0,0)))) (λi _=>l3 - (intOf i).toNat);case atStart=>exact⟨0,by omega,rfl,λ_ _ h=>absurd h af,aj _ _,Yf⟩
 case round=>
  obtain⟨k,hk,rfl,HQ,HB,Bk⟩:=hrel;by_cases Zo:k<l3
  ·obtain⟨b,o,v,rfl,hb,hx,Zc⟩:=bY (HR.v.below HB.out) Zo;have aoW:=@G _ @ad9;exact gA
  ·have arZ:=@G _ @Iv;exact th):p:=h
theorem DL(h:p:=by
 go_wp2;refine⟨⟨k+1,by omega,by go_num,λj z hj hz=>?_,(HB.alloc HB.size _),(Yj _ _ _ (ae Bk.out)).trans Bk.out⟩,by simp[intOf];omega⟩;exact auP):p:=h
theorem DK(h:p:=by
 go_wp2_with fail;refine (jc ⟨a1,l1,y1,a2,l2,y2,(M ⟨b,o,J⟩),l3,y3,a4,l4,y4,a5,l5,y5⟩ c.now c.ks v.k _ (HR.k.below (HB.trans ((aj _ _).mono HB.size))) (HE.below (HB.trans ((aj _ _).mono HB.size)))).mono ?_;have arx:=@G _ @Tv;exact pZ):p:=h
theorem DJ(h:p:=by
 go_wp2_with fail;refine (RH ⟨a1,l1,y1,a2,l2,y2,(M ⟨b,o,J⟩),l3,y3,a4,l4,y4,a5,l5,y5⟩ c v.m _ (HR.below (HB.trans ((aj _ _).mono HB.size)))).mono ?_;have aqm:=@G _ @E3;exact mO):p:=h
theorem Dl(h:p:=by
 refine (x_ d c _ (HR.below HB.out) ZQ.2.2.2.1.2.2 ZQ.2.2.1.2.2 (HE.below HB.out)).mono ?_;have asb:=@G _ @Nl;exact uB):p:=h
theorem Di(h:p:=by
 have KV:=G ((Yj wr (Ze (vov v va vl vc) 37) _ (ae Bk.out)).trans Bk.out);obtain⟨GV,BV⟩:=O7;have TV:=G (HTv.below (aj wr (Ze (vov v va vl vc) 37)));obtain⟨W,hW⟩:∃W,W=wr.alloc (Ze (vov v va vl vc) 37):=⟨_,rfl⟩;obtain⟨gb,Δ⟩:∃gb,gb=wr.heap.size:=⟨_,rfl⟩;rw[<-hW] at KV GV BV TV;rw[<-Δ] at GV;go_wp2;rw[<-hW,<-Δ];clear hW Δ HB Bk c0 c1 c2 c3 c4 c5 c6 c7 hb;go_loopw [21] (λi wr=> ∃kq:Nat,kq<=vl/\i=V O kq/\Hid (∀(j:Nat) t,j<kq->v.zs[j]?=M t->∃(i:Nat) (n:Nd),c.ns[i]?=M n/\n.n=t/\n.z=v.z)/\Hid (Below W.heap.size W wr)) (λi _=>vl - (intOf i).toNat);case atStart=>exact⟨0,by omega,rfl,λ_ _ h=>absurd h af,Yh _ _⟩
 case round=>
  obtain⟨kq,hkq,rfl,ν,ZH⟩:=hrel;obtain⟨HB,Bk⟩:=uU;have Bv:=upK GV ZH.out;by_cases aob:kq<vl
  ·obtain⟨b2,o2,t,rfl,hb,hx,hc,Zq⟩:=(TV.below ZH.out).at aob;have HXt:=G hx;clear hx Zq;obtain⟨k0,k1,k2,k3,k4,k5⟩:=cs6 Bk;obtain⟨v0,v1,v2,v3,v4,v5,v6,v7⟩:=cs8 Bv;go_wp2_with fail;refine (oF ⟨a1,l1,y1,a2,l2,y2,(M ⟨b,o,J⟩),l3,y3,a4,l4,y4,a5,l5,y5⟩ c.now c.ns t w _ HR.n HB.out).mono ?_;rintro e w1 ⟨ZG,hf⟩;have apx:=upB ZH ZG;clear k0 k1 k2 k3 k4 k5 v0 v1 v2 v3 v4 v5 v6 v7;replace Bk:=upK Bk ZG;replace Bv:=upK Bv ZG;replace HB:=upB HB ZG;clear ZG;clear hb hc;rcases hf with ⟨hh,m,ma,ml,mc,hx,hn,rfl,z0,z1,hmr⟩|⟨hh,rfl⟩;rotate_left
   ·have HH:=G hh;clear hh;have auZ:=@G _ @V0;exact zl
   have HXm:=G hx;have HNm:=G hn;clear hx hn hh z0 z1 hmr;by_cases hz:m.z=v.z
   ·have q1:=aP hz;have HZ:=G hz;clear hz;obtain⟨k0,k1,k2,k3,k4,k5⟩:=cs6 Bk;obtain⟨v0,v1,v2,v3,v4,v5,v6,v7⟩:=cs8 Bv;have aqS:=ae Bv.out;go_wp2_with fail;refine⟨⟨kq+1,by omega,by go_num,λj s hj hs=>?_,apx.alloc apx.size _⟩,by simp[intOf];omega⟩;by_cases e:j=kq
    ·subst e;rw[HXt.out] at hs;obtain rfl:=Yd hs;exact⟨_,m,HXm.out,HNm.out,HZ.out⟩
    ·exact ν.out j s af hs
   ·have q1:=bu hz;have HZ:=G hz;clear hz;have auZ:=@G _ @VZ;exact zl
  ·exact ah_):p:=h
theorem sf {a b:Bool} (h:a=b):Ending.returned (Zf a)=Zh (Zf b):=by rw[h]
theorem A7(b:Int) (w:World):
  Calls Tryz.prog 186 #[V .u8 b] w λe w'=>e=Zh (Zf (ou b))/\w=w':=by
 go_enter Tryz.func186,Tryz.ntmps186;go_wp2;all_goals (go_ret;exact⟨sf (by unfold ou;rw[Bool.eq_iff_iff];simp;omega),rfl⟩)
theorem Ro(b:Int) (w:World):
  Calls Tryz.prog 187 #[V .u8 b] w λe w'=>e=Zh (Zf (nbB b))/\w=w':=by
 go_enter Tryz.func187,Tryz.ntmps187;go_wp2;all_goals (go_ret;exact⟨sf (by unfold nbB ou ag_;rw[Bool.eq_iff_iff];simp;omega),rfl⟩)
theorem bh(s:ByteArray) (w:World) (hs:s.size<=9223372036854775807):
  Calls Tryz.prog 156 #[I s] w (cU (aN s) w):=by
 by_cases h1:s.size<1
 ·go_enter Tryz.func156,Tryz.ntmps156;exact qP
 by_cases h2:20<s.size
 ·go_enter Tryz.func156,Tryz.ntmps156;exact qP
 have h0:0<s.size:=af
 cases hl:ou ((s[0]'h0).toNat:Int)
 ·have HC:Hid (∀w,Calls Tryz.prog 186 #[V .u8 ((s[0]'h0).toNat:Int)] w λe w'=>e=Zh (Zf Zg)/\w=w'):=λw=>by rw[<-hl];exact A7 _ w
  have HB:Hid (okB 0 ((s[0]'h0).toNat:Int)=Zg):=hl;clear hl;go_enter Tryz.func156,Tryz.ntmps156;go_wp2_with (go_at_call 186;refine (HC.out _).mono ?_;rintro e w1 ⟨rfl,rfl⟩);go_ret;exact⟨Zg,rfl,kh h0 HB.out,rfl⟩
 ·have HC:Hid (∀w,Calls Tryz.prog 186 #[V .u8 ((s[0]'h0).toNat:Int)] w λe w'=>e=Zh (Zf Zi)/\w=w'):=λw=>by rw[<-hl];exact A7 _ w
  have HB:Hid (okB 0 ((s[0]'h0).toNat:Int)=Zi):=hl;clear hl;go_enter Tryz.func156,Tryz.ntmps156;go_wp2_with (go_at_call 186;refine (HC.out _).mono ?_;rintro e w1 ⟨rfl,rfl⟩);go_loop [3] (λi=> ∃k:Nat,1<=k/\k<=s.size/\i=V O k/\∀i (h:i<s.size),i<k->okB i ((s[i]'h).toNat:Int)=Zi) (λi=>s.size - (intOf i).toNat);case atStart=>exact⟨1,by omega,by omega,rfl,λi _ h=>by obtain rfl:i=0:=af;exact HB.out⟩
  case round=>
   obtain⟨k,Ο,hk,rfl,ZL⟩:=hrel;have HA:Hid (∀i (h:i<s.size),i<k->okB i ((s[i]'h).toNat:Int)=Zi):=ZL;clear ZL HB;by_cases Zo:k<s.size
   ·cases ξ:nbB ((s[k]'Zo).toNat:Int)
    ·have HC:Hid (∀w,Calls Tryz.prog 187 #[V .u8 ((s[k]'Zo).toNat:Int)] w λe w'=>e=Zh (Zf Zg)/\w=w'):=λw=>by rw[<-ξ];exact Ro _ w
     have HB:Hid (okB k ((s[k]'Zo).toNat:Int)=Zg):=by unfold okB;rw[if_neg af];exact ξ
     clear ξ;go_wp2_with (go_at_call 187;refine (HC.out _).mono ?_;rintro e w1 ⟨rfl,rfl⟩);go_ret;exact⟨Zg,rfl,kh Zo HB.out,rfl⟩
    ·have HC:Hid (∀w,Calls Tryz.prog 187 #[V .u8 ((s[k]'Zo).toNat:Int)] w λe w'=>e=Zh (Zf Zi)/\w=w'):=λw=>by rw[<-ξ];exact Ro _ w
     have HB:Hid (okB k ((s[k]'Zo).toNat:Int)=Zi):=by unfold okB;rw[if_neg af];exact ξ
     clear ξ;go_wp2_with (go_at_call 187;refine (HC.out _).mono ?_;rintro e w1 ⟨rfl,rfl⟩);go_round;case rel=>exact⟨k+1,by omega,by omega,by go_num,po Zo HB.out HA.out⟩
     case measure=>simp[intOf];omega
   ·exact Qm
theorem vH {x:ByteArray} (h:1<=x.size):Yk (⟨#[]⟩:ByteArray).toList x.toList=Zi:=by
 rw[Za,Za];rw[Lib.size_eq] at h;cases e:x.data.toList with
 | nil=>rw[e] at h;simp at h
 | cons a l=>rfl
theorem gC(a:Option Addr) (len cap:Nat) (zs:List ByteArray) (Zu:Int) (w:World) (hr:aw w a len cap zs):
  Calls Tryz.prog 196 #[U a len cap,V O Zu] w (cU (ed zs Zu) w):=by
 have HR:Hid (aw w a len cap zs):=hr;have hlc:=Yo hr.2.1 hr.2.2.1;have hzl:=hr.1;clear hr;by_cases hm:Zu<(len:Int)
 ·go_enter Tryz.func196,Tryz.ntmps196;go_wp2;go_ret;exact⟨Zg,rfl,⟨λh=>bJ,λh=>absurd h.1 af⟩,rfl⟩
 go_enter Tryz.func196,Tryz.ntmps196;go_wp2;go_loop [5,14] (λp i=> ∃(k:Nat) (y:ByteArray),k<=len/\p=I y/\i=V O k/\Hid (k=0->y=⟨#[]⟩)/\Hid (0<k->zs[k - 1]?=M y)/\Hid (ju (zs.take k))) (λ_ i=>len - (intOf i).toNat);case atStart=>exact⟨0,_,by omega,rfl,rfl,λ_=>rfl,λh=>absurd h af,λi x h=>by simp at h⟩
 case round=>
  obtain⟨k,y,hk,rfl,rfl,H0,H1,HE⟩:=hrel;by_cases Zo:k<len
  ·obtain⟨b,o,x,rfl,hb,hx,hc,Zq⟩:=HR.at Zo;by_cases hn:aN x
   ·have HY:Hid (∀w,Calls Tryz.prog 156 #[I x] w λe w'=>e=Zh (Zf Zi)/\w'=w):=λw=>(bh x w Zq).mono λ_ _ h=>h.yes hn;have aqh:=ir y.toList x.toList;cases Zz:Yk y.toList x.toList
    ·rw[Zz] at aqh;go_wp2_with (go_at_call 156;refine (HY.out _).mono ?_;rintro e w1 ⟨rfl,rfl⟩);go_ret;refine⟨Zg,rfl,⟨λh=>bJ,λh=>?_⟩,rfl⟩;by_cases hk0:0<k
     ·exact absurd ((h.2 k x hx).2 y hk0 (H1.out hk0)) (by rw[Zz];decide)
     ·have:=H0.out af;subst this;rw[vH hn.1] at Zz;cases Zz
    ·rw[Zz] at aqh;go_wp2_with (go_at_call 156;refine (HY.out _).mono ?_;rintro e w1 ⟨rfl,rfl⟩);refine⟨⟨k+1,x,by omega,rfl,by go_num,λh=>absurd h af,λ_=>hx,HE.step hx hn (λy' h0 hy'=>?_)⟩,by simp[intOf];omega⟩;rw[H1.out h0] at hy';obtain rfl:=Yd hy';exact Zz
   ·have HY:Hid (∀w,Calls Tryz.prog 156 #[I x] w λe w'=>e=Zh (Zf Zg)/\w'=w):=λw=>(bh x w Zq).mono λ_ _ h=>h.no hn;go_wp2_with (go_at_call 156;refine (HY.out _).mono ?_;rintro e w1 ⟨rfl,rfl⟩);go_ret;exact⟨Zg,rfl,⟨λh=>bJ,λh=>absurd (h.2 k x hx).1 hn⟩,rfl⟩
  ·obtain rfl:k=len:=af
   have hR:=HE.out;rw[YB af] at hR;go_wp2;go_ret;exact⟨Zi,rfl,⟨λ_=>⟨by omega,hR⟩,λ_=>rfl⟩,rfl⟩
theorem cG(n a b:Int) (w:World):
  Calls Tryz.prog 66 #[V O n,V O a,V O b] w (cU (Inn n a b) w):=by
 go_enter Tryz.func66,Tryz.ntmps66;go_wp2;all_goals (go_ret;exact⟨_,rfl,by unfold Inn;simp;omega,rfl⟩)
theorem kJ {w1:World} {vs:Array Value} (hb:Below (w.alloc (Ze vs T)).drew.heap.size (w.alloc (Ze vs T)).drew w1):
  w1.heap[w.heap.size]?=M (Ze vs T (0,0))/\Below w.heap.size w w1/\w.heap.size<w1.heap.size:=fM ⟨hb.os,hb.tape,hb.output,hb.size,hb.block⟩
theorem ck8 {b:Nat} {f:Nat×Nat} {v0 v1 v2 v3 v4 v5 v6 v7 v8:Value} {r:List Value} (h:w.heap[b]?=M (Ze (v0::v1::v2::v3::v4::v5::v6::v7::v8 ::r).toArray T f)):w.cell? ⟨b,8,J⟩=M v8:=al h 8
theorem dt(s:ByteArray) (w:World) (hs:s.size<=9223372036854775807):
  Calls Tryz.prog 150 #[I s] w (cU (dz s) w):=by
 by_cases h0:s=⟨#[]⟩
 ·subst h0;go_enter Tryz.func150,Tryz.ntmps150;go_wp2;go_ret;exact⟨_,rfl,by unfold dz;simp,rfl⟩
 ·have hq:=aU h0;go_enter Tryz.func150,Tryz.ntmps150;go_wp2_with (go_at_call 156;refine (bh _ _ hs).mono ?_;rintro e w1 ⟨r,rfl,hr,rfl⟩);go_ret;exact⟨r,rfl,by unfold dz;simp[h0,hr],rfl⟩
theorem Cm(n z:ByteArray) (c s u:Int) (d:Bool) (a:Option Addr) (len cap:Nat) (zs:List ByteArray) (w:World) (hn:n.size<=9223372036854775807) (hz:z.size<=9223372036854775807) (hr:aw w a len cap zs):
  Calls Tryz.prog 226 #[Zj #[I n,I z,V O c,V O s,V O u,Zf d,U a len cap]] w (ar (yr n z c s u zs) w):=by
 have HR:Hid (aw w a len cap zs):=hr;clear hr;go_enter Tryz.func226,Tryz.ntmps226;go_wp2_with fail;refine (bh n _ hn).mono ?_;have aoE:=@G _ @ae4;exact fz
theorem jo(n z:ByteArray) (x y:Bool) (w:World) (hn:n.size<=9223372036854775807) (hz:z.size<=9223372036854775807):
  Calls Tryz.prog 155 #[Zj #[I n,Zf x,Zf y,I z]] w (ar (kE n z) w):=by
 go_enter Tryz.func155,Tryz.ntmps155;go_wp2_with fail;refine (bh n _ hn).mono ?_;have aoE:=@G _ @ae3;exact fz
theorem od(n:ByteArray) (z:Int) (k:ByteArray) (x:Bool) (v:ByteArray) (w:World) (hn:n.size<=9223372036854775807) (hk:k.size<=9223372036854775807) (hv:v.size<=9223372036854775807):
  Calls Tryz.prog 149 #[Zj #[I n,V O z,I k,Zf x,I v]] w (ar (iT n z k v) w):=by
 go_enter Tryz.func149,Tryz.ntmps149;go_wp2_with fail;refine (bh n _ hn).mono ?_;have aoE:=@G _ @ae2;exact fz
theorem xV(n:ByteArray) (c:Int) (z:ByteArray) (a:Option Addr) (len cap:Nat) (d:ByteArray) (p:Int) (w:World) (hd:d.size<=9223372036854775807):
  Calls Tryz.prog 230 #[Zj #[I n,V O c,I z,U a len cap,I d,V O p]] w (ar (fE d p) w):=by
 by_cases h0:p=0
 ·subst h0;go_enter Tryz.func230,Tryz.ntmps230;go_wp2;go_ret;exact⟨_,rfl,by rw[fZ,eP],aj _ _⟩
 have hq0:(p==0)=Zg:=by simp[h0]
 by_cases h1:p=1
 ·subst h1;go_enter Tryz.func230,Tryz.ntmps230;go_wp2_with (go_at_call 156;refine (bh _ _ hd).mono ?_;rintro e w1 ⟨r,rfl,hr,rfl⟩);go_ret;exact⟨r,rfl,by rw[jC d (Or.inl rfl),hr],aj _ _⟩
 have hq1:(p==1)=Zg:=by simp[h1]
 by_cases h2:p=2
 ·subst h2;go_enter Tryz.func230,Tryz.ntmps230;go_wp2_with (go_at_call 156;refine (bh _ _ hd).mono ?_;rintro e w1 ⟨r,rfl,hr,rfl⟩);go_ret;exact⟨r,rfl,by rw[jC d (Or.inr rfl),hr],aj _ _⟩
 have Τ:(p==2)=Zg:=by simp[h2]
 go_enter Tryz.func230,Tryz.ntmps230;go_wp2;go_ret;exact⟨Zg,rfl,⟨λh=>bJ,λh=>absurd h (rP af)⟩,aj _ _⟩
theorem RG(n:ByteArray) (c:Int) (z:ByteArray) (a:Option Addr) (len cap:Nat) (zs:List ByteArray) (d:ByteArray) (p:Int) (w:World) (hn:n.size<=9223372036854775807) (hz:z.size<=9223372036854775807) (hd:d.size<=9223372036854775807) (hr:aw w a len cap zs):
  Calls Tryz.prog 229 #[Zj #[I n,V O c,I z,U a len cap,I d,V O p]] w (ar (Sa n c z zs d p) w):=by
 have HR:Hid (aw w a len cap zs):=hr;clear hr;go_enter Tryz.func229,Tryz.ntmps229;go_wp2_with fail;refine (bh n _ hn).mono ?_;have aoE:=@G _ @ae1;exact fz
theorem nY(n:ByteArray) (c:Int) (z k:ByteArray) (x:Bool) (m:ByteArray) (y:Bool) (a:Option Addr) (len cap:Nat) (w:World):
  Calls Tryz.prog 197 #[Zj #[I n,V O c,I z,I k,Zf x,I m,Zf y,U a len cap]] w λe w'=>e=Zh (V O (if x=Zi then 1 else 6))/\Below w.heap.size w w':=by
 cases x;all_goals (
  go_enter Tryz.func197,Tryz.ntmps197
  go_wp2
  go_ret
  exact⟨rfl,aj _ _⟩)
theorem wD {o p q:Obj} (h:Below (((w.alloc o).alloc p).alloc q).heap.size (((w.alloc o).alloc p).alloc q) w'):w'.heap[w.heap.size]?=M o/\w'.heap[w.heap.size+1]?=M p/\w'.heap[w.heap.size+1+1]?=M q/\Below w.heap.size w w':=by
 obtain⟨h1,h2⟩:=aY h;rw[cW,cW] at h1;obtain⟨h3,h4,h5⟩:=dK h2;exact⟨h3,h4,h1,h5⟩
namespace Rc
theorem lh.ay {S':Nat->Prop} {P:Nat->Nat} (h:lh w d c S P) (hk:∀k,k<w.heap.size->S k->w'.heap[k]?=w.heap[k]?) (hs:∀k,k<w.heap.size->S k->S' k):lh w' d c S' P:=
 ⟨h.n.ay (λk hl s=>hk k hl s.1) (λk hl s=>⟨hs k hl s.1,s.2⟩),h.k.ay (λk hl s=>hk k hl s.1) (λk hl s=>⟨hs k hl s.1,s.2⟩),h.v.ay (λk hl s=>hk k hl s.1) (λk hl s=>⟨hs k hl s.1,s.2⟩),h.x.ay (λk hl s=>hk k hl s.1) (λk hl s=>⟨hs k hl s.1,s.2⟩),h.p.ay (λk hl s=>hk k hl s.1) (λk hl s=>⟨hs k hl s.1,s.2⟩)⟩
theorem eL.below(h:eL w d c S) (hb:Below w.heap.size w w'):eL w' d c S:=by
 obtain⟨P,h⟩:=h;exact⟨P,h.ay (λk hk _=>hb.block k hk) (λ_ _ s=>s)⟩
end Rc
namespace Ap
theorem alg {w0:World} {base n:Nat} {v:Value} {zs:List ByteArray} (h:w.ownsRow base 9 1 v n (zs.map Yn)) (hb:Below base w0 w) (hB:base=w0.heap.size) (hs:∀(j:Nat) x,zs[j]?=M x->x.size<=9223372036854775807):
  ∃a l c,v=U a l c/\cj zs w0 a l c w:=by
 subst hB;obtain⟨hl,h⟩:=h;have hl':zs.length=n:=by simpa using hl
 rcases h with ⟨rfl,rfl⟩|⟨g,cap,cur,rfl,hbg,hg,hnc,hcm,Zq,htk⟩
 ·obtain rfl:zs=[]:=List.eq_nil_of_length_eq_zero hl';exact⟨J,0,0,rfl,⟨rfl,Ye _,by omega,λj x hx=>by simp at hx,Zl rfl⟩,Zl rfl,hb⟩
 ·refine⟨M ⟨g,0,J⟩,n,cap,rfl,⟨hl',hnc,by unfold maxLen at hcm;omega,hs,Zk ⟨g,0,rfl,ae hg,λj x hx=>?_⟩⟩,Zk ⟨g,cur,rfl,hbg,hg⟩,hb⟩;exact Q7
theorem qV(a:Option Addr) (len cap:Nat) (zs:List ByteArray) (w:World) (hr:aw w a len cap zs) (hl:len<=8001):
  Calls Tryz.prog 52 #[U a len cap] w λe w'=> ∃a' l c,e=Zh (U a' l c)/\cj zs w a' l c w':=by
 cases a with
 | none=>
  obtain rfl:zs=[]:=by
   rcases hr.2.2.2.2 with h|⟨b,o,e,_⟩
   ·exact h
   ·cases e
  obtain rfl:len=0:=by have:=hr.1;simpa using this.symm
  clear hr
  go_enter Tryz.func52,Tryz.ntmps52
  go_wp2
  go_ret;exact⟨_,_,_,rfl,⟨rfl,Ye _,by omega,λj x hx=>by simp at hx,Zl rfl⟩,Zl rfl,Yh _ _⟩
 | some ad=>
  have HN:=G (A6 hr);have HZ:=G hr.2.2.2.1;have hzl:=hr.1;clear hr;obtain⟨i0,hi,ZO,η,ZP⟩:=info_parts eQ
  go_enter Tryz.func52,Tryz.ntmps52
  go_wp2_with (first|(at_builtin;refine wpList_append_own _ rfl _ _ 35 rfl w.heap.size 9 i0 (I ⟨#[]⟩) 1 16 Tryz.underlying35 hi ZO η ZP rfl ag _ 0 _ rfl (World.ownsRow_nil w w.heap.size 9 1) ad len cap (zs.map Yn) rfl ?c1 HN.out ?c3 ?c4 ?c5 (Ye _) ?_))
  case c1=>simpa using hzl
  case c3=>intro u hu;obtain⟨x,_,rfl⟩:=List.mem_map.1 hu;rfl
  case c4=>unfold maxLen;omega
  case c5=>omega
  intro v' w3 Z5 ZC hv;have Z7:=G ((Yh w.heap.size w).grown ZC (Ye _) (λk hk=>by cases hk));have HO:=G Z5;clear Z5 ZC hv
  go_wp2
  go_ret;obtain⟨a',l,c,rfl,h2⟩:=alg HO.out Z7.out rfl HZ.out;exact⟨a',l,c,rfl,h2⟩
theorem amL(n:ByteArray) (c:Int) (z:ByteArray) (k:ByteArray) (x:Bool) (m:ByteArray) (y:Bool) (a:Option Addr) (len cap:Nat) (zs:List ByteArray) (w:World) (hr:aw w a len cap zs) (hl:len<=8001):
  Calls Tryz.prog 28 #[Zj #[I n,V O c,I z,I k,Zf x,I m,Zf y,U a len cap]] w λe w'=> ∃a' l p,e=Zh (Zj #[I n,V O c,I z,I k,Zf x,I m,Zf y,U a' l p])/\cj zs w a' l p w':=by
 have HR:=G (hr.below (aM w (Ze #[I n,V O c,I z,I k,Zf x,I m,Zf y,U a len cap] 37) (Ze #[I ⟨#[]⟩,V O 0,I ⟨#[]⟩,I ⟨#[]⟩,Zf Zg,I ⟨#[]⟩,Zf Zg,U J 0 0] 37)));clear hr;go_enter Tryz.func28,Tryz.ntmps28;go_wp2_with fail;refine (qV a len cap zs _ HR.out hl).mono ?_;rintro e w3 ⟨a',l,p,rfl,h1,h2,hb⟩;have g0:=(hb.block w.heap.size bg).trans (du _ _ _);have g1:=(hb.block (w.heap.size+1) aF).trans (cL _ _ _);have HQ:Hid (aw w3 a' l p zs/\(zs=[]\/∃g cur,a'=M ⟨g,0,J⟩/\w.heap.size+1+1<=g/\w3.heap[g]?=M (Ze cur 9 (0,0)))/\Below w.heap.size w w3):=⟨h1,by simpa using h2,(aM w _ _).trans (hb.mono bg)⟩;have d0:=ck0 g0;have d1:=ck1 g0;have d2:=ck2 g0;have d3:=ck3 g0;have d4:=ck4 g0;have d5:=ck5 g0;have d6:=ck6 g0;have d7:=ck7 g0;have df7:=ak g0 7;have e0:=ck0 g1;have ef0:=ak g1 0;have e1:=ck1 g1;have ef1:=ak g1 1;have e2:=ck2 g1;have ef2:=ak g1 2;have e3:=ck3 g1;have ef3:=ak g1 3;have e4:=ck4 g1;have ef4:=ak g1 4;have e5:=ck5 g1;have ef5:=ak g1 5;have e6:=ck6 g1;have ef6:=ak g1 6;have e7:=ck7 g1;have ef7:=ak g1 7;have ν:=G (cj.set (cj.set (cj.set (cj.set (cj.set (cj.set (cj.set (cj.set (cj.set HQ.out (b:=w.heap.size) (i:=7) af af (v:=U a' l p)) (b:=w.heap.size+1) (i:=0) af af (v:=I n)) (b:=w.heap.size+1) (i:=1) af af (v:=V O c)) (b:=w.heap.size+1) (i:=2) af af (v:=I z)) (b:=w.heap.size+1) (i:=3) af af (v:=I k)) (b:=w.heap.size+1) (i:=4) af af (v:=Zf x)) (b:=w.heap.size+1) (i:=5) af af (v:=I m)) (b:=w.heap.size+1) (i:=6) af af (v:=Zf y)) (b:=w.heap.size+1) (i:=7) af af (v:=U a' l p));clear h1 h2 hb g0 g1;go_wp2_with fail;refine bodyPost_ret (v:=Zj #[I n,V O c,I z,I k,Zf x,I m,Zf y,U a' l p]) (by simp[results,Tryz.results28,go_sem, *]) rfl ⟨a',l,p,rfl,ν.1,?_,ν.2.2⟩;rcases ν.2.1 with h|⟨g,cur,h1,h2,h3⟩
 ·exact Zl h
 ·exact Zk ⟨g,cur,h1,by omega,h3⟩
end Ap
namespace Rc
theorem xY(x:Nd) (va:Option Addr) (vl vc:Nat) (w:World) (hr:aw w va vl vc x.zs) (hl:vl<=8001):
  Calls Tryz.prog 160 #[Zj #[I x.n,I x.z,V O x.c,V O x.s,V O x.u,Zf x.d,U va vl vc]] w λe w'=> ∃a' l' c',e=Zh (Zj #[I x.n,I x.z,V O x.c,V O x.s,V O x.u,Zf x.d,U a' l' c'])/\bG w' a' l' c' x.zs (λk=>w.heap.size<=k)/\Below w.heap.size w w':=by
 obtain⟨HR,HB⟩:=lp;clear hr;go_enter Tryz.func160,Tryz.ntmps160;have auS:=@G _ @ad7;exact Ar
theorem re(a:Option Addr) (len cap:Nat) (xs:List Nd) (w:World) (hr:aV w a len cap 7 (xs.map ndF)) (hl:len<=8) (hs:∀(j:Nat) x,xs[j]?=M x->x.zs.length<=8001):
  Calls Tryz.prog 159 #[U a len cap,.func (.func 160) #[] #[]] w λe w'=> ∃a' c',e=Zh (U a' len c')/\av w' a' len c' 7 81 (xs.map ndF) (λk=>w.heap.size<=k)/\Below w.heap.size w w':=by
 have HR:=G hr;have HS:=G hs;have Z4:xs.length=len:=ef
 clear hr hs;obtain⟨i0,hi,ZO,η,ZP⟩:=info_parts RI;have apQ:=@G _ @ad5;exact jQ
theorem xW(x:Vd) (va:Option Addr) (vl vc:Nat) (w:World) (hr:aw w va vl vc x.zs) (hl:vl<=8001):
  Calls Tryz.prog 28 #[Zj #[I x.n,V O x.c,I x.z,I x.k,Zf x.x,I x.m,Zf x.y,U va vl vc]] w λe w'=> ∃a' l' c',e=Zh (Zj #[I x.n,V O x.c,I x.z,I x.k,Zf x.x,I x.m,Zf x.y,U a' l' c'])/\bG w' a' l' c' x.zs (λk=>w.heap.size<=k)/\Below w.heap.size w w':=by
 refine (Ap.amL x.n x.c x.z x.k x.x x.m x.y va vl vc x.zs w hr hl).mono ?_;rintro e w' ⟨a',l',c',rfl,h1,h2,hb⟩;exact⟨a',l',c',rfl,⟨h1,h2⟩,hb⟩
theorem qZ(a:Option Addr) (len cap:Nat) (xs:List Vd) (w:World) (hr:aV w a len cap 8 (xs.map vdF)) (hl:len<=8) (hs:∀(j:Nat) x,xs[j]?=M x->x.zs.length<=8001):
  Calls Tryz.prog 161 #[U a len cap,.func (.func 28) #[] #[]] w λe w'=> ∃a' c',e=Zh (U a' len c')/\av w' a' len c' 8 37 (xs.map vdF) (λk=>w.heap.size<=k)/\Below w.heap.size w w':=by
 have HR:=G hr;have HS:=G hs;have Z4:xs.length=len:=ef
 clear hr hs;obtain⟨i0,hi,ZO,η,ZP⟩:=info_parts jm;have ao2:=@G _ @NC;exact ie
theorem xX(x:Pd) (va:Option Addr) (vl vc:Nat) (w:World) (hr:aw w va vl vc x.zs) (hl:vl<=8001):
  Calls Tryz.prog 163 #[Zj #[I x.n,V O x.c,I x.z,U va vl vc,I x.d,V O x.p]] w λe w'=> ∃a' l' c',e=Zh (Zj #[I x.n,V O x.c,I x.z,U a' l' c',I x.d,V O x.p])/\bG w' a' l' c' x.zs (λk=>w.heap.size<=k)/\Below w.heap.size w w':=by
 obtain⟨HR,HB⟩:=lp;clear hr;go_enter Tryz.func163,Tryz.ntmps163;have auS:=@G _ @ad6;exact Ar
theorem q_(a:Option Addr) (len cap:Nat) (xs:List Pd) (w:World) (hr:aV w a len cap 6 (xs.map pdF)) (hl:len<=8) (hs:∀(j:Nat) x,xs[j]?=M x->x.zs.length<=8001):
  Calls Tryz.prog 162 #[U a len cap,.func (.func 163) #[] #[]] w λe w'=> ∃a' c',e=Zh (U a' len c')/\av w' a' len c' 6 102 (xs.map pdF) (λk=>w.heap.size<=k)/\Below w.heap.size w w':=by
 have HR:=G hr;have HS:=G hs;have Z4:xs.length=len:=ef
 clear hr hs;obtain⟨i0,hi,ZO,η,ZP⟩:=info_parts rf;have apQ:=@G _ @ad4;exact jQ
end Rc
theorem vM(n:ByteArray) (c:Int) (z k:ByteArray) (x:Bool) (m:ByteArray) (y:Bool) (a:Option Addr) (len cap:Nat) (zs:List ByteArray) (w:World) (hn:n.size<=9223372036854775807) (hz:z.size<=9223372036854775807) (hk:k.size<=9223372036854775807) (hm:m.size<=9223372036854775807) (hr:aw w a len cap zs):
  Calls Tryz.prog 183 #[Zj #[I n,V O c,I z,I k,Zf x,I m,Zf y,U a len cap]] w (ar (Bu n c z k x m y zs) w):=by
 have HR:Hid (aw w a len cap zs):=hr;clear hr;cases y
 ·have HY:Hid (Zg=Zi->m=⟨#[]⟩):=λh=>bJ;have auQ:=@G _ @ae0;exact AE
 by_cases hm0:m=⟨#[]⟩
 ·subst hm0;have HY:Hid True:=trivial;have auQ:=@G _ @aeZ;exact AE
 have hq9:=aU hm0;go_enter Tryz.func183,Tryz.ntmps183;exact Pr
namespace Rc
theorem kB(x:Nd) (va:Option Addr) (vl vc:Nat) (w:World):
  Calls Tryz.prog 224 #[Zj #[I x.n,I x.z,V O x.c,V O x.s,V O x.u,Zf x.d,U va vl vc]] w λe w'=>e=Zh (I x.n)/\Below w.heap.size w w':=by
 go_enter Tryz.func224,Tryz.ntmps224;go_wp2;go_ret;exact⟨rfl,aj _ _⟩
theorem sd(x:Nd) (va:Option Addr) (vl vc:Nat) (w:World) (hn:x.n.size<=9223372036854775807) (hz:x.z.size<=9223372036854775807) (hr:aw w va vl vc x.zs):
  Calls Tryz.prog 225 #[Zj #[I x.n,I x.z,V O x.c,V O x.s,V O x.u,Zf x.d,U va vl vc]] w (ar (xI x) w):=by
 have HR:=G (hr.below (aj w (Ze (nov x va vl vc) 81)));clear hr;go_enter Tryz.func225,Tryz.ntmps225;go_wp2_with fail;refine (Cm x.n x.z x.c x.s x.u x.d va vl vc x.zs _ hn hz HR.out).mono ?_;exact ve
theorem vu(a:Option Addr) (len cap:Nat) (xs:List Nd) (t:ByteArray) (w:World) (hr:aV w a len cap 7 (xs.map ndF)):
  Calls Tryz.prog 193 #[U a len cap,I t] w λe w'=>e=Zh (Zn #[V O (pl Nd.n xs t:Nat),Zf (hit Nd.n xs t)])/\Below w.heap.size w w':=by
 have asm:=@G _ @Fp;exact sL
def Sj(xs:List Nd) (t:ByteArray) (r w:World) (e:Ending) (w':World):Prop:=
 Below w.heap.size w w'/\((hit Nd.n xs t=Zi/\∃(x:Nd) (va:Option Addr) (vl vc:Nat),xs[pl Nd.n xs t]?=M x/\x.n=t/\e=Zh (Zn #[Zj #[I x.n,I x.z,V O x.c,V O x.s,V O x.u,Zf x.d,U va vl vc],Zf Zi])/\x.n.size<=9223372036854775807/\x.z.size<=9223372036854775807/\aw r va vl vc x.zs)\/(hit Nd.n xs t=Zg/\e=Zh (Zn #[Zj #[I ⟨#[]⟩,I ⟨#[]⟩,V O 0,V O 0,V O 0,Zf Zg,U J 0 0],Zf Zg])))
theorem yg(a:Option Addr) (len cap:Nat) (xs:List Nd) (t:ByteArray) (r w:World) (hr:aV r a len cap 7 (xs.map ndF)) (hrw:Below r.heap.size r w):
  Calls Tryz.prog 175 #[U a len cap,I t] w (Sj xs t r w):=by
 have HR:=G hr;have HRW:=G hrw;have Z4:xs.length=len:=ef
 have HR1:=G ((hr.below hrw).below (aj w (Ze #[I ⟨#[]⟩,I ⟨#[]⟩,V O 0,V O 0,V O 0,Zf Zg,U J 0 0] 81)));clear hr hrw;go_enter Tryz.func175,Tryz.ntmps175;go_wp2_with fail;refine (vu a len cap xs t _ HR1.out).mono ?_;have apD:=@G _ @MO;exact j7
theorem oF(d:Ad) (now:Int) (xs:List Nd) (t:ByteArray) (r w:World) (hr:aV r d.a1 d.l1 d.c1 7 (xs.map ndF)) (hrw:Below r.heap.size r w):
  Calls Tryz.prog 128 #[Zj (Zs d now),I t] w (Sj xs t r w):=by
 unfold Zs;have HR:=G hr;have HRW:=G (hrw.trans ((aM w (Ze (Zs d now) 29) (Ze #[I ⟨#[]⟩,I ⟨#[]⟩,V O 0,V O 0,V O 0,Zf Zg,U J 0 0] 81)).mono hrw.size));clear hr hrw;go_enter Tryz.func128,Tryz.ntmps128;go_wp2_with fail;refine (yg _ _ _ xs t r _ HR.out HRW.out).mono ?_;have aqR:=@G _ @adD;exact lY
theorem wS(a:Option Addr) (len cap:Nat) (xs:List Nd) (Zu:Int) (w:World) (hr:aV w a len cap 7 (xs.map ndF)):
  Calls Tryz.prog 117 #[U a len cap,V O Zu] w (ar (fk xI Nd.n xs Zu) w):=by
 have asm:=@G _ @Fo;exact sL
theorem kC(x:Kd)  (w:World):
  Calls Tryz.prog 222 #[Zj #[I x.n,Zf x.x,Zf x.y,I x.z]] w λe w'=>e=Zh (I x.n)/\Below w.heap.size w w':=by
 go_enter Tryz.func222,Tryz.ntmps222;go_wp2;go_ret;exact⟨rfl,aj _ _⟩
theorem se(x:Kd)  (w:World) (hn:x.n.size<=9223372036854775807) (hz:x.z.size<=9223372036854775807):
  Calls Tryz.prog 223 #[Zj #[I x.n,Zf x.x,Zf x.y,I x.z]] w (ar (xS x) w):=by
 skip;skip;go_enter Tryz.func223,Tryz.ntmps223;go_wp2_with fail;refine (jo x.n x.z x.x x.y _ hn hz).mono ?_;exact ve
theorem vv(a:Option Addr) (len cap:Nat) (xs:List Kd) (t:ByteArray) (w:World) (hr:aV w a len cap 4 (xs.map kdF)):
  Calls Tryz.prog 148 #[U a len cap,I t] w λe w'=>e=Zh (Zn #[V O (pl Kd.n xs t:Nat),Zf (hit Kd.n xs t)])/\Below w.heap.size w w':=by
 have asl:=@G _ @IN;exact tr
def Sk(xs:List Kd) (t:ByteArray) (_r w:World) (e:Ending) (w':World):Prop:=
 Below w.heap.size w w'/\((hit Kd.n xs t=Zi/\∃(x:Kd),xs[pl Kd.n xs t]?=M x/\x.n=t/\e=Zh (Zn #[Zj #[I x.n,Zf x.x,Zf x.y,I x.z],Zf Zi])/\x.n.size<=9223372036854775807/\x.z.size<=9223372036854775807)\/(hit Kd.n xs t=Zg/\e=Zh (Zn #[Zj #[I ⟨#[]⟩,Zf Zg,Zf Zg,I ⟨#[]⟩],Zf Zg])))
theorem yh(a:Option Addr) (len cap:Nat) (xs:List Kd) (t:ByteArray) (r w:World) (hr:aV r a len cap 4 (xs.map kdF)) (hrw:Below r.heap.size r w):
  Calls Tryz.prog 92 #[U a len cap,I t] w (Sk xs t r w):=by
 have HR:=G hr;have HRW:=G hrw;have Z4:xs.length=len:=ef
 have HR1:=G ((hr.below hrw).below (aj w (Ze #[I ⟨#[]⟩,Zf Zg,Zf Zg,I ⟨#[]⟩] 72)));clear hr hrw;go_enter Tryz.func92,Tryz.ntmps92;go_wp2_with fail;refine (vv a len cap xs t _ HR1.out).mono ?_;have apD:=@G _ @MN;exact j7
theorem oG(d:Ad) (now:Int) (xs:List Kd) (t:ByteArray) (r w:World) (hr:aV r d.a2 d.l2 d.c2 4 (xs.map kdF)) (hrw:Below r.heap.size r w):
  Calls Tryz.prog 46 #[Zj (Zs d now),I t] w (Sk xs t r w):=by
 unfold Zs;have HR:=G hr;have HRW:=G (hrw.trans ((aM w (Ze (Zs d now) 29) (Ze #[I ⟨#[]⟩,Zf Zg,Zf Zg,I ⟨#[]⟩] 72)).mono hrw.size));clear hr hrw;go_enter Tryz.func46,Tryz.ntmps46;go_wp2_with fail;refine (yh _ _ _ xs t r _ HR.out HRW.out).mono ?_;have aqR:=@G _ @adC;exact lY
theorem wT(a:Option Addr) (len cap:Nat) (xs:List Kd) (Zu:Int) (w:World) (hr:aV w a len cap 4 (xs.map kdF)):
  Calls Tryz.prog 118 #[U a len cap,V O Zu] w (ar (fk xS Kd.n xs Zu) w):=by
 have asl:=@G _ @IM;exact tr
theorem eT(x:Vd) (va:Option Addr) (vl vc:Nat) (w:World):
  Calls Tryz.prog 217 #[Zj #[I x.n,V O x.c,I x.z,I x.k,Zf x.x,I x.m,Zf x.y,U va vl vc]] w λe w'=>e=Zh (I x.n)/\Below w.heap.size w w':=by
 go_enter Tryz.func217,Tryz.ntmps217;go_wp2;go_ret;exact⟨rfl,aj _ _⟩
theorem r_(x:Vd) (va:Option Addr) (vl vc:Nat) (w:World) (hn:x.n.size<=9223372036854775807) (hz:x.z.size<=9223372036854775807) (hk:x.k.size<=9223372036854775807) (hm:x.m.size<=9223372036854775807) (hr:aw w va vl vc x.zs):
  Calls Tryz.prog 218 #[Zj #[I x.n,V O x.c,I x.z,I x.k,Zf x.x,I x.m,Zf x.y,U va vl vc]] w (ar (rM x) w):=by
 have HR:=G (hr.below (aj w (Ze (vov x va vl vc) 37)));clear hr;go_enter Tryz.func218,Tryz.ntmps218;go_wp2_with fail;refine (vM x.n x.c x.z x.k x.x x.m x.y va vl vc x.zs _ hn hz hk hm HR.out).mono ?_;exact ve
theorem ij(a:Option Addr) (len cap:Nat) (xs:List Vd) (t:ByteArray) (w:World) (hr:aV w a len cap 8 (xs.map vdF)):
  Calls Tryz.prog 103 #[U a len cap,I t] w λe w'=>e=Zh (Zn #[V O (pl Vd.n xs t:Nat),Zf (hit Vd.n xs t)])/\Below w.heap.size w w':=by
 obtain⟨HR,Z4,hlc⟩:=nL;clear hr;have ase:=@G _ @Xh;exact qm
def Si(xs:List Vd) (t:ByteArray) (r w:World) (e:Ending) (w':World):Prop:=
 Below w.heap.size w w'/\((hit Vd.n xs t=Zi/\∃(x:Vd) (va:Option Addr) (vl vc:Nat),xs[pl Vd.n xs t]?=M x/\x.n=t/\e=Zh (Zn #[Zj #[I x.n,V O x.c,I x.z,I x.k,Zf x.x,I x.m,Zf x.y,U va vl vc],Zf Zi])/\x.n.size<=9223372036854775807/\x.z.size<=9223372036854775807/\x.k.size<=9223372036854775807/\x.m.size<=9223372036854775807/\aw r va vl vc x.zs)\/(hit Vd.n xs t=Zg/\e=Zh (Zn #[Zj #[I ⟨#[]⟩,V O 0,I ⟨#[]⟩,I ⟨#[]⟩,Zf Zg,I ⟨#[]⟩,Zf Zg,U J 0 0],Zf Zg])))
theorem yf(a:Option Addr) (len cap:Nat) (xs:List Vd) (t:ByteArray) (r w:World) (hr:aV r a len cap 8 (xs.map vdF)) (hrw:Below r.heap.size r w):
  Calls Tryz.prog 51 #[U a len cap,I t] w (Si xs t r w):=by
 have HR:=G hr;have HRW:=G hrw;have Z4:xs.length=len:=ef
 have HR1:=G ((hr.below hrw).below (aj w (Ze #[I ⟨#[]⟩,V O 0,I ⟨#[]⟩,I ⟨#[]⟩,Zf Zg,I ⟨#[]⟩,Zf Zg,U J 0 0] 37)));clear hr hrw;go_enter Tryz.func51,Tryz.ntmps51;go_wp2_with fail;refine (ij a len cap xs t _ HR1.out).mono ?_;have apD:=@G _ @MM;exact j7
theorem eW(d:Ad) (now:Int) (xs:List Vd) (t:ByteArray) (r w:World) (hr:aV r d.a3 d.l3 d.c3 8 (xs.map vdF)) (hrw:Below r.heap.size r w):
  Calls Tryz.prog 27 #[Zj (Zs d now),I t] w (Si xs t r w):=by
 unfold Zs;have HR:=G hr;have HRW:=G (hrw.trans ((aM w (Ze (Zs d now) 29) (Ze #[I ⟨#[]⟩,V O 0,I ⟨#[]⟩,I ⟨#[]⟩,Zf Zg,I ⟨#[]⟩,Zf Zg,U J 0 0] 37)).mono hrw.size));clear hr hrw;go_enter Tryz.func27,Tryz.ntmps27;go_wp2_with fail;refine (yf _ _ _ xs t r _ HR.out HRW.out).mono ?_;have aqR:=@G _ @adB;exact lY
theorem wQ(a:Option Addr) (len cap:Nat) (xs:List Vd) (Zu:Int) (w:World) (hr:aV w a len cap 8 (xs.map vdF)):
  Calls Tryz.prog 119 #[U a len cap,V O Zu] w (ar (fk rM Vd.n xs Zu) w):=by
 obtain⟨HR,Z4,hlc⟩:=nL;clear hr;have anW:∀(v:Value) (w:World),(method 361 37 v "loop.example/g00571/impl.called").run Tryz.prog w=.ok (217,v) w:=λ_ _=>by kernel_rfl
 have aoT:∀(v:Value) (w:World),(method 361 37 v "loop.example/g00571/impl.right").run Tryz.prog w=.ok (218,v) w:=λ_ _=>by kernel_rfl
 by_cases hmo:Zu<(len:Int)
 ·go_enter Tryz.func119,Tryz.ntmps119;exact nS
 go_enter Tryz.func119,Tryz.ntmps119;go_wp2;go_loopw [5,14] (λq i wr=> ∃(k:Nat) (y:ByteArray),k<=len/\q=I y/\i=V O k/\Hid (k=0->y=⟨#[]⟩)/\Hid (∀z,0<k->xs[k - 1]?=M z->z.n=y)/\Hid (∀(j:Nat) z,j<k->xs[j]?=M z->rM z)/\Hid (∀(j:Nat) z u,j+1<k->xs[j+1]?=M z->xs[j]?=M u->Yk u.n.toList z.n.toList=Zi)/\Hid (Below w.heap.size w wr)) (λ_ i _=>len - (intOf i).toNat);case atStart=>exact⟨0,_,by omega,rfl,rfl,λ_=>rfl,λ_ h=>absurd h af,λ_ _ h=>absurd h af,λ_ _ _ h=>absurd h af,Yh _ _⟩
 case round=>
  obtain⟨k,y,hk,rfl,rfl,H0,H1,HE,HO,HB⟩:=hrel;by_cases Zo:k<len
  ·obtain⟨b,o,x,rfl,hb,hx,Zc⟩:=bY (HR.below HB.out) Zo;have aoj:=@G _ @Ga;exact fe
  ·exact vh
theorem eS(x:Xd)  (w:World):
  Calls Tryz.prog 219 #[Zj #[I x.n,V O x.z,I x.k,Zf x.x,I x.v]] w λe w'=>e=Zh (I x.n)/\Below w.heap.size w w':=by
 go_enter Tryz.func219,Tryz.ntmps219;go_wp2;go_ret;exact⟨rfl,aj _ _⟩
theorem r9(x:Xd)  (w:World) (hn:x.n.size<=9223372036854775807) (hk:x.k.size<=9223372036854775807) (hv:x.v.size<=9223372036854775807):
  Calls Tryz.prog 220 #[Zj #[I x.n,V O x.z,I x.k,Zf x.x,I x.v]] w (ar (gX x) w):=by
 skip;skip;go_enter Tryz.func220,Tryz.ntmps220;go_wp2_with fail;refine (od x.n x.z x.k x.x x.v _ hn hk hv).mono ?_;exact ve
theorem ly(a:Option Addr) (len cap:Nat) (xs:List Xd) (t:ByteArray) (w:World) (hr:aV w a len cap 5 (xs.map xdF)):
  Calls Tryz.prog 147 #[U a len cap,I t] w λe w'=>e=Zh (Zn #[V O (pl Xd.n xs t:Nat),Zf (hit Xd.n xs t)])/\Below w.heap.size w w':=by
 obtain⟨HR,Z4,hlc⟩:=nL;clear hr;have asf:=@G _ @Xe;exact qk
def Sh(xs:List Xd) (t:ByteArray) (_r w:World) (e:Ending) (w':World):Prop:=
 Below w.heap.size w w'/\((hit Xd.n xs t=Zi/\∃(x:Xd),xs[pl Xd.n xs t]?=M x/\x.n=t/\e=Zh (Zn #[Zj #[I x.n,V O x.z,I x.k,Zf x.x,I x.v],Zf Zi])/\x.n.size<=9223372036854775807/\x.k.size<=9223372036854775807/\x.v.size<=9223372036854775807)\/(hit Xd.n xs t=Zg/\e=Zh (Zn #[Zj #[I ⟨#[]⟩,V O 0,I ⟨#[]⟩,Zf Zg,I ⟨#[]⟩],Zf Zg])))
theorem ye(a:Option Addr) (len cap:Nat) (xs:List Xd) (t:ByteArray) (r w:World) (hr:aV r a len cap 5 (xs.map xdF)) (hrw:Below r.heap.size r w):
  Calls Tryz.prog 91 #[U a len cap,I t] w (Sh xs t r w):=by
 have HR:=G hr;have HRW:=G hrw;have Z4:xs.length=len:=ef
 have HR1:=G ((hr.below hrw).below (aj w (Ze #[I ⟨#[]⟩,V O 0,I ⟨#[]⟩,Zf Zg,I ⟨#[]⟩] 47)));clear hr hrw;go_enter Tryz.func91,Tryz.ntmps91;go_wp2_with fail;refine (ly a len cap xs t _ HR1.out).mono ?_;have apD:=@G _ @ML;exact j7
theorem iB(d:Ad) (now:Int) (xs:List Xd) (t:ByteArray) (r w:World) (hr:aV r d.a4 d.l4 d.c4 5 (xs.map xdF)) (hrw:Below r.heap.size r w):
  Calls Tryz.prog 45 #[Zj (Zs d now),I t] w (Sh xs t r w):=by
 unfold Zs;have HR:=G hr;have HRW:=G (hrw.trans ((aM w (Ze (Zs d now) 29) (Ze #[I ⟨#[]⟩,V O 0,I ⟨#[]⟩,Zf Zg,I ⟨#[]⟩] 47)).mono hrw.size));clear hr hrw;go_enter Tryz.func45,Tryz.ntmps45;go_wp2_with fail;refine (ye _ _ _ xs t r _ HR.out HRW.out).mono ?_;have aqR:=@G _ @adA;exact lY
theorem wP(a:Option Addr) (len cap:Nat) (xs:List Xd) (Zu:Int) (w:World) (hr:aV w a len cap 5 (xs.map xdF)):
  Calls Tryz.prog 120 #[U a len cap,V O Zu] w (ar (fk gX Xd.n xs Zu) w):=by
 obtain⟨HR,Z4,hlc⟩:=nL;clear hr;have anW:∀(v:Value) (w:World),(method 361 47 v "loop.example/g00571/impl.called").run Tryz.prog w=.ok (219,v) w:=λ_ _=>by kernel_rfl
 have aoT:∀(v:Value) (w:World),(method 361 47 v "loop.example/g00571/impl.right").run Tryz.prog w=.ok (220,v) w:=λ_ _=>by kernel_rfl
 by_cases hmo:Zu<(len:Int)
 ·go_enter Tryz.func120,Tryz.ntmps120;exact nS
 go_enter Tryz.func120,Tryz.ntmps120;go_wp2;go_loopw [5,14] (λq i wr=> ∃(k:Nat) (y:ByteArray),k<=len/\q=I y/\i=V O k/\Hid (k=0->y=⟨#[]⟩)/\Hid (∀z,0<k->xs[k - 1]?=M z->z.n=y)/\Hid (∀(j:Nat) z,j<k->xs[j]?=M z->gX z)/\Hid (∀(j:Nat) z u,j+1<k->xs[j+1]?=M z->xs[j]?=M u->Yk u.n.toList z.n.toList=Zi)/\Hid (Below w.heap.size w wr)) (λ_ i _=>len - (intOf i).toNat);case atStart=>exact⟨0,_,by omega,rfl,rfl,λ_=>rfl,λ_ h=>absurd h af,λ_ _ h=>absurd h af,λ_ _ _ h=>absurd h af,Yh _ _⟩
 case round=>
  obtain⟨k,y,hk,rfl,rfl,H0,H1,HE,HO,HB⟩:=hrel;by_cases Zo:k<len
  ·obtain⟨b,o,x,rfl,hb,hx,Zc⟩:=dB (HR.below HB.out) Zo;obtain⟨z0,z2,z4,c0,c1,c2,c3,c4⟩:=bD Zc;have HX:=G hx;have HC:=G (λv:World=>eS x v);have ZW:=G (HB.alloc HB.size (Ze (xov x) 47));have HRt:=G (r9 x (wr.alloc (Ze (xov x) 47)) z0 z2 z4);clear Zc hx z0 z2 z4;have apP:=@G _ @Ot;exact jL
  ·exact vh
theorem rk(x:Pd) (va:Option Addr) (vl vc:Nat) (w:World):
  Calls Tryz.prog 227 #[Zj #[I x.n,V O x.c,I x.z,U va vl vc,I x.d,V O x.p]] w λe w'=>e=Zh (I x.n)/\Below w.heap.size w w':=by
 go_enter Tryz.func227,Tryz.ntmps227;go_wp2;go_ret;exact⟨rfl,aj _ _⟩
theorem sb(x:Pd) (va:Option Addr) (vl vc:Nat) (w:World) (hn:x.n.size<=9223372036854775807) (hz:x.z.size<=9223372036854775807) (hd:x.d.size<=9223372036854775807) (hr:aw w va vl vc x.zs):
  Calls Tryz.prog 228 #[Zj #[I x.n,V O x.c,I x.z,U va vl vc,I x.d,V O x.p]] w (ar (vy x) w):=by
 have HR:=G (hr.below (aj w (Ze (pov x va vl vc) 102)));clear hr;go_enter Tryz.func228,Tryz.ntmps228;go_wp2_with fail;refine (RG x.n x.c x.z va vl vc x.zs x.d x.p _ hn hz hd HR.out).mono ?_;exact ve
theorem wR(a:Option Addr) (len cap:Nat) (xs:List Pd) (Zu:Int) (w:World) (hr:aV w a len cap 6 (xs.map pdF)):
  Calls Tryz.prog 121 #[U a len cap,V O Zu] w (ar (fk vy Pd.n xs Zu) w):=by
 obtain⟨HR,Z4,hlc⟩:=nL;clear hr;have anW:∀(v:Value) (w:World),(method 361 102 v "loop.example/g00571/impl.called").run Tryz.prog w=.ok (227,v) w:=λ_ _=>by kernel_rfl
 have aoT:∀(v:Value) (w:World),(method 361 102 v "loop.example/g00571/impl.right").run Tryz.prog w=.ok (228,v) w:=λ_ _=>by kernel_rfl
 by_cases hmo:Zu<(len:Int)
 ·go_enter Tryz.func121,Tryz.ntmps121;exact nS
 go_enter Tryz.func121,Tryz.ntmps121;go_wp2;go_loopw [5,14] (λq i wr=> ∃(k:Nat) (y:ByteArray),k<=len/\q=I y/\i=V O k/\Hid (k=0->y=⟨#[]⟩)/\Hid (∀z,0<k->xs[k - 1]?=M z->z.n=y)/\Hid (∀(j:Nat) z,j<k->xs[j]?=M z->vy z)/\Hid (∀(j:Nat) z u,j+1<k->xs[j+1]?=M z->xs[j]?=M u->Yk u.n.toList z.n.toList=Zi)/\Hid (Below w.heap.size w wr)) (λ_ i _=>len - (intOf i).toNat);case atStart=>exact⟨0,_,by omega,rfl,rfl,λ_=>rfl,λ_ h=>absurd h af,λ_ _ h=>absurd h af,λ_ _ _ h=>absurd h af,Yh _ _⟩
 case round=>
  obtain⟨k,y,hk,rfl,rfl,H0,H1,HE,HO,HB⟩:=hrel;by_cases Zo:k<len
  ·obtain⟨b,o,x,rfl,hb,hx,Zc⟩:=db (HR.below HB.out) Zo;have aoX:=@G _ @IE;exact ia
  ·exact vh
def ens(w:World):Prop:=∃T v,w.cell? ⟨3,0,J⟩=M (.iface T v)
theorem ens.lt(h:ens w):3<w.heap.size:=by
 obtain⟨T,v,h⟩:=h;rcases Nat.lt_or_ge (3) w.heap.size with h1|h1
 ·exact h1
 ·simp[YX,Array.getElem?_eq_none h1] at h
theorem ens.below(h:ens w) (hb:Below w.heap.size w w'):ens w':=by
 have hl:=h.lt;obtain⟨T,v,h⟩:=h;exact⟨T,v,(ah hb hl).trans h⟩
def amX(p:Prop) (w:World) (e:Ending) (w':World):Prop:=Below w.heap.size w w'/\((p/\e=Zh .nilIface)\/(¬p/\∃T v,e=Zh (.iface T v)))
theorem jc(d:Ad) (now:Int) (xs:List Kd) (t:ByteArray) (w:World) (hr:aV w d.a2 d.l2 d.c2 4 (xs.map kdF)) (hG:ens w):
  Calls Tryz.prog 122 #[Zj (Zs d now),I t] w (amX (hit Kd.n xs t=Zi) w):=by
 unfold Zs;obtain⟨HR,HE,HB⟩:=nP;clear hr hG;go_enter Tryz.func122,Tryz.ntmps122;go_wp2_with fail;refine (oG d now xs t w _ HR.out (aj _ _)).mono ?_;rintro e w1 ⟨hb,hf⟩;obtain⟨ZD,Zr⟩:=aY hb;replace HB:=upB HB Zr;clear hb Zr ZD;obtain⟨T,v,hv⟩:=HE.below HB.out;have hl:=(HE.below HB.out).lt;rcases hf with ⟨hh,x,hx,hn,rfl,z0,z3⟩|⟨hh,rfl⟩
 ·have HH:=G hh;clear hh hx hn z0 z3;go_wp2;go_ret;exact⟨(HB.alloc HB.size _),Zl ⟨HH.out,rfl⟩⟩
 ·have HH:=G hh;clear hh;go_wp2;go_ret;exact⟨(HB.alloc HB.size _),Zk ⟨by rw[HH.out];decide,T,v,rfl⟩⟩
theorem pC(d:Ad) (c:Cl) (t s:ByteArray) (w:World) (hr:aA w d c.raw) (hx:aH Xd.n c.xs) (hv:aH Vd.n c.vs):
  Calls Tryz.prog 123 #[Zj (Zs d c.now),I t,I s] w (ar (oE c t s) w):=by
 unfold Zs;obtain⟨HR,HB⟩:=lp;have HX:=G hx;have HV:=G hv;clear hr hx hv;go_enter Tryz.func123,Tryz.ntmps123;go_wp2_with fail;refine (iB d c.now c.xs t w _ HR.x (aj _ _)).mono ?_;rintro e w1 ⟨hb,hf⟩;have aov:=@G _ @N_;exact fT
theorem x_(d:Ad) (c:Cl) (w:World) (hr:aA w d c.raw) (hxr:aH Xd.n c.xs) (Zx:aH Vd.n c.vs) (hG:ens w):
  Calls Tryz.prog 68 #[Zj (Zs d c.now)] w (ar (yx c) w):=by
 have anV:=@G _ @afS;exact dn
theorem xZ(a:Option Addr) (len cap:Nat) (zs:List ByteArray) (t:ByteArray) (w:World) (hr:aw w a len cap zs):
  Calls Tryz.prog 192 #[U a len cap,I t] w λe w'=>(∃r:Int,e=Zh (V O r)/\((0<=r/\InL zs t)\/(r= -1/\¬InL zs t)))/\w'=w:=by
 have HR:=G hr;have hlc:=Yo hr.2.1 hr.2.2.1;have hzl:=hr.1;clear hr;go_enter Tryz.func192,Tryz.ntmps192;go_wp2;go_loop [8] (λi=> ∃k:Nat,k<=len/\i=V O k/\Hid (∀(j:Nat) x,j<k->zs[j]?=M x->¬x=t)) (λi=>len - (intOf i).toNat);case atStart=>exact⟨0,by omega,rfl,λ_ _ h=>absurd h af⟩
 case round=>
  obtain⟨k,hk,rfl,HE⟩:=hrel;by_cases Zo:k<len
  ·obtain⟨b,o,x,rfl,hb,hx,hc,Zq⟩:=HR.at Zo;have HX:=G hx;clear hx;by_cases hn:t=x
   ·have hq:=aP hn;have HN:=G hn;clear hn;go_wp2;go_ret;exact⟨⟨k,rfl,Zl ⟨by omega,k,by rw[HX.out,HN.out]⟩⟩,rfl⟩
   ·have hq:=bu hn;have HN:=G hn;clear hn;go_wp2;refine⟨⟨k+1,by omega,by go_num,λj z hj hz=>?_⟩,by simp[intOf];omega⟩;by_cases e:j=k
    ·subst e;rw[HX.out] at hz;obtain rfl:=Yd hz;exact λq=>HN.out q.symm
    ·exact HE.out j z af hz
  ·obtain rfl:len=k:=af
   go_wp2;go_ret;exact⟨⟨-1,rfl,Zk ⟨rfl,λ⟨j,hj⟩=>HE.out j t uT hj rfl⟩⟩,rfl⟩
theorem eu(a:Option Addr) (len cap:Nat) (zs:List ByteArray) (t:ByteArray) (w:World) (hr:aw w a len cap zs):
  Calls Tryz.prog 174 #[U a len cap,I t] w (ar (InL zs t) w):=by
 have HR:=G hr;clear hr;go_enter Tryz.func174,Tryz.ntmps174;go_wp2_with fail;refine (xZ a len cap zs t _ HR.out).mono ?_;rintro e w1 ⟨⟨r,rfl,hr⟩,rfl⟩;rcases hr with ⟨h0,hi⟩|⟨rfl,hi⟩
 ·go_wp2;go_ret;exact ar.t hi (Yh _ _)
 ·go_wp2;go_ret;exact ar.f hi (Yh _ _)
theorem oc(d:Ad) (now:Int) (xs:List Xd) (a:Option Addr) (len cap:Nat) (zs:List ByteArray) (w:World) (hr:aV w d.a4 d.l4 d.c4 5 (xs.map xdF)) (hz:aw w a len cap zs) (hG:ens w):
  Calls Tryz.prog 124 #[Zj (Zs d now),U a len cap] w (amX (∀(j:Nat) t,zs[j]?=M t->hit Xd.n xs t=Zi) w):=by
 unfold Zs;have HR:=G hr;have HE:=G hG;have HZ:=G hz;have hlc:=Yo hz.2.1 hz.2.2.1;have hzl:=hz.1;clear hr hG hz;go_enter Tryz.func124,Tryz.ntmps124;go_wp2;go_loopw [11] (λi wr=> ∃k:Nat,k<=len/\i=V O k/\Hid (∀(j:Nat) t,j<k->zs[j]?=M t->hit Xd.n xs t=Zi)/\Hid (Below w.heap.size w wr)/\Hid (wr.heap[w.heap.size]?=M (Ze (Zs d now) 29 (0,0)))) (λi _=>len - (intOf i).toNat);case atStart=>exact⟨0,by omega,rfl,λ_ _ h=>absurd h af,aj _ _,Yf⟩
 case round=>
  obtain⟨k,hk,rfl,HQ,HB,Bk⟩:=hrel;by_cases Zo:k<len
  ·obtain⟨b,o,t,rfl,hb,hx,hc,Zq⟩:=(HZ.below HB.out).at Zo;have HX:=G hx;clear hx;obtain⟨k0,k1,k2,k3,k4,k5⟩:=cs6 Bk;go_wp2_with fail;refine (iB d now xs t w _ HR.out HB.out).mono ?_;rintro e w1 ⟨ZG,hf⟩;clear k0 k1 k2 k3 k4 k5;replace Bk:=upK Bk ZG;replace HB:=upB HB ZG;clear ZG;clear hb hc Zq;obtain⟨T,q,hv⟩:=HE.below HB.out;have hl:=(HE.below HB.out).lt;rcases hf with ⟨hh,x,hx,hn,rfl,z0,z2,z4⟩|⟨hh,rfl⟩
   ·have HH:=G hh;clear hh hx hn z0 z2 z4 hv hl;go_wp2;refine⟨⟨k+1,by omega,by go_num,λj z hj hz=>?_,HB.alloc HB.size _,(Yj _ _ _ (ae Bk.out)).trans Bk.out⟩,by simp[intOf];omega⟩;by_cases e:j=k
    ·subst e;rw[HX.out] at hz;obtain rfl:=Yd hz;exact HH.out
    ·exact HQ.out j z af hz
   ·have HH:=G hh;clear hh;go_wp2;go_ret;exact⟨HB.alloc HB.size _,Zk ⟨λh=>(by have:=h k t HX.out;rw[HH.out] at this;cases this),T,q,rfl⟩⟩
  ·obtain rfl:len=k:=af
   go_wp2;go_ret;exact⟨HB.out,Zl ⟨λj t ht=>HQ.out j t AN ht,rfl⟩⟩
def anc(c:Cl) (t:ByteArray) (r w:World) (e:Ending) (w':World):Prop:=
 Below w.heap.size w w'/\((∃(v:Vd) (va:Option Addr) (vl vc:Nat),aX c t v/\e=Zh (Zn #[Zj #[I v.n,V O v.c,I v.z,I v.k,Zf v.x,I v.m,Zf v.y,U va vl vc],Zf Zi])/\v.n.size<=9223372036854775807/\v.z.size<=9223372036854775807/\aw r va vl vc v.zs)\/((∀v,¬aX c t v)/\e=Zh (Zn #[Zj #[I ⟨#[]⟩,V O 0,I ⟨#[]⟩,I ⟨#[]⟩,Zf Zg,I ⟨#[]⟩,Zf Zg,U J 0 0],Zf Zg])))
theorem ag4(d:Ad) (c:Cl) (t:ByteArray) (r:World) (w:World) (hr:aA r d c.raw) (hrw:Below r.heap.size r w) (hx:aH Xd.n c.xs) (hv:aH Vd.n c.vs) (ZE:∀(j:Nat) v,c.vs[j]?=M v->¬v.n=⟨#[]⟩):
  Calls Tryz.prog 173 #[Zj (Zs d c.now),I t] w (anc c t r w):=by
 unfold Zs;have HR:=G hr;have HRW:=G hrw;obtain⟨HX,HV,HNE⟩:=jg;have HB:=G (Yh w.heap.size w);clear hr hx hv hrw ZE;go_enter Tryz.func173,Tryz.ntmps173;go_wp2_with fail;refine (iB d c.now c.xs t r _ HR.x (HRW.trans ((aM _ _ _).mono HRW.size))).mono ?_;rintro e w1 ⟨hb,hf⟩;obtain⟨ZD,Ν,Zr⟩:=dK hb;have Bk:=G ZD;have Bs:=G Ν;replace HB:=upB HB Zr;clear hb Zr ZD Ν;rcases hf with ⟨hh,x,hx,hn,rfl,z0,z2,z4⟩|⟨hh,rfl⟩
 ·have Κ:=G hx;have HN1:=G hn;clear hx hn hh z0 z2 z4;have apO:=@G _ @aeM;exact jS
 ·have HH1:=G hh;clear hh;have apO:=@G _ @aeL;exact jS
theorem qX(d:Ad) (now:Int) (ps:List Pd) (t:ByteArray) (w:World) (hr:aV w d.a5 d.l5 d.c5 6 (ps.map pdF)) (hl:ps.length<=8) (hp:∀(j:Nat) p,ps[j]?=M p->0<=p.c/\p.c<=1000000):
  Calls Tryz.prog 126 #[Zj (Zs d now),I t] w λe w'=>e=Zh (V O (cpuOf t ps))/\Below w.heap.size w w':=by
 have aut:=@G _ @acY;exact z_
theorem RH(d:Ad) (c:Cl) (t:ByteArray) (w:World) (hr:aA w d c.raw):
  Calls Tryz.prog 127 #[Zj (Zs d c.now),I t] w (ar (Bz c t) w):=by
 have anV:=@G _ @afR;exact dn
theorem Cf(d:Ad) (c:Cl) (p:Pd) (pa:Option Addr) (pl pc:Nat) (w:World) (hr:aA w d c.raw) (hn:aH Nd.n c.ns) (hx:aH Xd.n c.xs) (hv:aH Vd.n c.vs) (ZE:∀(j:Nat) v,c.vs[j]?=M v->¬v.n=⟨#[]⟩) (hp:aw w pa pl pc p.zs):
  Calls Tryz.prog 125 #[Zj (Zs d c.now),Zj #[I p.n,V O p.c,I p.z,U pa pl pc,I p.d,V O p.p]] w (ar (aiN c p) w):=by
 have asj:=@G _ @Nf;exact uz
theorem RF(d:Ad) (c:Cl) (p:Pd) (pa:Option Addr) (pl pc:Nat) (w:World) (hr:aA w d c.raw) (hn:aH Nd.n c.ns) (hx:aH Xd.n c.xs) (hv:aH Vd.n c.vs) (ZE:∀(j:Nat) v,c.vs[j]?=M v->¬v.n=⟨#[]⟩) (hp:aw w pa pl pc p.zs):
  Calls Tryz.prog 131 #[Zj (Zs d c.now),Zj #[I p.n,V O p.c,I p.z,U pa pl pc,I p.d,V O p.p]] w (ar (am3 c p) w):=by
 have asj:=@G _ @Nc;exact uz
theorem RM(d:Ad) (c:Cl) (n:Nd) (pa:Option Addr) (pl pc:Nat) (w:World) (hr:aA w d c.raw) (hv:aH Vd.n c.vs) (hp:aw w pa pl pc n.zs):
  Calls Tryz.prog 130 #[Zj (Zs d c.now),Zj #[I n.n,I n.z,V O n.c,V O n.s,V O n.u,Zf n.d,U pa pl pc]] w (ar (Sd c n) w):=by
 unfold Zs;have HR:=G hr;have HV:=G hv;have HP:=G hp;have hlc:=Yo hp.2.1 hp.2.2.1;have hzl:=hp.1;clear hr hv hp;go_enter Tryz.func130,Tryz.ntmps130;go_wp2;go_loopw [12] (λi wr=> ∃k:Nat,k<=pl/\i=V O k/\Hid (∀(j:Nat) t,j<k->n.zs[j]?=M t->∃(i:Nat) (v:Vd),c.vs[i]?=M v/\v.n=t/\(n.d=Zi\/InL v.zs n.n))/\Hid (Below w.heap.size w wr)/\Hid (wr.heap[w.heap.size]?=M (Ze (Zs d c.now) 29 (0,0)))/\Hid (wr.heap[w.heap.size+1]?=M (Ze (nov n pa pl pc) 81 (0,0)))) (λi _=>pl - (intOf i).toNat);case atStart=>exact⟨0,by omega,rfl,λ_ _ h=>absurd h af,aM _ _ _,du _ _ _,cL _ _ _⟩
 case round=>
  obtain⟨k,hk,rfl,HQ,HB,Bk,Bn⟩:=hrel;by_cases Zo:k<pl
  ·obtain⟨b,o,t,rfl,hb,hx,hc,Zq⟩:=(HP.below HB.out).at Zo;have HXt:=G hx;clear hx Zq;have ao5:=@G _ @Xp;exact gq
  ·exact QB
theorem n_(d:Ad) (now:Int) (vs:List Vd) (t:ByteArray) (w:World) (hr:aV w d.a3 d.l3 d.c3 8 (vs.map vdF)) (hl:vs.length<=8):
  Calls Tryz.prog 129 #[Zj (Zs d now),I t] w λe w'=>e=Zh (V O (onOf t vs))/\Below w.heap.size w w':=by
 have ard:=@G _ @VH;exact qf
theorem vO(d:Ad) (c:Cl) (w:World) (hr:aA w d c.raw) (hn:aH Nd.n c.ns) (hx:aH Xd.n c.xs) (hv:aH Vd.n c.vs) (ZE:∀(j:Nat) v,c.vs[j]?=M v->¬v.n=⟨#[]⟩) (arJ:c.ps.length<=8) (hpc:∀(j:Nat) p,c.ps[j]?=M p->0<=p.c/\p.c<=1000000) (hG:ens w):
  Calls Tryz.prog 69 #[Zj (Zs d c.now)] w (ar (ru c) w):=by
 have υ:=@G _ @aca;exact bQ
theorem ow(d:Ad) (c:Cl) (w:World) (hr:aA w d c.raw) (hn:aH Nd.n c.ns) (ar3:c.vs.length<=8):
  Calls Tryz.prog 70 #[Zj (Zs d c.now)] w (ar (pO c) w):=by
 have υ:=@G _ @ab_;exact bQ
theorem rh(d:Ad) (c:Cl) (w:World) (hr:aA w d c.raw) (hn:aH Nd.n c.ns) (hx:aH Xd.n c.xs) (hv:aH Vd.n c.vs) (ZE:∀(j:Nat) v,c.vs[j]?=M v->¬v.n=⟨#[]⟩):
  Calls Tryz.prog 71 #[Zj (Zs d c.now)] w (ar (oi c) w):=by
 have anV:=@G _ @afQ;exact dn
theorem Ci(d:Ad) (c:Cl) (w:World) (hr:aA w d c.raw):
  Calls Tryz.prog 67 #[Zj (Zs d c.now)] w (ar (cP c) w):=by
 unfold Zs;obtain⟨HR,HB⟩:=lp;clear hr;go_enter Tryz.func67,Tryz.ntmps67;go_wp2_with fail;refine (wS _ _ _ c.ns 6 _ (HR.n.below (HB.trans ((aj _ _).mono HB.size)))).mono ?_;rintro e w1 ⟨r,rfl,hi,hb⟩;have aov:=@G _ @N9;exact fT
theorem oa(d:Ad) (c:Cl) (w:World) (hr:aA w d c.raw) (hG:ens w):
  Calls Tryz.prog 39 #[Zj (Zs d c.now)] w (ar (au c) w):=by
 unfold Zs;obtain⟨HR,HE,HB⟩:=nP;clear hr hG;go_enter Tryz.func39,Tryz.ntmps39;go_wp2_with fail;refine (cG c.now 0 1000000 _).mono ?_;have auL:=@G _ @adW;exact Ao
structure Ers (w:World) (E:Nat->Addr):Prop where
 v0:w.cell? ⟨1,0,J⟩=M (.iface 217 (Zm (M (E 0))))
 v1:w.cell? ⟨2,0,J⟩=M (.iface 217 (Zm (M (E 1))))
 v2:w.cell? ⟨3,0,J⟩=M (.iface 217 (Zm (M (E 2))))
 v3:w.cell? ⟨6,0,J⟩=M (.iface 217 (Zm (M (E 3))))
 v4:w.cell? ⟨7,0,J⟩=M (.iface 217 (Zm (M (E 4))))
 v5:w.cell? ⟨8,0,J⟩=M (.iface 217 (Zm (M (E 5))))
 v6:w.cell? ⟨4,0,J⟩=M (.iface 217 (Zm (M (E 6))))
 v7:w.cell? ⟨0,0,J⟩=M (.iface 217 (Zm (M (E 7))))
 v8:w.cell? ⟨9,0,J⟩=M (.iface 217 (Zm (M (E 8))))
 v9:w.cell? ⟨5,0,J⟩=M (.iface 217 (Zm (M (E 9))))
 blk:∀i,i<10->∃cs T,w.heap[(E i).block]?=M (Ze cs T (0,0))
 inj:∀i j,i<10->j<10->E i=E j->i=j
theorem Ers.below(h:Ers w E) (hb:Below w.heap.size w w'):Ers w' E:=
 ⟨(ah hb (a_ h.v0)).trans h.v0,(ah hb (a_ h.v1)).trans h.v1,(ah hb (a_ h.v2)).trans h.v2,(ah hb (a_ h.v3)).trans h.v3,(ah hb (a_ h.v4)).trans h.v4,(ah hb (a_ h.v5)).trans h.v5,(ah hb (a_ h.v6)).trans h.v6,(ah hb (a_ h.v7)).trans h.v7,(ah hb (a_ h.v8)).trans h.v8,(ah hb (a_ h.v9)).trans h.v9,λi hi=>by
  obtain⟨cs,T,h1⟩:=h.blk i hi;exact⟨cs,T,(hb.block _ (ae h1)).trans h1⟩,h.inj⟩
theorem Ers.ens(h:Ers w E):ens w:=⟨_,_,h.v2⟩
theorem RC(v:Value) (w:World):(Extern.ReflectliteType.typeOf #[.iface 217 v]).run Tryz.prog w=.ok (.iface 189 (Zj #[Zm (M ⟨10,217,J⟩)])) w:=by kernel_rfl
def amR:Array Value->Sem Value:=Extern.ReflectliteType.method λt=>do Rtype.noPackHeld "Comparable" t;pure (Zf (<-typeInfo t).comparable)
theorem qY(w:World):(amR #[Zj #[Zm (M ⟨10,217,J⟩)]]).run Tryz.prog w=.ok (Zf Zi) w:=by kernel_rfl
theorem jj(v:Value) (w:World):(Go.method 361 189 v "Comparable").run Tryz.prog w=.ok (246,v) w:=by kernel_rfl
theorem RE:(Tryz.prog.info? 217).map (·.comparable)=M Zi:=by kernel_rfl
theorem RD:(Tryz.prog.info? 249).map (·.size)=M 1:=by kernel_rfl
theorem amJ(v:Value) (xT:TypeId) (w:World):(Instr.typeAssert (.iface 217 v) xT 191 Zi).run Tryz.prog w=.ok (Zn #[.nilIface,Zf Zg]) w:=run_typeAssert_lacksB Tryz.underlying191 (by kernel_rfl) (by kernel_rfl) v xT w
theorem B4(v:Value) (xT:TypeId) (w:World):(Instr.typeAssert (.iface 217 v) xT 194 Zi).run Tryz.prog w=.ok (Zn #[.nilIface,Zf Zg]) w:=run_typeAssert_lacksB Tryz.underlying194 (by kernel_rfl) (by kernel_rfl) v xT w
theorem xH(v:Value) (xT:TypeId) (w:World):(Instr.typeAssert (.iface 217 v) xT 196 Zi).run Tryz.prog w=.ok (Zn #[.nilIface,Zf Zg]) w:=run_typeAssert_lacksB Tryz.underlying196 (by kernel_rfl) (by kernel_rfl) v xT w
theorem fC(a:Addr) (w:World)  :
  Calls Tryz.prog 50 #[.iface 217 (Zm (M (a))),.iface 217 (Zm (M (a)))] w λe w'=>e=Zh (Zf Zi)/\w'=w:=by
 obtain⟨i,hi,av3⟩:=YE.1 RE;obtain⟨j,hj,hjs⟩:=YE.1 RD;obtain⟨h8,h32,tT,cT,mR⟩:=ahJ;have heq:=run_eql_iface_ptr_same (P:=Tryz.prog) w a Tryz.underlying56 Tryz.underlying217 hi av3 hj;exact Qj
theorem RB(a b:Addr) (ca cb:Array Value) (ta tb:TypeId) (w:World) (ZE:a≠b) (ha:w.heap[a.block]?=M (Ze ca ta (0,0))) (hb:w.heap[b.block]?=M (Ze cb tb (0,0))):
  Calls Tryz.prog 50 #[.iface 217 (Zm (M (a))),.iface 217 (Zm (M (b)))] w λe w'=>e=Zh (Zf Zg)/\w'=w:=by
 obtain⟨i,hi,av3⟩:=YE.1 RE;obtain⟨j,hj,hjs⟩:=YE.1 RD;obtain⟨h8,h32,tT,cT,mR⟩:=ahJ;have nE:=amJ;have uE:=B4;have vE:=xH;have heq:=run_eql_iface_ptr_other (P:=Tryz.prog) w Tryz.underlying56 Tryz.underlying217 hi av3 hj (by rw[hjs];decide) ZE ha hb;exact Qj
theorem aG(h:Ers w E) (i j:Nat) (hi:i<10) (hj:j<10) (ZE:¬i=j):
  Calls Tryz.prog 50 #[.iface 217 (Zm (M (E i))),.iface 217 (Zm (M (E j)))] w λe w'=>e=Zh (Zf Zg)/\w'=w:=by
 obtain⟨ca,ta,h1⟩:=h.blk i hi;obtain⟨cb,tb,h2⟩:=h.blk j hj;exact RB (E i) (E j) ca cb ta tb w (λe=>ZE (h.inj i j hi hj e)) h1 h2
theorem anq(E:Nat->Addr) (w:World) (h:Ers w E):Calls Tryz.prog 26 #[.iface 217 (Zm (M (E 0)))] w λe w'=>e=Zh (V O 2)/\w'=w:=by
 have aoo:=@G _ @aeB;exact eO
theorem anp(E:Nat->Addr) (w:World) (h:Ers w E):Calls Tryz.prog 26 #[.iface 217 (Zm (M (E 1)))] w λe w'=>e=Zh (V O 1)/\w'=w:=by
 have aoo:=@G _ @aeA;exact eO
theorem ano(E:Nat->Addr) (w:World) (h:Ers w E):Calls Tryz.prog 26 #[.iface 217 (Zm (M (E 2)))] w λe w'=>e=Zh (V O 6)/\w'=w:=by
 have aoo:=@G _ @aez;exact eO
theorem ann(E:Nat->Addr) (w:World) (h:Ers w E):Calls Tryz.prog 26 #[.iface 217 (Zm (M (E 3)))] w λe w'=>e=Zh (V O 7)/\w'=w:=by
 have aoo:=@G _ @aey;exact eO
theorem anm(E:Nat->Addr) (w:World) (h:Ers w E):Calls Tryz.prog 26 #[.iface 217 (Zm (M (E 4)))] w λe w'=>e=Zh (V O 9)/\w'=w:=by
 have aoo:=@G _ @aex;exact eO
theorem anl(E:Nat->Addr) (w:World) (h:Ers w E):Calls Tryz.prog 26 #[.iface 217 (Zm (M (E 5)))] w λe w'=>e=Zh (V O 11)/\w'=w:=by
 have aoo:=@G _ @aew;exact eO
theorem ank(E:Nat->Addr) (w:World) (h:Ers w E):Calls Tryz.prog 26 #[.iface 217 (Zm (M (E 6)))] w λe w'=>e=Zh (V O 7)/\w'=w:=by
 have aoo:=@G _ @aev;exact eO
theorem anj(E:Nat->Addr) (w:World) (h:Ers w E):Calls Tryz.prog 26 #[.iface 217 (Zm (M (E 7)))] w λe w'=>e=Zh (V O 11)/\w'=w:=by
 have aoo:=@G _ @aeu;exact eO
theorem ani(E:Nat->Addr) (w:World) (h:Ers w E):Calls Tryz.prog 26 #[.iface 217 (Zm (M (E 8)))] w λe w'=>e=Zh (V O 10)/\w'=w:=by
 have aoo:=@G _ @aet;exact eO
theorem gY(E:Nat->Addr) (i:Nat) (w:World) (h:Ers w E) (hi:i<9):Calls Tryz.prog 26 #[.iface 217 (Zm (M (E i)))] w λe w'=>e=Zh (V O (aZ i))/\w'=w:=by
 match i,hi with
 | 0,_=>exact anq E w h
 | 1,_=>exact anp E w h
 | 2,_=>exact ano E w h
 | 3,_=>exact ann E w h
 | 4,_=>exact anm E w h
 | 5,_=>exact anl E w h
 | 6,_=>exact ank E w h
 | 7,_=>exact anj E w h
 | 8,_=>exact ani E w h
theorem dL(E:Nat->Addr) (i:Nat) (cc:Int) (hcc:cc=aZ i) (w:World) (h:Ers w E) (hi:i<9):Calls Tryz.prog 22 #[.iface 217 (Zm (M (E i)))] w λe w'=>e=Zh (Zj #[U J 0 0,U J 0 0,U J 0 0,U J 0 0,U J 0 0,V O 0,I ⟨#[]⟩,V O cc])/\Below w.heap.size w w':=by
 have HE:=G (h.below (aj w (Ze #[U J 0 0,U J 0 0,U J 0 0,U J 0 0,U J 0 0,V O 0,I ⟨#[]⟩,V O 0] 33)));clear h;go_enter Tryz.func22,Tryz.ntmps22;go_wp2_with fail;refine (gY E i _ HE.out hi).mono ?_;rintro e w' ⟨rfl,rfl⟩;rw[<-hcc];clear hcc;go_wp2;exact bodyPost_ret (v:=Zj #[U J 0 0,U J 0 0,U J 0 0,U J 0 0,U J 0 0,V O 0,I ⟨#[]⟩,V O cc]) (by simp[results,Tryz.results22,go_sem]) rfl ⟨rfl,aj _ _⟩
end Rc
theorem vF(s:ByteArray) (w:World):
  Calls Tryz.prog 44 #[I s] w λe w'=>e=Zh (Zf (decide (8000<s.size)))/\w=w':=by
 go_enter Tryz.func44,Tryz.ntmps44;go_wp2;go_ret;exact⟨by simp;omega,rfl⟩
theorem n8(s:ByteArray) (w:World) (h:8000<s.size):
  Calls Tryz.prog 44 #[I s] w λe w'=>e=Zh (Zf Zi)/\w=w':=by
 have:=vF s w;rw[decide_eq_true h] at this;exact this
theorem mg(s:ByteArray) (w:World) (h:¬8000<s.size):
  Calls Tryz.prog 44 #[I s] w λe w'=>e=Zh (Zf Zg)/\w=w':=by
 have:=vF s w;rw[decide_eq_false h] at this;exact this
namespace Rc
def oC(c:Cl) (t:ByteArray):Prop:=∃(i:Nat) (x:Xd),c.xs[i]?=M x/\x.n=t
theorem oC.no {c:Cl} {t:ByteArray} (hr:au c) (h:hit Xd.n c.xs t=Zg):¬oC c t:=λ⟨i,x,h1,h2⟩=>by
 have:=(bj hr.2.1.2.2.2.1.2.2 h1 h2).2;rw[h] at this;cases this
def AskWhy(c:Cl) (t:ByteArray):Nat->Prop
 | 0=>8000<t.size
 | 1=>¬8000<t.size/\¬au c
 | 2=>¬8000<t.size/\au c/\¬oC c t
 | _=>False
def anR(c:Cl) (t:ByteArray) (E:Nat->Addr) (w:World) (e:Ending) (w':World):Prop:=
 Below w.heap.size w w'/\((∃i,i<9/\AskWhy c t i/\e=Zh (Zn #[Zj #[I ⟨#[]⟩,V O 0,I ⟨#[]⟩,Zf Zg,I ⟨#[]⟩],.iface 217 (Zm (M (E i)))]))\/
  (¬8000<t.size/\au c/\∃x:Xd,c.xs[pl Xd.n c.xs t]?=M x/\x.n=t/\e=Zh (Zn #[Zj #[I x.n,V O x.z,I x.k,Zf x.x,I x.v],.nilIface])/\x.n.size<=9223372036854775807/\x.k.size<=9223372036854775807/\x.v.size<=9223372036854775807))
theorem RO(d:Ad) (c:Cl) (t:ByteArray) (E:Nat->Addr) (w:World) (hr:aA w d c.raw) (hG:Ers w E):
  Calls Tryz.prog 21 #[Zj (Zs d c.now),I t] w (anR c t E w):=by
 unfold Zs;obtain⟨HR,HE,HB⟩:=nP;clear hr hG;by_cases hl:8000<t.size
 ·have ev:=(HE.below (aM w (Ze (Zs d c.now) 29) (Ze #[I ⟨#[]⟩,V O 0,I ⟨#[]⟩,Zf Zg,I ⟨#[]⟩] 47))).v0;go_enter Tryz.func21,Tryz.ntmps21;go_wp2_with fail;refine (n8 t _ hl).mono ?_;rintro e w1 ⟨rfl,rfl⟩;go_wp2;go_region;go_wp2;exact bodyPost_ret (v:=Zn #[Zj #[I ⟨#[]⟩,V O 0,I ⟨#[]⟩,Zf Zg,I ⟨#[]⟩],.iface 217 (Zm (M (E 0)))]) AL rfl ⟨Below.gT (aM _ _ _),Zl ⟨0,by decide,hl,rfl⟩⟩
 go_enter Tryz.func21,Tryz.ntmps21;go_wp2_with fail;refine (mg t _ hl).mono ?_;rintro e w1 ⟨rfl,rfl⟩;go_wp2_with fail;refine (oa d c _ (HR.below (HB.trans ((aM _ _ _).mono HB.size))) (HE.below (HB.trans ((aM _ _ _).mono HB.size))).ens).mono ?_;rintro e w1 ⟨r,rfl,hi,hb⟩;have apl:=@G _ @Tt;exact iH
end Rc
namespace Gi
section
variable {R:Rs} {sp:Tmp} {ex:Ex} {P:Program} {ops:Array Oper} {Q:Exit->Act->World->Prop} {W:World} {a0:Act} {back:Option Oper}
end
def Bel(w w':World):Prop:=Below w.heap.size w w'
theorem Bel.rel(sp:Tmp):Rel (λ_=>Bel) sp:=⟨λ_=>Yh _ _,λh k=>Below.trans h (Below.mono k (Below.size h)),λh=>Below.size h,λ_=>(Yh _ _).drew,λ_ _ _ h=>h,λ_ _ _ _ _ h=>h⟩
end Gi
namespace Rc
section
variable {w:World} {a:Option Addr} {len cap m:Nat} {rs:List (List Fv)}
end
theorem yz {o:Oper} {a:Act} {K:Act->World->Prop} {Q:Exit->Act->World->Prop} (s x:Operand) (t T:TypeId) (ho:o.op=.call { callee:=.builtin .append,args:=#[s,x],argTypes:=#[t,t] }) (i:TypeInfo) (z:Value) (m bytes:Nat) (ht:Tryz.prog.underlying t=M (.slice T)) (hi:Tryz.prog.info? T=M i) (hz:i.zero=M z)
  (Υ:i.size=m) (hby:i.bytes=bytes) (hzs:z.cells.size=m) (Zq:0<m) (hT:¬T=9) (base:Nat) (v0:Value) (hs:a.eval s=v0) (ζ:w.ownsRow base T m v0 0 []) (δ:base<=w.heap.size) {ad:Addr} {len cap:Nat} {rs:List (List Fv)} (hx:a.eval x=U (M ad) len cap) (hr:aV w (M ad) len cap m rs) (hm:∀(j:Nat) r,rs[j]?=M r->r.length=m/\iA r) (hl:len<=8) (hb8:bytes<=1000)
  (h:∀a' c' w',av w' a' len c' m T rs (λk=>base<=k/\k<w'.heap.size)->w.grownBy w' v0.ownBlock->K (a.put o.dst (U a' len c')) w'):o.wp Tryz.prog a w K Q:=by
 have hlen:((rs.map eK).flatten).length=len*m:=by rw[eH (kv λj r hj=>(hm j r hj).1),Yq,hr.1]
 have ZE:rs=[]\/∃b o,ad=(⟨b,o,J⟩:Addr):=by
  rcases hr.2.2.2 with h1|⟨b,o,e,_⟩
  ·exact Zl h1
  ·cases e;exact Zk ⟨b,o,rfl⟩
 have Φ:∀(j:Nat) u,((rs.map eK).flatten)[j]?=M u->w.cell? (ad.add j)=M u:=by
  rcases ZE with rfl|⟨b,o,rfl⟩
  ·intro j u hu;simp at hu
  ·exact pH hr hm
 refine wp_append_own w s x t ho base T i z m bytes ht hi hz Υ hby hzs Zq v0 0 [] hs ζ ad len cap (rs.map eK).flatten hx hlen Φ (iS hr hm w (λ_=>True)).one br (by have:(0+len)*bytes<=8*1000:=Nat.mul_le_mul af hb8;omega) δ ?_;intro v' w' ho' hg' _;rw[Yp,List.nil_append] at ho';obtain⟨a',c',rfl,hR⟩:=(iS hr hm w' (λk=>base<=k/\k<w'.heap.size)).own ho' hr.1.symm hT (λg hg=>ho'.lt g hg);rw[hr.1] at hR ⊢;exact h a' c' w' hR hg'
def lM(B:Nat) (len m:Nat) (T:TypeId) (rs:List (List Fv)):Gi.Fact:=λv w l h=> ∃a c,v=U a len c/\av w a len c m T rs (λk=>l<=k/\k<h)/\B<=l
theorem lM.mono(ex:Gi.Ex) (s:Option Tmp) (B len m:Nat) (T:TypeId) (rs:List (List Fv)):Gi.Fact.bT (λ_=>Gi.Bel) ex s (lM B len m T rs):=by
 rintro s' _ _ _ v w w' l h ⟨a,c,h1,h2,h3⟩ hb;exact⟨a,c,h1,h2.below hb,h3⟩
def ClF(B:Nat) (c:Cl):Gi.Fact:=λv w _ _=> ∃d:Ad,v=Zj #[U d.a1 d.l1 d.c1,U d.a2 d.l2 d.c2,U d.a3 d.l3 d.c3,U d.a4 d.l4 d.c4,U d.a5 d.l5 d.c5,V O c.now]/\eL w d c.raw (λk=>B<=k)
theorem ClF.mono(ex:Gi.Ex) (s:Option Tmp) (B:Nat) (c:Cl):Gi.Fact.bT (λ_=>Gi.Bel) ex s (ClF B c):=by
 rintro s' _ _ _ v w w' l h ⟨d,h1,h2⟩ hb;exact⟨d,h1,h2.below hb⟩
theorem Cj(d:Ad) (c:Cl) (w:World) (hr:aA w d c.raw) (hs:Sm c):
  Calls Tryz.prog 96 #[Zj (Zs d c.now)] w λe w'=> ∃d',e=Zh (Zj #[U d'.a1 d'.l1 d'.c1,U d'.a2 d'.l2 d'.c2,U d'.a3 d'.l3 d'.c3,U d'.a4 d'.l4 d'.c4,U d'.a5 d'.l5 d'.c5,V O c.now])/\eL w' d' c.raw (λk=>w.heap.size<=k)/\Below w.heap.size w w':=by
 unfold Zs;have HR:=G hr;have HS:=G hs;have hl1:c.ns.length=d.l1:=by simpa using (show (c.ns.map ndF).length=d.l1 from hr.n.1)
 have hl2:c.ks.length=d.l2:=by simpa using (show (c.ks.map kdF).length=d.l2 from hr.k.1)
 have hl3:c.vs.length=d.l3:=by simpa using (show (c.vs.map vdF).length=d.l3 from hr.v.1)
 have hl4:c.xs.length=d.l4:=by simpa using (show (c.xs.map xdF).length=d.l4 from hr.x.1)
 have hl5:c.ps.length=d.l5:=by simpa using (show (c.ps.map pdF).length=d.l5 from hr.p.1)
 clear hr hs;obtain⟨i2,hi2⟩:=YE.1 RJ;obtain⟨i4,hi4⟩:=YE.1 jl;have HI2:=G hi2;have HI4:=G hi4;clear hi2 hi4;obtain⟨W,θ⟩:∃W,W=(w.alloc (Ze (Zs d c.now) 29)).alloc (Ze (Zd J 0 0 J 0 0 J 0 0 J 0 0 J 0 0 0) 29):=⟨_,rfl⟩;have HB:Hid (Below w.heap.size w W):=by rw[θ];exact aM _ _ _
 have Bk:Hid (W.heap[w.heap.size]?=M (Ze (Zs d c.now) 29 (0,0))):=by rw[θ];exact du _ _ _
 obtain⟨Br,hWs⟩:=O4;go_enter Tryz.func96,Tryz.ntmps96;go_wp2_with fail;rw[<-θ];clear θ;rename_i K0 hK0;refine Gi.bS (ex:=λ_=>J) (Gi.Bel.rel 0) aW rfl rfl aW aW ?_;refine' Gi.Grow.stepC _ rfl ?_ ?_;rotate_left 1
 ·exact kT
 refine' Gi.Grow.stepC _ rfl ?_ ?_;rotate_left 1
 ·have aoI:=@G _ @aaP;exact fw
 refine Gi.Grow.step (lM W.heap.size d.l1 7 81 (c.ns.map ndF)) rfl (lM.mono _ _ _ _ _ _ _) ?_ ?_
 ·have apN:=@G _ @VW;exact jN
 refine' Gi.Grow.stepC _ rfl ?_ ?_;rotate_left 1
 ·exact kT
 refine' Gi.Grow.stepC _ rfl ?_ ?_;rotate_left 1
 ·have aoI:=@G _ @aaO;exact fw
 refine Gi.Grow.step (lM W.heap.size d.l2 4 72 (c.ks.map kdF)) rfl (lM.mono _ _ _ _ _ _ _) ?_ ?_
 ·have apN:=@G _ @VV;exact jN
 refine' Gi.Grow.stepC _ rfl ?_ ?_;rotate_left 1
 ·exact kT
 refine' Gi.Grow.stepC _ rfl ?_ ?_;rotate_left 1
 ·have aoI:=@G _ @aaN;exact fw
 refine Gi.Grow.step (lM W.heap.size d.l3 8 37 (c.vs.map vdF)) rfl (lM.mono _ _ _ _ _ _ _) ?_ ?_
 ·have apN:=@G _ @VU;exact jN
 refine' Gi.Grow.stepC _ rfl ?_ ?_;rotate_left 1
 ·exact kT
 refine' Gi.Grow.stepC _ rfl ?_ ?_;rotate_left 1
 ·have aoI:=@G _ @aaM;exact fw
 refine Gi.Grow.step (lM W.heap.size d.l4 5 47 (c.xs.map xdF)) rfl (lM.mono _ _ _ _ _ _ _) ?_ ?_
 ·have apN:=@G _ @VT;exact jN
 refine' Gi.Grow.stepC _ rfl ?_ ?_;rotate_left 1
 ·exact kT
 refine' Gi.Grow.stepC _ rfl ?_ ?_;rotate_left 1
 ·have aoI:=@G _ @aaL;exact fw
 refine Gi.Grow.step (lM W.heap.size d.l5 6 102 (c.ps.map pdF)) rfl (lM.mono _ _ _ _ _ _ _) ?_ ?_
 ·have apN:=@G _ @VS;exact jN
 refine' Gi.Grow.stepC _ rfl ?_ ?_;rotate_left 1
 ·exact kT
 refine' Gi.Grow.stepC _ rfl ?_ ?_;rotate_left 1
 ·have aoI:=@G _ @aaK;exact fw
 refine Gi.Grow.step (ClF W.heap.size c) rfl (ClF.mono _ _ _ _) ?_ ?_
 ·refine Gi.Obl.plain rfl ?_;intro ac wg K lo hi Zq hW hpr hf hap hK;clear Zq hpr;have e5:=hf 5 ag;simp[Gi.slotFact,Yg] at e5;have e8:=hf 8 ag;simp[Gi.slotFact,Yg] at e8;have e11:=hf 11 ag;simp[Gi.slotFact,Yg] at e11;have e14:=hf 14 ag;simp[Gi.slotFact,Yg] at e14;have e17:=hf 17 ag;simp[Gi.slotFact,Yg] at e17;have e19:=hf 19 ag;simp[Gi.slotFact,Yg] at e19;clear hf;obtain⟨a1,c1,e5,ho1,hB1⟩:=e5;obtain⟨a2,c2,e8,ho2,hB2⟩:=e8;obtain⟨a3,c3,e11,ho3,hB3⟩:=e11;obtain⟨a4,c4,e14,ho4,hB4⟩:=e14;obtain⟨a5,c5,e17,ho5,hB5⟩:=e17;have ao6:∀t∈[5,8,11,14,17],∀t'∈[5,8,11,14,17],¬t=t'->hi t<=lo t'\/hi t'<=lo t:=by
   intro t ht t' ht' ZE;refine hap t ?_ t' ?_ ?_ ?_ ZE
   ·simp only[YT,List.not_mem_nil,or_false] at ht;rcases ht with rfl|rfl|rfl|rfl|rfl <;> decide
   ·simp only[YT,List.not_mem_nil,or_false] at ht';rcases ht' with rfl|rfl|rfl|rfl|rfl <;> decide
   ·simp only[YT,List.not_mem_nil,or_false] at ht;rcases ht with rfl|rfl|rfl|rfl|rfl <;> rfl
   ·simp only[YT,List.not_mem_nil,or_false] at ht';rcases ht' with rfl|rfl|rfl|rfl|rfl <;> rfl
  clear hap;have q01:=ao6 5 ag 8 ag ag;have q02:=ao6 5 ag 11 ag ag;have q03:=ao6 5 ag 14 ag ag;have q04:=ao6 5 ag 17 ag ag;have q12:=ao6 8 ag 11 ag ag;have q13:=ao6 8 ag 14 ag ag;have q14:=ao6 8 ag 17 ag ag;have q23:=ao6 11 ag 14 ag ag;have q24:=ao6 11 ag 17 ag ag;have q34:=ao6 14 ag 17 ag ag;clear ao6;have hC:eL wg ⟨a1,d.l1,c1,a2,d.l2,c2,a3,d.l3,c3,a4,d.l4,c4,a5,d.l5,c5⟩ c.raw (λk=>W.heap.size<=k):=by
   refine⟨λk=>if lo 5<=k/\k<hi 5 then 1 else if lo 8<=k/\k<hi 8 then 2 else if lo 11<=k/\k<hi 11 then 3 else if lo 14<=k/\k<hi 14 then 4 else 5,?_,?_,?_,?_,?_⟩
   ·exact ho1.bC (λk _ s=>⟨by have s1:lo 5<=k:=s.1;show W.heap.size<=k;omega,by have s1:lo 5<=k:=s.1;have s2:k<hi 5:=s.2;show (if lo 5<=k/\k<hi 5 then 1 else if lo 8<=k/\k<hi 8 then 2 else if lo 11<=k/\k<hi 11 then 3 else if lo 14<=k/\k<hi 14 then 4 else 5)=1;rw[if_pos ⟨s1,s2⟩]⟩)
   ·exact ho2.bC (λk _ s=>⟨by have s1:lo 8<=k:=s.1;show W.heap.size<=k;omega,by have s1:lo 8<=k:=s.1;have s2:k<hi 8:=s.2;show (if lo 5<=k/\k<hi 5 then 1 else if lo 8<=k/\k<hi 8 then 2 else if lo 11<=k/\k<hi 11 then 3 else if lo 14<=k/\k<hi 14 then 4 else 5)=2;rw[if_neg af];rw[if_pos ⟨s1,s2⟩]⟩)
   ·exact ho3.bC (λk _ s=>⟨by have s1:lo 11<=k:=s.1;show W.heap.size<=k;omega,by have s1:lo 11<=k:=s.1;have s2:k<hi 11:=s.2;show (if lo 5<=k/\k<hi 5 then 1 else if lo 8<=k/\k<hi 8 then 2 else if lo 11<=k/\k<hi 11 then 3 else if lo 14<=k/\k<hi 14 then 4 else 5)=3;rw[if_neg af];rw[if_neg af];rw[if_pos ⟨s1,s2⟩]⟩)
   ·exact ho4.bC (λk _ s=>⟨by have s1:lo 14<=k:=s.1;show W.heap.size<=k;omega,by have s1:lo 14<=k:=s.1;have s2:k<hi 14:=s.2;show (if lo 5<=k/\k<hi 5 then 1 else if lo 8<=k/\k<hi 8 then 2 else if lo 11<=k/\k<hi 11 then 3 else if lo 14<=k/\k<hi 14 then 4 else 5)=4;rw[if_neg af];rw[if_neg af];rw[if_neg af];rw[if_pos ⟨s1,s2⟩]⟩)
   ·exact ho5.bC (λk _ s=>⟨by have s1:lo 17<=k:=s.1;show W.heap.size<=k;omega,by have s1:lo 17<=k:=s.1;have s2:k<hi 17:=s.2;show (if lo 5<=k/\k<hi 5 then 1 else if lo 8<=k/\k<hi 8 then 2 else if lo 11<=k/\k<hi 11 then 3 else if lo 14<=k/\k<hi 14 then 4 else 5)=5;rw[if_neg af];rw[if_neg af];rw[if_neg af];rw[if_neg af]⟩)
  have HC:=G hC;clear hC ho1 ho2 ho3 ho4 ho5 q01 q02 q03 q04 q12 q13 q14 q23 q24 q34 hB1 hB2 hB3 hB4 hB5;go_simp;exact hK _ _ (Yh _ _) ⟨_,rfl,HC.out⟩
 refine Gi.Grow.done ?_;intro q wz lo hi hW hf hap;clear hap;simp only[YL] at hf;obtain⟨axP,-⟩:=hf;obtain⟨d',h20,ho⟩:=axP bU;have HO:=G ho;have HBz:=G (HB.trans (Below.mono hW HB.size));have gr:=(Below.block hW _ (ae Br.out)).trans Br.out;obtain⟨r0,r1,r2,r3,r4,r5⟩:=cs6 gr;have f0:=ak gr 0;have f1:=ak gr 1;have f2:=ak gr 2;have f3:=ak gr 3;have f4:=ak gr 4;have f5:=ak gr 5;clear gr ho hW;intro K hK;rw[if_pos cF];simp only[Gi.aL,YQ,Y0,Yr,Yx,Yy,h20];have aqP:=@G _ @aeY;exact l_
def am6(Is:Co->Prop) (w:World) (e:Ending) (w':World):Prop:=∃g o,e=Zh (Zj #[U g.a1 g.l1 g.c1,U g.a2 g.l2 g.c2,U g.a3 g.l3 g.c3,U g.a4 g.l4 g.c4,U g.a5 g.l5 g.c5,V O o.c.now,I o.n,V O o.p])/\Is o/\eL w' g o.c.raw (λk=>w.heap.size<=k)/\Below w.heap.size w w'
end Rc
end Go.Proofs.YtcnmlpiffcldkaaGreatDoor
