import Derived.Test.YtfhdfmdaiookjaaGreatDoorQ2
import Derived.Test.YtfhdfmdaiookjaaGreatDoorRows
import Derived.WalkKit
import Derived.WalkSpells
import Derived.OwnWalk
import Derived.Outline
import Derived.Laws.Cover1
import Derived.Lib.BufferWrite
import Derived.Laws.CopyOwn
import Derived.Deep.QuietTactic
import Derived.BigQuiet
import Derived.WalkSmall
import Derived.Laws.AppendOwn
import Derived.Laws.AppendOwnNone
import Derived.Deep.AppendLies
import Derived.Deep.RegionWith
import Derived.LaidEql
import Derived.Stop.Asserts
import Derived.RowKitTokens
/-
 What NameRight of the program and of the specification answer: yes just where a text is a name: 1 to 20 bytes, the first a lower letter, the others lower letters, digits or '_'; at every text.
-/
set_option maxRecDepth 100000
set_option maxHeartbeats 12800000
open Bool renaming false→Y_,true→Zb
open Go.Ending renaming returned→Za
open Go.IntKind renaming i64→Y6
open Go.Obj renaming cells→Y8
open Go.Value renaming string→I,slice→J,int→Y7,bool→Y9,agg→Zc,pointer→Zf,tuple→Zg
open Option renaming none→U,some→Y5
open Or renaming inr→Zd,inl→Ze
open And renaming intro→Yb
open Array renaming getElem?_push_size→Yg, getD_eq_getD_getElem?→Yr, getElem?_eq_some_iff→Yw
open Bool renaming and_eq_true→YG
open Classical renaming byContradiction→YH
open Go.Addr renaming add_lit→Yn
open Go.Calls renaming quiet_of_same→Yz
open Go.Lib renaming toList_data→Y3
open Go.Op renaming bytesLess→Yk
open Go.Region renaming ready→YQ
open Go.RowKit.Below renaming heap_setCell→Ya, refl→Yh, heap_alloc→Yl
open Go.Value renaming string→Ym, ownBlock→YL
open List renaming getElem?_eq_some_iff→Yc, lookup→Yf, getElem?_eq_getElem→Yi, length_map→Yo, mem_of_getElem?→Ys, setIfInBounds_toArray→Yt, getElem?_append_left→Yu, getElem?_map→Yv, drop_eq_nil_of_le→Yx, getElem?_take→YA, set_cons_zero→YC, getElem?_of_mem→YD, set_cons_succ→YE, length_take→YF, forall_mem_cons→YI, take_of_length_le→YJ, take_add_one→YN, mem_cons→YO, foldr→YT
open Nat renaming le_refl→Ye, lt_of_lt_of_le→Yj, le_trans→Yp, zero_add→Yq, le_succ→Yy, zero_le→YK
open Option renaming map_eq_some_iff→YB
open Option.some renaming inj→Yd
namespace Go.Proofs.YtfhdfmdaiookjaaGreatDoor
variable {p:Prop}
namespace Mk
end Mk
open Go.RowKit Mk Go.Extern.Stop Go.Stop Go.Extern
variable {α β:Type} {E:Nat->Addr} {H:Nat->Nat->Nat} {S:Nat->Prop} {c:Rc.Cr} {d:Rc.Ad} {f:Nat->Nat} {k:Nat} {vs:List Value} {vss:List (List Value)} {w w':World} {xs ys:List α}
theorem NX(h:p:=by simp[results,Tryz.results24,go_sem, *]):p:=h
theorem QJ(h:p:=by
 have HR:=aa hr;have HE:=aa hG;have HST:=aa hst;have HB:=aa (Yh w.heap.size w);clear hr hG hst;by_cases hl:8000<t.size
 ·have ev:=(HE.below (ak w (Y8 (clv d c.now) 29))).v0;have evl:=bG HE.v0;go_enter Tryz.func19,Tryz.ntmps19;go_wp2_with fail;refine (QW t _ hl).mono ?_;rintro e w1 ⟨rfl,rfl⟩;go_wp2;go_ret;exact⟨ak _ _,Ze ⟨0,by decide,hl,rfl⟩⟩
 go_enter Tryz.func19,Tryz.ntmps19;go_wp2_with fail;refine (agw t _ hl).mono ?_;rintro e w1 ⟨rfl,rfl⟩;go_wp2_with fail;refine (xo d c _ (HR.below (HB.trans ((ak _ _).mono HB.size))) (HE.below (HB.trans ((ak _ _).mono HB.size))).ens).mono ?_;rintro e w1 ⟨r,rfl,hi,hb⟩;have z1073z:=@aa _ @MM;exact fC):p:=h
theorem ah8(h:p:=by
 have z1033z:=@aa _ @Nn;exact gX):p:=h
theorem uL(h:p:=by
 go_wp2_with fail;refine⟨⟨k+1,x.n,by omega,rfl,by go_num,λh=>absurd h af,λz _ hz=>?_,λj z hj hz=>?_,λj z u hj hz hu=>?_,HB4.out⟩,by simp[intOf];omega⟩
 ·rw[Nat.add_sub_cancel,HX.out] at hz;rw[Yd hz]
 ·by_cases e:j=k
  ·subst e;rw[HX.out] at hz;obtain rfl:=Yd hz;exact HOK.out
  ·exact HE.out j z af hz
 ·by_cases e:j+1=k
  ·subst e;rw[HX.out] at hz;obtain rfl:=Yd hz;have:=H1.out u af (by rw[Nat.add_sub_cancel];exact hu);rw[this];exact hless
  ·exact HO.out j z u af hz hu):p:=h
theorem uH(h:p:=by
 rw[hless] at htri;go_wp2;go_ret;refine au.f (λh=>?_) HB3.out;by_cases hk0:0<k
 ·have hz:xs[k - 1]?=Y5 (xs[k - 1]'(by omega)):=Yi _;have h2:=H1.out _ hk0 hz;have h3:=h.2.2 (k - 1) x _ (by rw[Nat.sub_add_cancel hk0];exact HX.out) hz;rw[h2,hless] at h3;cases h3
 ·have:=H0.out af;subst this;have hnm:=HOK.1.1;rw[uY hnm] at hless;cases hless):p:=h
theorem uG(h:p:=by
 obtain rfl:k=len:=af
 go_wp2;go_ret;refine au.t ⟨by omega,λj z hz=>HE.out j z dz hz,λj z u hz hu=>HO.out j z u dz hz hu⟩ HB.out):p:=h
theorem Oz(h:p:=by
 rw[hs] at c4;clear hs;have z377z:=@aa _ @acy;exact zI):p:=h
theorem Oy(h:p:=by
 obtain rfl:len=k:=af
 have h5:=HF.out;have HO5:=HO;rw[YJ af] at h5 HO5;have h6:=(h5.ju (HV.below HB.out)).ay (w':=wr) (S':=λk=>Q k\/w.heap.size<=k) (λ_ _ _ _=>rfl) (λ_ _ s=>Ze s);obtain⟨a',c',e,hR⟩:=h6.own HO5.out aG ag (λg hg=>Zd (HO5.lt g hg).1);subst e;have HR5:=aa hR;clear h5 h6 hR HF HO HO5;go_wp2;go_ret;exact⟨a',_,c',rfl,by simpa using HR5.out,HB.out⟩):p:=h
theorem uF(h:p:=by
 go_wp2_with fail;refine⟨⟨k+1,by omega,by go_num,λj y hj hy=>?_,HB2.out⟩,by simp[intOf];omega⟩;by_cases e:j=k
 ·subst e;rw[HX.out] at hy;obtain rfl:=Yd hy;exact hless
 ·exact HE.out j y af hy):p:=h
theorem amf(h:p:=by
 have F3:Hid (∀w,Calls Tryz.prog 195 #[I k] w λe w'=>e=Za (Y9 Y_)/\w'=w):=λw=>(bA k w hk).mono λ_ _ h=>h.no p3;have HP:=aa p3;clear p3;go_enter Tryz.func194,Tryz.ntmps194;go_wp2_with fail;go_quiet ((first|(go_at_call_of 195 (Ym n);exact Yz (F0.out _))|(go_at_call_of 91 (Value.int Y6 c);exact Yz (F1.out _))|(go_at_call_of 195 (Ym z);exact Yz (F2.out _))|(go_at_call_of 195 (Ym k);exact Yz (F3.out _))));go_wp2_with fail;go_ret;exact⟨Y_,rfl,⟨λh=>bU,λh=>(HP.out (h.2.2.2.1)).elim⟩,below_drewN (ak _ _) _⟩):p:=h
theorem Ov(h:p:=by
 have hF:=HF.push HX.out HVK.out;rw[<-vv HX.out hq] at hF;have HF3:=aa hF;have HB3:=aa ((HB1.trans ((ak _ _).mono HB1.size)).grown hgrow bL (λg hg=>(HO1.lt g hg).1));clear hown3 hgrow hF;go_wp2;exact⟨⟨k+1,_,_,by omega,by go_num,HO3,HF3,HB3⟩,by simp[intOf];omega⟩):p:=h
theorem amd(h:p:=by
 have F2:Hid (∀w,Calls Tryz.prog 195 #[I z] w λe w'=>e=Za (Y9 Y_)/\w'=w):=λw=>(bA z w hz).mono λ_ _ h=>h.no p2;have HP:=aa p2;clear p2;go_enter Tryz.func194,Tryz.ntmps194;go_wp2_with fail;go_quiet ((first|(go_at_call_of 195 (Ym n);exact Yz (F0.out _))|(go_at_call_of 91 (Value.int Y6 c);exact Yz (F1.out _))|(go_at_call_of 195 (Ym z);exact Yz (F2.out _))));go_wp2_with fail;go_ret;exact⟨Y_,rfl,⟨λh=>bU,λh=>(HP.out (h.2.2.1)).elim⟩,below_drewN (ak _ _) _⟩):p:=h
theorem amc(h:p:=by
 have F1:Hid (∀w,Calls Tryz.prog 91 #[Y7 Y6 c,Y7 Y6 1,Y7 Y6 1048576] w λe w'=>e=Za (Y9 Y_)/\w'=w):=λw=>(cB c 1 1048576 w).mono λ_ _ h=>h.no p1;have HP:=aa p1;clear p1;go_enter Tryz.func194,Tryz.ntmps194;go_wp2_with fail;go_quiet ((first|(go_at_call_of 195 (Ym n);exact Yz (F0.out _))|(go_at_call_of 91 (Value.int Y6 c);exact Yz (F1.out _))));go_wp2_with fail;go_ret;exact⟨Y_,rfl,⟨λh=>bU,λh=>(HP.out (h.2.1)).elim⟩,below_drewN (ak _ _) _⟩):p:=h
theorem uB(h:p:=by
 rintro e w1 ⟨r,rfl,hr1,hb⟩;have HB:=aa (gM hb).2.1;have HI:=aa hr1;clear hb hr1;go_wp2;go_ret;exact⟨r,rfl,HI.out,HB.out⟩):p:=h
theorem Oq(h:p:=by
 rw[<-e1] at hV;have HV3:=aa hV;have HB3:=aa ((HB.trans (hb23.mono hBs)).grown hgrow bL (λg hg=>(HO2.lt g hg).1));clear hown3 hgrow hb23 hV e1;go_wp2;exact⟨⟨k+1,_,_,by omega,by go_num,HO3,HV3,HB3⟩,by simp[intOf];omega⟩):p:=h
theorem al7(h:p:=by
 have F0:Hid (∀w,Calls Tryz.prog 195 #[I n] w λe w'=>e=Za (Y9 Y_)/\w'=w):=λw=>(bA n w hn).mono λ_ _ h=>h.no p0;have HP:=aa p0;clear p0;go_enter Tryz.func194,Tryz.ntmps194;go_wp2_with fail;go_quiet ((first|(go_at_call_of 195 (Ym n);exact Yz (F0.out _))));go_wp2_with fail;go_ret;exact⟨Y_,rfl,⟨λh=>bU,λh=>(HP.out (h.1)).elim⟩,below_drewN (ak _ _) _⟩):p:=h
theorem jR(h:p:=by
 rintro e w' ⟨rfl,rfl⟩;go_wp2;go_ret;exact⟨rfl,rfl⟩):p:=h
theorem Oo(h:p:=by
 have hq2:(x.n.toList !=t.toList)=Y_:=by simp[bne,hq]
 have HF3:=aa HF.up;rw[<-ag1 HX.out hq] at HF3 HO1;go_wp2;exact⟨⟨k+1,ws,f,by omega,by go_num,HO1,HF3,HB1⟩,by simp[intOf];omega⟩):p:=h
theorem al5(h:p:=by
 go_wp2;go_ret;exact au.f (λh=>by have:=HI.2 (h.2.1 k x HX.out);cases this) HB2.out):p:=h
theorem al4(h:p:=by
 have h2:0<(vss[k]).length:=by rw[HV.all k _ h1];decide
 obtain⟨g,e,_,_⟩:=HC.out _ _ (gi HV.all h1 (Yi h2));cases e;rfl):p:=h
theorem akC(h:p:=by
 have HH:=aa hh;clear hh;have z322z:=@aa _ @ada;exact qg):p:=h
theorem nA(h:p:=by
 go_wp2;go_ret;exact au.f (λh=>by have:=h.1;omega) (Yh _ _)):p:=h
theorem Qy(h:p:=by
 have z191z:=@aa _ @aeJ;exact cR):p:=h
theorem Qw(h:p:=by
 have z1165z:=@aa _ @LI;exact tD):p:=h
theorem Qt(h:p:=by
 exact ah (Yy _) (ah (Yy _) (ah (Yy _) (ah (Yy _) (ah (Yy _) (ah (Yy _) (ah (Yy _) (ah (Yy _) (HB.out))))))))):p:=h
theorem wO(h:p:=by
 rintro e w6 ⟨a',c',rfl,ho,hb6⟩;exact hK _ _ hb6 ⟨a',c',rfl,ho.bm (λk hk s=>⟨s,hk⟩),Below.size hW⟩):p:=h
theorem Qh(h:p:=by
 exact ah (Yy _) (ah (Yy _) (ah (Yy _) (ah (Yy _) (ah (Yy _) (ah (Yy _) (ah (Yy _) (HB.out)))))))):p:=h
theorem wN(h:p:=by
 rw[hl5] at HR5;rw[hl5];clear h5 hR HV HO;go_wp2;go_ret;exact⟨a',c',rfl,HR5.out,HB.out⟩):p:=h
theorem wM(h:p:=by
 obtain rfl:=Yd hz;exact⟨HH.out,Zd (HI.1 bM)⟩):p:=h
theorem P4(h:p:=by
 exact ah (Yy _) (ah (Yy _) (ah (Yy _) (ah (Yy _) (ah (Yy _) (HB.out)))))):p:=h
theorem P0(h:p:=by
 go_wp2_with fail;go_ret;exact⟨Y_,rfl,⟨λh=>bU,λh=>(HP.out (h.2.2.2.2.1)).elim⟩,below_drewN (ak _ _) _⟩):p:=h
theorem PV(h:p:=by
 obtain⟨k0,k1,k2,k3,k4,k5⟩:=cs6 Bk;go_wp2;go_ret;exact au.f (λh=>by have:=HI4.2 h.2.2.2.1;cases this) HB.out):p:=h
theorem aks(h:p:=by
 obtain⟨k0,k1,k2,k3,k4,k5⟩:=cs6 Bk;go_wp2;go_ret;exact au.f (λh=>by have:=HI3.2 h.2.2.1;cases this) HB.out):p:=h
theorem wG(h:p:=by
 rw[List.getElem?_eq_none af,List.getElem?_eq_none aG]):p:=h
theorem PN(h:p:=by
 exact ah (Yy _) (ah (Yy _) (ah (Yy _) (ah (Yy _) (HB.out))))):p:=h
theorem PM(h:p:=by
 go_enter Tryz.func99,Tryz.ntmps99;go_wp2;refine wp_loop_rounds 1 ?_;rw[rounds_succ];go_wp2;go_ret;exact⟨rfl,rfl⟩):p:=h
theorem wF(h:p:=by
 obtain rfl:=Yd hz;exact⟨HH.out,Ze HEm.out⟩):p:=h
theorem kG(h:p:=by
 have z599z:=@aa _ @Xw;exact fT):p:=h
theorem kB(h:p:=by
 clear hf;obtain⟨k0,k1,k2,k3,k4,k5⟩:=cs6 ((Below.block hW _ (ae Bk.out)).trans Bk.out);exact aK):p:=h
theorem akp(h:p:=by
 have HD:=aa hbd;clear hbd;have z729z:=@aa _ @VF;exact jy):p:=h
theorem wA(h:p:=by
 show World.ownsRow _ _ _ _ _ _ _;rw[vv HX.out hq,List.length_append,List.flatten_append];simpa using hown3):p:=h
theorem Ph(h:p:=by
 obtain rfl:pl=k:=af
 go_wp2;go_ret;exact au.t ⟨_,n,HX1.out,HN1.out,HC.out,λj t ht=>HQ.out j t Ah ht⟩ HB.out):p:=h
theorem wj(h:p:=by
 show World.ownsRow _ _ _ _ _ _ _;rw[List.flatten_append];simpa using hown3):p:=h
theorem uy(h:p:=by
 have hbw:=Yj hbl HRW.size;have e0:=(ai hb1 hbw).trans ((ai HRW.out hbl).trans c0);have e1:=(ai hb1 hbw).trans ((ai HRW.out hbl).trans c1);have e2:=(ai hb1 hbw).trans ((ai HRW.out hbl).trans c2);have e3:=(ai hb1 hbw).trans ((ai HRW.out hbl).trans c3);exact Yb hbw (Yb e0 (Yb e1 (Yb e2 e3)))):p:=h
theorem alX(h:p:=by
 have HE:=aa h;have v0:=h.v0;have v1:=h.v1;have v2:=h.v2;have v3:=h.v3;have v4:=h.v4;have v5:=h.v5;have v6:=h.v6;have v7:=h.v7;have v8:=h.v8;have v9:=h.v9;exact Yb HE (Yb v0 (Yb v1 (Yb v2 (Yb v3 (Yb v4 (Yb v5 (Yb v6 (Yb v7 (Yb v8 v9)))))))))):p:=h
theorem Ob(h:p:=by
 have d0:=ck0 g1;have f0:=al g1 0;have d1:=ck1 g1;have f1:=al g1 1;have d2:=ck2 g1;have f2:=al g1 2;have d3:=ck3 g1;have f3:=al g1 3;exact Yb d0 (Yb f0 (Yb d1 (Yb f1 (Yb d2 (Yb f2 (Yb d3 f3))))))):p:=h
theorem alW(h:p:=by
 have HB3:=aa (HB2.trans (hb2.mono (Yp HB.size (Yp (Yy _) hs1))));have g2:=(hb2.block wr.heap.size af).trans HG.out;have hs2:=hb2.size;have htri:=hM y.toList x.n.toList;exact Yb HB3 (Yb g2 (Yb hs2 htri))):p:=h
theorem nt(h:p:=by
 have HR:=aa hr;have hxl:xs.length=len:=fg
 have hlc:=Yp hr.2.1 hr.2.2.1;exact Yb HR (Yb hxl hlc)):p:=h
theorem oR(h:p:=by
 have HB2:=upB HB1 hb1;have d0:=ck0 g1;have d1:=ck1 g1;have d2:=ck2 g1;have d3:=ck3 g1;exact Yb HB2 (Yb d0 (Yb d1 (Yb d2 d3)))):p:=h
theorem ahn(h:p:=by
 have HB3:=aa (HB2.trans (hb2.mono (Yp HB.size (Yp (Yy _) hs1))));have hp:=oY HE.out HX.out hless;exact Yb HB3 hp):p:=h
theorem ahh(h:p:=by
 have GK:=aa ((Yl wr (Y8 (nov n va vl vc) 83) _ (ae Bk.out)).trans Bk.out);have GR:Hid ((wr.alloc (Y8 (nov n va vl vc) 83)).heap[wr.heap.size]?=Y5 (Y8 (nov n va vl vc) 83 (0,0))):=Yg;have HW:=aa (HB.trans ((ak wr (Y8 (nov n va vl vc) 83)).mono HB.size));exact Yb GK (Yb GR HW)):p:=h
theorem ahg(h:p:=by
 have h8:=@run_callFunc_extern Tryz.prog 151 _ Extern.ReflectliteType.typeOf Tryz.func151 bf bf bf bf;have h32:=@run_callFunc_extern Tryz.prog 224 _ amx Tryz.func224 bf bf bf bf;have tT:=Q4;have cT:=qJ;have mR:=iX;exact Yb h8 (Yb h32 (Yb tT (Yb cT mR)))):p:=h
theorem kX(h:p:=by
 have HE:=aa hG;have HB:=aa (Yh w.heap.size w);exact Yb HE HB):p:=h
theorem N0(h:p:=by
 have e4:=(ai hb1 hbw).trans ((ai HRW.out hbl).trans c4);have e5:=(ai hb1 hbw).trans ((ai HRW.out hbl).trans c5);exact Yb e4 e5):p:=h
theorem alG(h:p:=by
 have HG:=aa hg;have HX2:=aa hbx;have HO2:=aa (cI HO.out hbx);have hs2:wr.heap.size<w2.heap.size:=by have:=hb2.size;rw[cw] at this;omega
 exact Yb HG (Yb HX2 (Yb HO2 hs2))):p:=h
theorem alF(h:p:=by
 have fr0:=al Bs.out 0;have fr1:=al Bs.out 1;have fr2:=al Bs.out 2;have fr3:=al Bs.out 3;have fr4:=al Bs.out 4;have fr5:=al Bs.out 5;have fr6:=al Bs.out 6;have fr7:=al Bs.out 7;exact Yb fr0 (Yb fr1 (Yb fr2 (Yb fr3 (Yb fr4 (Yb fr5 (Yb fr6 fr7))))))):p:=h
theorem ur(h:p:=by
 have HR:=aa hr;have HRW:=aa hrw;have hxl:xs.length=len:=fg
 exact Yb HR (Yb HRW hxl)):p:=h
theorem qt(h:p:=by
 have d4:=ck4 g1;have f4:=al g1 4;have d5:=ck5 g1;have f5:=al g1 5;have d6:=ck6 g1;have f6:=al g1 6;exact Yb d4 (Yb f4 (Yb d5 (Yb f5 (Yb d6 f6))))):p:=h
theorem vW(h:p:=by
 have hz8:vl<=8001:=by have h1:=hvr.1;have h2:=HS.out k x hx;omega
 have HX:=aa hx;have HT:=aa hvr;have HZz0:=aa z0;exact Yb hz8 (Yb HX (Yb HT HZz0))):p:=h
theorem agf(h:p:=by
 repeat (go_big_quiet_step (first|(go_at_call 143;exact Calls.wide (HC.out _))|fail))
 refine wpQuiet_nil ?_;rintro _ ⟨q,rfl⟩;have HB2:=upB HW q.b;have Bk2:=upK GK q.b;clear HC hne0 k0 k1 k2 k3 k4 k5 r0 r1 r2 r3 r4 r5 c0 c1 c2 c3 c4 c5 c6 hb HB Bk HW GK GR;have HB:=HB2;have Bk:=Bk2;clear HB2 Bk2;by_cases hq:cpuOf n.n c.ps<=n.c
 ·exact Qy
 ·have HQ2:=aa hq;go_wp2;go_ret;exact au.f (λh=>by have h1:cpuOf n.n c.ps<=n.c:=(h.2.1 k n HXn.out);have h2:=HQ2.out;omega) HB.out):p:=h
theorem age(h:p:=by
 repeat (go_big_quiet_step (first|(go_at_call 146;exact Calls.wide (HC.out _))|fail))
 refine wpQuiet_nil ?_;rintro _ ⟨q,rfl⟩;have HB2:=upB HW q.b;have Bk2:=upK GK q.b;clear HC hne0 k0 k1 k2 k3 k4 k5 r0 r3 c0 c1 c2 c3 c4 c5 c6 hb HB Bk HW GK GR;have HB:=HB2;have Bk:=Bk2;clear HB2 Bk2;by_cases hq:onOf n.n c.vs<=n.s
 ·exact Qy
 ·have HQ2:=aa hq;go_wp2;go_ret;exact au.f (λh=>by have h1:onOf n.n c.vs<=n.s:=(h.2 k n HXn.out);have h2:=HQ2.out;omega) HB.out):p:=h
theorem afd(h:p:=by
 refine (eK d c.now c.vs s w _ HR.v (HB.trans ((ak _ _).mono HB.size))).mono ?_;rintro e w2 ⟨hb,hf⟩;have z735z:=@aa _ @VB;exact iy):p:=h
theorem afc(h:p:=by
 refine (eK d c.now c.vs s w _ HR.v (HB.trans ((ak _ _).mono HB.size))).mono ?_;rintro e w2 ⟨hb,hf⟩;have z735z:=@aa _ @VA;exact iy):p:=h
theorem afb(h:p:=by
 refine (eK d c.now c.vs x.v r _ HR.v (HRW.trans ((HB.trans ((ak _ _).mono HB.size)).mono HRW.size))).mono ?_;rintro e w2 ⟨hb,hf⟩;have z735z:=@aa _ @Vz;exact iy):p:=h
theorem afa(h:p:=by
 refine (eK d c.now c.vs ⟨#[]⟩ r _ HR.v (HRW.trans ((HB.trans ((ak _ _).mono HB.size)).mono HRW.size))).mono ?_;rintro e w2 ⟨hb,hf⟩;have z735z:=@aa _ @Vy;exact iy):p:=h
theorem ae_(h:p:=by
 refine (HST.out _ (HR.below HB.out) HT.out (HE.below HB.out) hl).mono ?_;have z1425z:=@aa _ @Ib;exact mN):p:=h
theorem fW(h:p:=by
 have z467z:=@aa _ @abr;exact cG):p:=h
theorem aeS(h:p:=by
 by_cases e:j=k
 ·subst e;rw[HXv.out] at hz;exact wF
 ·exact HQ.out j z af hz):p:=h
theorem aeR(h:p:=by
 by_cases e:j=k
 ·subst e;rw[HXv.out] at hz;exact wM
 ·exact HQ.out j z af hz):p:=h
theorem aeQ(h:p:=by
 by_cases e:j=k
 ·subst e;rw[HXx.out] at hz;exact wF
 ·exact HQ.out j z af hz):p:=h
theorem aeP(h:p:=by
 by_cases e:j=k
 ·subst e;rw[HXx.out] at hz;exact wM
 ·exact HQ.out j z af hz):p:=h
theorem aeO(h:p:=by
 by_cases e:j=k
 ·subst e;rw[HXp.out] at hz;exact wF
 ·exact HQ.out j z af hz):p:=h
theorem aeN(h:p:=by
 by_cases e:j=k
 ·subst e;rw[HXp.out] at hz;exact wM
 ·exact HQ.out j z af hz):p:=h
theorem aeM(h:p:=by
 by_cases e:j=k
 ·subst e;rw[HXv.out] at hz;obtain rfl:=Yd hz;exact λ_ _=>HI.1 bM
 ·exact HQ.out j z af hz):p:=h
theorem aeL(h:p:=by
 by_cases e:j=k
 ·subst e;rw[HXn.out] at hz;obtain rfl:=Yd hz;exact HI.1 bM
 ·exact HQ.out j z af hz):p:=h
theorem aeK(h:p:=by
 by_cases e:j=k
 ·subst e;rw[HXp.out] at hz;obtain rfl:=Yd hz;exact λ_=>HI.1 bM
 ·exact HQ.out j z af hz):p:=h
theorem aeJ(h:p:=by
 by_cases e:j=k
 ·subst e;rw[HXn.out] at hz;obtain rfl:=Yd hz;exact hq
 ·exact HQ.out j z af hz):p:=h
theorem aev(h:p:=by
 refine (bA z _ hz).mono ?_;have z588z:=@aa _ @XH;exact fU):p:=h
theorem aeu(h:p:=by
 refine (dR z _ hz).mono ?_;exact O7):p:=h
theorem aet(h:p:=by
 refine (cB z 1 1048576 _).mono ?_;have z588z:=@aa _ @XG;exact fU):p:=h
theorem aes(h:p:=by
 refine (cB c 0 1000000 _).mono ?_;have z588z:=@aa _ @XF;exact fU):p:=h
theorem aer(h:p:=by
 by_cases p4:dw m;case neg=>
  have F4:Hid (∀w,Calls Tryz.prog 196 #[I m] w λe w'=>e=Za (Y9 Y_)/\w'=w):=λw=>(dR m w hm).mono λ_ _ h=>h.no p4;have HP:=aa p4;clear p4;go_enter Tryz.func194,Tryz.ntmps194;go_wp2_with fail;go_quiet ((first|(go_at_call_of 195 (Ym n);exact Yz (F0.out _))|(go_at_call_of 91 (Value.int Y6 c);exact Yz (F1.out _))|(go_at_call_of 195 (Ym z);exact Yz (F2.out _))|(go_at_call_of 195 (Ym k);exact Yz (F3.out _))|(go_at_call_of 196 (Ym m);exact Yz (F4.out _))));exact P0
 have F4:Hid (∀w,Calls Tryz.prog 196 #[I m] w λe w'=>e=Za (Y9 Zb)/\w'=w):=λw=>(dR m w hm).mono λ_ _ h=>h.yes p4;obtain⟨q,hq⟩:∃q:Int,q=if x=Zb then 1 else 6:=⟨_,rfl⟩;have HM:Hid (∀w,Calls Tryz.prog 198 #[Zc #[I n,Y7 Y6 c,I z,I k,Y9 x,I m,Y9 Y_,J a len cap]] w λe w'=>e=Za (Y7 Y6 q)/\Below w.heap.size w w'):=λw=>by rw[hq];exact nI n c z k x m Y_ a len cap w
 have HQ:Hid (q=if x=Zb then 1 else 6):=hq;clear hq;go_enter Tryz.func194,Tryz.ntmps194;go_wp2_with fail;go_region_with (first|(go_at_call_of 195 (Ym n);refine (F0.out _).mono ?_;rintro e w1 ⟨rfl,rfl⟩)|(go_at_call_of 91 (Value.int Y6 c);refine (F1.out _).mono ?_;rintro e w1 ⟨rfl,rfl⟩)|(go_at_call_of 195 (Ym z);refine (F2.out _).mono ?_;rintro e w1 ⟨rfl,rfl⟩)|(go_at_call_of 195 (Ym k);refine (F3.out _).mono ?_;rintro e w1 ⟨rfl,rfl⟩)|(go_at_call_of 196 (Ym m);refine (F4.out _).mono ?_;rintro e w1 ⟨rfl,rfl⟩)|(go_at_call 198;refine (HM.out _).mono ?_;rintro e w1 ⟨rfl,hb⟩;have hc7:=an (kj hb).1 7;simp only[List.getElem?_toArray,List.getElem?_cons_succ,List.getElem?_cons_zero] at hc7)|(go_at_call 197;refine (fZ a len cap zs _ _ (HR.below (kj hb).2.1)).mono ?_;rintro e w2 ⟨r,rfl,hr,rfl⟩));all_goals (
  go_wp2_with fail;go_ret
  exact⟨r,rfl,⟨λh=>⟨p0,p1,p2,p3,p4,HY.out,HQ.out ▸ hr.1 h⟩,λh=>hr.2 (HQ.out ▸ h.2.2.2.2.2.2)⟩,(kj hb).2.1⟩)):p:=h
theorem aeq(h:p:=by
 by_cases p4:dw (⟨#[]⟩:ByteArray);case neg=>
  have F4:Hid (∀w,Calls Tryz.prog 196 #[I (⟨#[]⟩:ByteArray)] w λe w'=>e=Za (Y9 Y_)/\w'=w):=λw=>(dR (⟨#[]⟩:ByteArray) w hm).mono λ_ _ h=>h.no p4;have HP:=aa p4;clear p4;go_enter Tryz.func194,Tryz.ntmps194;go_wp2_with fail;go_quiet ((first|(go_at_call_of 195 (Ym n);exact Yz (F0.out _))|(go_at_call_of 91 (Value.int Y6 c);exact Yz (F1.out _))|(go_at_call_of 195 (Ym z);exact Yz (F2.out _))|(go_at_call_of 195 (Ym k);exact Yz (F3.out _))|(go_at_call_of 196 (Ym (⟨#[]⟩:ByteArray));exact Yz (F4.out _))));exact P0
 have F4:Hid (∀w,Calls Tryz.prog 196 #[I (⟨#[]⟩:ByteArray)] w λe w'=>e=Za (Y9 Zb)/\w'=w):=λw=>(dR (⟨#[]⟩:ByteArray) w hm).mono λ_ _ h=>h.yes p4;obtain⟨q,hq⟩:∃q:Int,q=if x=Zb then 1 else 6:=⟨_,rfl⟩;have HM:Hid (∀w,Calls Tryz.prog 198 #[Zc #[I n,Y7 Y6 c,I z,I k,Y9 x,I (⟨#[]⟩:ByteArray),Y9 Zb,J a len cap]] w λe w'=>e=Za (Y7 Y6 q)/\Below w.heap.size w w'):=λw=>by rw[hq];exact nI n c z k x (⟨#[]⟩:ByteArray) Zb a len cap w
 have HQ:Hid (q=if x=Zb then 1 else 6):=hq;clear hq;go_enter Tryz.func194,Tryz.ntmps194;go_wp2_with fail;go_region_with (first|(go_at_call_of 195 (Ym n);refine (F0.out _).mono ?_;rintro e w1 ⟨rfl,rfl⟩)|(go_at_call_of 91 (Value.int Y6 c);refine (F1.out _).mono ?_;rintro e w1 ⟨rfl,rfl⟩)|(go_at_call_of 195 (Ym z);refine (F2.out _).mono ?_;rintro e w1 ⟨rfl,rfl⟩)|(go_at_call_of 195 (Ym k);refine (F3.out _).mono ?_;rintro e w1 ⟨rfl,rfl⟩)|(go_at_call_of 196 (Ym (⟨#[]⟩:ByteArray));refine (F4.out _).mono ?_;rintro e w1 ⟨rfl,rfl⟩)|(go_at_call 198;refine (HM.out _).mono ?_;rintro e w1 ⟨rfl,hb⟩;have hc7:=an (kj hb).1 7;simp only[List.getElem?_toArray,List.getElem?_cons_succ,List.getElem?_cons_zero] at hc7)|(go_at_call 197;refine (fZ a len cap zs _ _ (HR.below (kj hb).2.1)).mono ?_;rintro e w2 ⟨r,rfl,hr,rfl⟩));all_goals (
  go_wp2_with fail;go_ret
  exact⟨r,rfl,⟨λh=>⟨p0,p1,p2,p3,p4,(λ_=>rfl),HQ.out ▸ hr.1 h⟩,λh=>hr.2 (HQ.out ▸ h.2.2.2.2.2.2)⟩,(kj hb).2.1⟩)):p:=h
theorem zY(h:p:=by
 by_cases p0:aL n;case neg=>
  exact al7
 have F0:Hid (∀w,Calls Tryz.prog 195 #[I n] w λe w'=>e=Za (Y9 Zb)/\w'=w):=λw=>(bA n w hn).mono λ_ _ h=>h.yes p0;by_cases p1:Inn c 1 1048576;case neg=>
  exact amc
 have F1:Hid (∀w,Calls Tryz.prog 91 #[Y7 Y6 c,Y7 Y6 1,Y7 Y6 1048576] w λe w'=>e=Za (Y9 Zb)/\w'=w):=λw=>(cB c 1 1048576 w).mono λ_ _ h=>h.yes p1;by_cases p2:aL z;case neg=>
  exact amd
 have F2:Hid (∀w,Calls Tryz.prog 195 #[I z] w λe w'=>e=Za (Y9 Zb)/\w'=w):=λw=>(bA z w hz).mono λ_ _ h=>h.yes p2;by_cases p3:aL k;case neg=>
  exact amf
 have F3:Hid (∀w,Calls Tryz.prog 195 #[I k] w λe w'=>e=Za (Y9 Zb)/\w'=w):=λw=>(bA k w hk).mono λ_ _ h=>h.yes p3;exact z227z):p:=h
theorem aed(h:p:=by
 go_wp2_with fail;refine bodyPost_ret (v:=Zc #[J d'.a1 d'.l1 d'.c1,J d'.a2 d'.l2 d'.c2,J d'.a3 d'.l3 d'.c3,J d'.a4 d'.l4 d'.c4,J d'.a5 d'.l5 d'.c5,Y7 Y6 c.now]) (by simp[results,Tryz.results22,go_sem, *]) rfl ⟨d',rfl,?_,sb1 (sb1 (sb1 (sb1 (sb1 (sb1 (HBz.out))))))⟩;obtain⟨P,hP⟩:=HO.out;exact⟨P,hP.ay (λk _ s=>by have s1:W.heap.size<=k:=s;rw[Ya _ _ _ _ (show k≠w.heap.size+1 by omega),Ya _ _ _ _ (show k≠w.heap.size+1 by omega),Ya _ _ _ _ (show k≠w.heap.size+1 by omega),Ya _ _ _ _ (show k≠w.heap.size+1 by omega),Ya _ _ _ _ (show k≠w.heap.size+1 by omega),Ya _ _ _ _ (show k≠w.heap.size+1 by omega)]) (λk _ s=>by have s1:W.heap.size<=k:=s;show w.heap.size<=k;omega)⟩):p:=h
theorem ad_(h:p:=by
 have z729z:=@aa _ @VE;exact jy):p:=h
theorem ad9(h:p:=by
 by_cases hz2:v.z=n.z
 ·have q3:=aP hz2;have HZ2:=aa hz2;clear hz2;have z729z:=@aa _ @VD;exact jy
 ·have q3:=bu hz2;have HZ2:=aa hz2;clear hz2;have z729z:=@aa _ @VC;exact jy):p:=h
theorem zX(h:p:=by
 have z1135z:=@aa _ @L2;exact tM):p:=h
theorem ad4(h:p:=by
 refine (fi (E 0) _).mono ?_;exact jR):p:=h
theorem ad3(h:p:=by
 refine (aH HE.out 1 0 ag ag ag).mono ?_;rintro e w' ⟨rfl,rfl⟩;go_wp2_with fail;refine (aH HE.out 1 9 ag ag ag).mono ?_;rintro e w' ⟨rfl,rfl⟩;go_wp2_with fail;refine (aH HE.out 1 2 ag ag ag).mono ?_;rintro e w' ⟨rfl,rfl⟩;go_wp2_with fail;refine (aH HE.out 1 3 ag ag ag).mono ?_;rintro e w' ⟨rfl,rfl⟩;go_wp2_with fail;refine (aH HE.out 1 6 ag ag ag).mono ?_;rintro e w' ⟨rfl,rfl⟩;go_wp2_with fail;refine (aH HE.out 1 4 ag ag ag).mono ?_;rintro e w' ⟨rfl,rfl⟩;go_wp2_with fail;refine (aH HE.out 1 5 ag ag ag).mono ?_;rintro e w' ⟨rfl,rfl⟩;go_wp2_with fail;refine (aH HE.out 1 7 ag ag ag).mono ?_;rintro e w' ⟨rfl,rfl⟩;go_wp2_with fail;refine (aH HE.out 1 8 ag ag ag).mono ?_;exact jR):p:=h
theorem ad2(h:p:=by
 refine (aH HE.out 2 0 ag ag ag).mono ?_;rintro e w' ⟨rfl,rfl⟩;go_wp2_with fail;refine (aH HE.out 2 9 ag ag ag).mono ?_;rintro e w' ⟨rfl,rfl⟩;go_wp2_with fail;refine (fi (E 2) _).mono ?_;exact jR):p:=h
theorem ad1(h:p:=by
 refine (aH HE.out 3 0 ag ag ag).mono ?_;rintro e w' ⟨rfl,rfl⟩;go_wp2_with fail;refine (aH HE.out 3 9 ag ag ag).mono ?_;rintro e w' ⟨rfl,rfl⟩;go_wp2_with fail;refine (aH HE.out 3 2 ag ag ag).mono ?_;rintro e w' ⟨rfl,rfl⟩;go_wp2_with fail;refine (fi (E 3) _).mono ?_;exact jR):p:=h
theorem adZ(h:p:=by
 refine (aH HE.out 4 0 ag ag ag).mono ?_;rintro e w' ⟨rfl,rfl⟩;go_wp2_with fail;refine (aH HE.out 4 9 ag ag ag).mono ?_;rintro e w' ⟨rfl,rfl⟩;go_wp2_with fail;refine (aH HE.out 4 2 ag ag ag).mono ?_;rintro e w' ⟨rfl,rfl⟩;go_wp2_with fail;refine (aH HE.out 4 3 ag ag ag).mono ?_;rintro e w' ⟨rfl,rfl⟩;go_wp2_with fail;refine (aH HE.out 4 6 ag ag ag).mono ?_;rintro e w' ⟨rfl,rfl⟩;go_wp2_with fail;refine (fi (E 4) _).mono ?_;exact jR):p:=h
theorem adY(h:p:=by
 refine (aH HE.out 5 0 ag ag ag).mono ?_;rintro e w' ⟨rfl,rfl⟩;go_wp2_with fail;refine (aH HE.out 5 9 ag ag ag).mono ?_;rintro e w' ⟨rfl,rfl⟩;go_wp2_with fail;refine (aH HE.out 5 2 ag ag ag).mono ?_;rintro e w' ⟨rfl,rfl⟩;go_wp2_with fail;refine (aH HE.out 5 3 ag ag ag).mono ?_;rintro e w' ⟨rfl,rfl⟩;go_wp2_with fail;refine (aH HE.out 5 6 ag ag ag).mono ?_;rintro e w' ⟨rfl,rfl⟩;go_wp2_with fail;refine (aH HE.out 5 4 ag ag ag).mono ?_;rintro e w' ⟨rfl,rfl⟩;go_wp2_with fail;refine (fi (E 5) _).mono ?_;exact jR):p:=h
theorem adX(h:p:=by
 refine (aH HE.out 6 0 ag ag ag).mono ?_;rintro e w' ⟨rfl,rfl⟩;go_wp2_with fail;refine (aH HE.out 6 9 ag ag ag).mono ?_;rintro e w' ⟨rfl,rfl⟩;go_wp2_with fail;refine (aH HE.out 6 2 ag ag ag).mono ?_;rintro e w' ⟨rfl,rfl⟩;go_wp2_with fail;refine (aH HE.out 6 3 ag ag ag).mono ?_;rintro e w' ⟨rfl,rfl⟩;go_wp2_with fail;refine (fi (E 6) _).mono ?_;exact jR):p:=h
theorem adW(h:p:=by
 refine (aH HE.out 7 0 ag ag ag).mono ?_;rintro e w' ⟨rfl,rfl⟩;go_wp2_with fail;refine (aH HE.out 7 9 ag ag ag).mono ?_;rintro e w' ⟨rfl,rfl⟩;go_wp2_with fail;refine (aH HE.out 7 2 ag ag ag).mono ?_;rintro e w' ⟨rfl,rfl⟩;go_wp2_with fail;refine (aH HE.out 7 3 ag ag ag).mono ?_;rintro e w' ⟨rfl,rfl⟩;go_wp2_with fail;refine (aH HE.out 7 6 ag ag ag).mono ?_;rintro e w' ⟨rfl,rfl⟩;go_wp2_with fail;refine (aH HE.out 7 4 ag ag ag).mono ?_;rintro e w' ⟨rfl,rfl⟩;go_wp2_with fail;refine (aH HE.out 7 5 ag ag ag).mono ?_;rintro e w' ⟨rfl,rfl⟩;go_wp2_with fail;refine (fi (E 7) _).mono ?_;exact jR):p:=h
theorem adV(h:p:=by
 refine (aH HE.out 8 0 ag ag ag).mono ?_;rintro e w' ⟨rfl,rfl⟩;go_wp2_with fail;refine (aH HE.out 8 9 ag ag ag).mono ?_;rintro e w' ⟨rfl,rfl⟩;go_wp2_with fail;refine (aH HE.out 8 2 ag ag ag).mono ?_;rintro e w' ⟨rfl,rfl⟩;go_wp2_with fail;refine (aH HE.out 8 3 ag ag ag).mono ?_;rintro e w' ⟨rfl,rfl⟩;go_wp2_with fail;refine (aH HE.out 8 6 ag ag ag).mono ?_;rintro e w' ⟨rfl,rfl⟩;go_wp2_with fail;refine (aH HE.out 8 4 ag ag ag).mono ?_;rintro e w' ⟨rfl,rfl⟩;go_wp2_with fail;refine (aH HE.out 8 5 ag ag ag).mono ?_;rintro e w' ⟨rfl,rfl⟩;go_wp2_with fail;refine (aH HE.out 8 7 ag ag ag).mono ?_;rintro e w' ⟨rfl,rfl⟩;go_wp2_with fail;refine (fi (E 8) _).mono ?_;exact jR):p:=h
theorem eD(h:p:=by
 obtain⟨HE,v0,v1,v2,v3,v4,v5,v6,v7,v8,v9⟩:=alX;clear h;go_enter Tryz.func53,Tryz.ntmps53;go_wp2_with fail;exact z257z):p:=h
theorem adU(h:p:=by
 refine congrArg Y5 (BS (HV.all k _ h1) (bT HV.out hc2 h1 ag (by simpa using c0)) (bT HV.out hc2 h1 ag (by simpa using c1)) (bT HV.out hc2 h1 ag (by simpa using c2)) (bT HV.out hc2 h1 ag (by simpa using c3)) (bT HV.out hc2 h1 ag (by simpa using c4)))):p:=h
theorem adT(h:p:=by
 refine congrArg Y5 (BQ (HV.all k _ h1) (bT HV.out hc2 h1 ag (by simpa using c0)) (bT HV.out hc2 h1 ag (by simpa using c1)) (bT HV.out hc2 h1 ag (by simpa using c2)) (bT HV.out hc2 h1 ag (by simpa using c3)) (bT HV.out hc2 h1 ag (by simpa using c4)) (bT HV.out hc2 h1 ag (by simpa using c5)) (bT HV.out hc2 h1 ag (by simpa using c6)) (bT HV.out hc2 h1 ag (by simpa using c7)))):p:=h
theorem qk(h:p:=by
 have hkv:k<vss.length:=af
 have h1:=Yi hkv;have hoz:o=0:=by
  exact al4
 subst hoz;have hc2:∀(j:Nat) u,vss.flatten[j]?=Y5 u->w.cell? ⟨b,j,U⟩=Y5 u:=λj u hj=>by
  obtain⟨g,e,_,h3⟩:=HC.out j u hj;cases e;exact h3
 rw[h1];exact z267z):p:=h
theorem adR(h:p:=by
 clear HG hb2 HB2 d0 d1 d2 d3 d4 d5 d6;have d0:=ck0 g2;have d1:=ck1 g2;have d2:=ck2 g2;have d3:=ck3 g2;have d4:=ck4 g2;have d5:=ck5 g2;have d6:=ck6 g2;clear g2;cases hless:Yk y.toList x.n.toList
 ·exact uH
 ·have z607z:=@aa _ @Xv;exact jA):p:=h
theorem adQ(h:p:=by
 clear HG hb2 HB2 d0 d1 d2 d3;have d0:=ck0 g2;have d1:=ck1 g2;have d2:=ck2 g2;have d3:=ck3 g2;clear g2;cases hless:Yk y.toList x.n.toList
 ·exact uH
 ·have z607z:=@aa _ @Xu;exact jA):p:=h
theorem adP(h:p:=by
 clear HG hb2 HB2 d0 d1 d2 d3 d4 d5 d6 d7;have d0:=ck0 g2;have d1:=ck1 g2;have d2:=ck2 g2;have d3:=ck3 g2;have d4:=ck4 g2;have d5:=ck5 g2;have d6:=ck6 g2;have d7:=ck7 g2;clear g2;cases hless:Yk y.toList x.n.toList
 ·exact uH
 ·have z607z:=@aa _ @Xt;exact jA):p:=h
theorem adO(h:p:=by
 clear HG hb2 HB2 d0 d1 d2 d3 d4;have d0:=ck0 g2;have d1:=ck1 g2;have d2:=ck2 g2;have d3:=ck3 g2;have d4:=ck4 g2;clear g2;cases hless:Yk y.toList x.n.toList
 ·exact uH
 ·have z607z:=@aa _ @Xs;exact jA):p:=h
theorem adN(h:p:=by
 clear HG hb2 HB2 d0 d1 d2 d3 d4 d5;have d0:=ck0 g2;have d1:=ck1 g2;have d2:=ck2 g2;have d3:=ck3 g2;have d4:=ck4 g2;have d5:=ck5 g2;clear g2;cases hless:Yk y.toList x.n.toList
 ·exact uH
 ·have z607z:=@aa _ @Xr;exact jA):p:=h
theorem jC(h:p:=by
 cases r
 ·exact al5
 have HOK:=aa (HI.1 rfl);clear HI;go_wp2_with fail;refine (HC.out _).mono ?_;rintro e w2 ⟨rfl,hb2⟩;obtain⟨HB3,g2,hs2,htri⟩:=alW;exact z271z):p:=h
theorem adJ(h:p:=by
 obtain⟨hz8,HX,HT,HZz0⟩:=vW;have HZz2:=aa z2;have HZz3:=aa z3;have HZz5:=aa z5;clear hat hx hvr z0 z2 z3 z5;go_wp2_with fail;refine (nK x va vl vc _ (HT.below (ak _ _)) hz8).mono ?_;have z1380z:=@aa _ @IK;exact mQ):p:=h
theorem adI(h:p:=by
 have HX:=aa hx;clear hat hx z0 z2 z3 z5 hvr;have HC:=aa (λv:World=>eH x va vl vc v);have HB1:=aa (HB.alloc HB.size (Y8 (vov x va vl vc) 38));have z716z:=@aa _ @VO;exact jz):p:=h
theorem adH(h:p:=by
 obtain⟨hbw,e0,e1,e2,e3⟩:=uy;obtain⟨e4,e5⟩:=N0;have e6:=(ai hb1 hbw).trans ((ai HRW.out hbl).trans c6);have e7:=(ai hb1 hbw).trans ((ai HRW.out hbl).trans c7);have z770z:=@aa _ @U_;exact yP):p:=h
theorem adG(h:p:=by
 have HX:=aa hx;have HT:=aa hvr;clear hat hx z0 z2 z3 z5 hvr;go_wp2_with fail;refine (cM va vl vc v.zs t _ (HT.below (ak _ _))).mono ?_;rintro e w1 ⟨r,rfl,hi,hb2⟩;obtain⟨HA0,hbx⟩:=aV hb2;replace HB:=upB HB hbx;clear hb2 hbx HA0;have HI:=aa hi;clear hi hb c0 c1 c2 c3 c4 c5 c6 c7;cases r
 ·go_wp2;refine⟨⟨k+1,s,by omega,rfl,by go_num,?_,by omega,by omega,HB.out⟩,by simp[intOf];omega⟩;exact PC
 ·go_wp2;refine⟨⟨k+1,s+1,by omega,by go_num,by go_num,?_,by omega,by omega,HB.out⟩,by simp[intOf];omega⟩;show _=_;rw[kJ HX.out,if_pos (HI.1 bM),<-HS.out]):p:=h
theorem adF(h:p:=by
 have z1782z:=@aa _ @Ct;exact rP):p:=h
theorem adD(h:p:=by
 obtain⟨p0,p1,p2,p3,p4,p5,p6⟩:=cs7 Bp;obtain⟨r0,r1,r2,r3,r4,r5,r6⟩:=cs7 Br;obtain⟨fr0,fr1,fr2,fr3,fr4,fr5⟩:=oS;have fp6:=al Bp.out 6;have fr6:=al Br.out 6;go_wp2_with fail;refine bodyPost_ret (v:=Zc #[I x.n,I x.z,Y7 Y6 x.c,Y7 Y6 x.s,Y7 Y6 x.u,Y9 x.d,J a' l' c']) (by simp[results,Tryz.results55,go_sem, *]) rfl ⟨a',l',c',rfl,HO.ay (λk _ s=>by have s1:w.heap.size+1+1<=k:=s;rw[Ya _ _ _ _ (show k≠w.heap.size+1 by omega),Ya _ _ _ _ (show k≠w.heap.size+1 by omega),Ya _ _ _ _ (show k≠w.heap.size+1 by omega),Ya _ _ _ _ (show k≠w.heap.size+1 by omega),Ya _ _ _ _ (show k≠w.heap.size+1 by omega),Ya _ _ _ _ (show k≠w.heap.size+1 by omega),Ya _ _ _ _ (show k≠w.heap.size+1 by omega),Ya _ _ _ _ (show k≠w.heap.size by omega)]) (λk _ s=>by have s1:w.heap.size+1+1<=k:=s;show w.heap.size<=k;omega),sb1 (sb1 (sb1 (sb1 (sb1 (sb1 (sb1 (ah (Ye _) (HB.out))))))))⟩):p:=h
theorem adC(h:p:=by
 obtain⟨p0,p1,p2,p3,p4,p5⟩:=cs6 Bp;obtain⟨r0,r1,r2,r3,r4,r5⟩:=cs6 Br;have fr0:=al Br.out 0;have fr1:=al Br.out 1;have fr2:=al Br.out 2;have fp3:=al Bp.out 3;have fr3:=al Br.out 3;have fr4:=al Br.out 4;have fr5:=al Br.out 5;go_wp2_with fail;refine bodyPost_ret (v:=Zc #[I x.n,Y7 Y6 x.c,I x.z,J a' l' c',I x.d,Y7 Y6 x.p]) (by simp[results,Tryz.results59,go_sem, *]) rfl ⟨a',l',c',rfl,HO.ay (λk _ s=>by have s1:w.heap.size+1+1<=k:=s;rw[Ya _ _ _ _ (show k≠w.heap.size+1 by omega),Ya _ _ _ _ (show k≠w.heap.size+1 by omega),Ya _ _ _ _ (show k≠w.heap.size+1 by omega),Ya _ _ _ _ (show k≠w.heap.size+1 by omega),Ya _ _ _ _ (show k≠w.heap.size+1 by omega),Ya _ _ _ _ (show k≠w.heap.size+1 by omega),Ya _ _ _ _ (show k≠w.heap.size by omega)]) (λk _ s=>by have s1:w.heap.size+1+1<=k:=s;show w.heap.size<=k;omega),sb1 (sb1 (sb1 (sb1 (sb1 (sb1 (ah (Ye _) (HB.out)))))))⟩):p:=h
theorem zT(h:p:=by
 go_wp2_with fail;refine (Ap.qC va vl vc x.zs _ (HR.below (HB.trans ((aS _ _ _).mono HB.size))) hl).mono ?_;rintro e w1 ⟨a',l',c',rfl,h1,h2,hb⟩;obtain⟨HA0,HA1,hbx⟩:=dP hb;have Bp:=aa HA0;have Br:=aa HA1;replace HB:=upB HB hbx;clear hb hbx HA0 HA1;have HO:Hid (bS w1 a' l' c' x.zs (λk=>w.heap.size+1+1<=k)):=⟨h1,h2.imp id λ⟨g,cur,e1,e2,e3⟩=>⟨g,cur,e1,by simpa using e2,e3⟩⟩;clear h1 h2;exact z288z):p:=h
theorem ady(h:p:=by
 refine (Bt d c _ (HR.below HB.out)).mono ?_;have z751z:=@aa _ @Vm;exact yU):p:=h
theorem adq(h:p:=by
 have hl5:(xs.map ndF).length=len:=by simpa using hxl
 exact wN):p:=h
theorem adp(h:p:=by
 have hl5:(xs.map vdF).length=len:=by simpa using hxl
 exact wN):p:=h
theorem ado(h:p:=by
 have hl5:(xs.map pdF).length=len:=by simpa using hxl
 exact wN):p:=h
theorem qi(h:p:=by
 obtain rfl:len=k:=af
 have h5:=HV.out;rw[YJ af] at h5;obtain⟨a',c',rfl,hR⟩:=h5.own HO.out (by simp[hxl]) ag (λg hg=>(HO.lt g hg).1);have HR5:=aa hR;exact z306z):p:=h
theorem adi(h:p:=by
 refine bodyPost_ret (v:=Zg #[Y7 Y6 k,Y9 (x.n.toList==t.toList)]) (by simp[results,Tryz.results175,go_sem]) rfl ⟨?_,HB3.out⟩;unfold hit;rw[hp,HX.out]):p:=h
theorem adh(h:p:=by
 refine bodyPost_ret (v:=Zg #[Y7 Y6 k,Y9 (x.n.toList==t.toList)]) (by simp[results,Tryz.results153,go_sem]) rfl ⟨?_,HB3.out⟩;unfold hit;rw[hp,HX.out]):p:=h
theorem adg(h:p:=by
 refine bodyPost_ret (v:=Zg #[Y7 Y6 k,Y9 (x.n.toList==t.toList)]) (by simp[results,Tryz.results149,go_sem]) rfl ⟨?_,HB3.out⟩;unfold hit;rw[hp,HX.out]):p:=h
theorem lH(h:p:=by
 go_wp2_with fail;refine (HC.out _).mono ?_;rintro e w2 ⟨rfl,hb2⟩;obtain⟨HB3,hp⟩:=ahn;clear hb2;go_wp2_with fail;exact z317z):p:=h
theorem ade(h:p:=by
 go_ret;refine au.f (λ⟨i,m,e1,e2,e3,_⟩=>?_) (HB.alloc HB.size _);obtain⟨_,rfl⟩:=HN.inj e1 HX1.out (e2.trans HN1.symm);exact HC.out e3):p:=h
theorem adb(h:p:=by
 go_ret;refine au.f (λ⟨i,m,e1,e2,e3,_⟩=>?_) (HB.alloc HB.size _);obtain⟨_,rfl⟩:=HN.inj e1 HX1.out (e2.trans HN1.symm);rw[hd] at e3;cases e3):p:=h
theorem ada(h:p:=by
 go_ret;refine au.f (λ⟨i,n,e1,e2,_⟩=>?_) (HB.alloc HB.size _);have:=(bo HN.out e1 e2).2;rw[HH.out] at this;cases this):p:=h
theorem qg(h:p:=by
 have z1033z:=@aa _ @Nl;exact gX):p:=h
theorem ac4(h:p:=by
 obtain⟨d4,f4,d5,f5,d6,f6⟩:=qt;have z1111z:=@aa _ @Ml;exact fB):p:=h
theorem ac3(h:p:=by
 have z1111z:=@aa _ @Mj;exact fB):p:=h
theorem ac2(h:p:=by
 obtain⟨d4,f4,d5,f5,d6,f6⟩:=qt;have d7:=ck7 g1;have f7:=al g1 7;have z1111z:=@aa _ @Mi;exact fB):p:=h
theorem ac1(h:p:=by
 have d4:=ck4 g1;have f4:=al g1 4;have z1111z:=@aa _ @Mh;exact fB):p:=h
theorem lG(h:p:=by
 rintro e w1 ⟨hb,hf⟩;have g1:=(hb.block (w.heap.size+1) aG).trans (eF _ _ _);obtain⟨d0,f0,d1,f1,d2,f2,d3,f3⟩:=Ob;exact z334z):p:=h
theorem acy(h:p:=by
 by_cases e:j=k
 ·subst e;rw[HXv.out] at hz;obtain rfl:=Yd hz;exact λh1 h2=>by rcases HCs.out with h|h;(rw[h] at h1;cases h1);exact absurd h h2
 ·exact HQ.out j z af hz):p:=h
theorem zI(h:p:=by
 have z1549z:=@aa _ @Fw;exact dB):p:=h
theorem acr(h:p:=by
 obtain⟨d4,f4,d5,f5,d6,f6⟩:=qt;have HB:=aa hb1;have hs1:=hb.size;rw[show (w.alloc (Y8 #[I ⟨#[]⟩,I ⟨#[]⟩,Y7 Y6 0,Y7 Y6 0,Y7 Y6 0,Y9 Y_,J U 0 0] 83)).heap.size=w.heap.size+1 from by simp] at hs1;have hlt1:w.heap.size<w1.heap.size:=af
 clear hb g1 HR1 hs1;cases hh:hit Nd.n xs t
 ·generalize pl Nd.n xs t=j;have HH:=aa hh;clear hh hb1 HR hxl;go_wp2;refine bodyPost_ret (v:=Zg #[Zc #[I ⟨#[]⟩,I ⟨#[]⟩,Y7 Y6 0,Y7 Y6 0,Y7 Y6 0,Y9 Y_,J U 0 0],Y9 Y_]) (by simp[results,Tryz.results170,go_sem, *]) rfl ⟨?_,Zd ⟨HH.out,rfl⟩⟩;exact Below.alloc (ah (Ye _) (ah (Ye _) (ah (Ye _) (ah (Ye _) (ah (Ye _) (ah (Ye _) (ah (Ye _) (HB.out)))))))) iK _
 ·obtain⟨x,hx,hn⟩:=cf hh;have hj:pl Nd.n xs t<len:=by have:=(Yc.1 hx).1;omega
  obtain⟨b,o,y,rfl,hbl,hy,hat⟩:=dh HR.out hj;rw[hx] at hy;obtain rfl:=Yd hy;obtain⟨va,vl,vc,hvr,z0,z1,c0,c1,c2,c3,c4,c5,c6⟩:=bg hat;obtain⟨hbw,e0,e1,e2,e3⟩:=uy;obtain⟨e4,e5⟩:=N0;have e6:=(ai hb1 hbw).trans ((ai HRW.out hbl).trans c6);have z780z:=@aa _ @U1;exact yO):p:=h
theorem acq(h:p:=by
 have HB:=aa hb1;have hs1:=hb.size;rw[show (w.alloc (Y8 #[I ⟨#[]⟩,Y9 Y_,Y9 Y_,I ⟨#[]⟩] 74)).heap.size=w.heap.size+1 from by simp] at hs1;have hlt1:w.heap.size<w1.heap.size:=af
 clear hb g1 HR1 hs1;cases hh:hit Kd.n xs t
 ·generalize pl Kd.n xs t=j;have HH:=aa hh;clear hh hb1 HR hxl;go_wp2;refine bodyPost_ret (v:=Zg #[Zc #[I ⟨#[]⟩,Y9 Y_,Y9 Y_,I ⟨#[]⟩],Y9 Y_]) (by simp[results,Tryz.results102,go_sem, *]) rfl ⟨?_,Zd ⟨HH.out,rfl⟩⟩;exact Below.alloc (ah (Ye _) (ah (Ye _) (ah (Ye _) (ah (Ye _) (HB.out))))) iK _
 ·obtain⟨x,hx,hn⟩:=cf hh;have hj:pl Kd.n xs t<len:=by have:=(Yc.1 hx).1;omega
  obtain⟨b,o,y,rfl,hbl,hy,hat⟩:=gH HR.out hj;rw[hx] at hy;obtain rfl:=Yd hy;obtain⟨z0,z3,c0,c1,c2,c3⟩:=da hat;obtain⟨hbw,e0,e1,e2,e3⟩:=uy;have z811z:=@aa _ @UB;exact yH):p:=h
theorem acp(h:p:=by
 have d4:=ck4 g1;have f4:=al g1 4;have HB:=aa hb1;have hs1:=hb.size;rw[show (w.alloc (Y8 #[I ⟨#[]⟩,Y7 Y6 0,I ⟨#[]⟩,Y9 Y_,I ⟨#[]⟩] 50)).heap.size=w.heap.size+1 from by simp] at hs1;have hlt1:w.heap.size<w1.heap.size:=af
 clear hb g1 HR1 hs1;cases hh:hit Xd.n xs t
 ·generalize pl Xd.n xs t=j;have HH:=aa hh;clear hh hb1 HR hxl;go_wp2;refine bodyPost_ret (v:=Zg #[Zc #[I ⟨#[]⟩,Y7 Y6 0,I ⟨#[]⟩,Y9 Y_,I ⟨#[]⟩],Y9 Y_]) (by simp[results,Tryz.results97,go_sem, *]) rfl ⟨?_,Zd ⟨HH.out,rfl⟩⟩;exact Below.alloc (ah (Ye _) (ah (Ye _) (ah (Ye _) (ah (Ye _) (ah (Ye _) (HB.out)))))) iK _
 ·obtain⟨x,hx,hn⟩:=cf hh;have hj:pl Xd.n xs t<len:=by have:=(Yc.1 hx).1;omega
  obtain⟨b,o,y,rfl,hbl,hy,hat⟩:=dL HR.out hj;rw[hx] at hy;obtain rfl:=Yd hy;obtain⟨z0,z2,z4,c0,c1,c2,c3,c4⟩:=bQ hat;obtain⟨hbw,e0,e1,e2,e3⟩:=uy;have e4:=(ai hb1 hbw).trans ((ai HRW.out hbl).trans c4);have z792z:=@aa _ @UQ;exact yK):p:=h
theorem lE(h:p:=by
 rintro e w1 ⟨rfl,hb⟩;obtain⟨g1,hb1,-⟩:=gM hb;obtain⟨d0,f0,d1,f1,d2,f2,d3,f3⟩:=Ob;exact z386z):p:=h
theorem acn(h:p:=by
 have z1105z:=@aa _ @Mp;exact tR):p:=h
theorem acm(h:p:=by
 refine (cM va vl vc v.zs n.n _ (HTv.below (HB.trans ((ak _ _).mono HB.size)))).mono ?_;rintro e w3 ⟨r,rfl,hi,hb3⟩;clear k0 k1 k2 k3 k4 k5 n0 n1 n2 n3 n4 n6 ltn_1 n5;obtain⟨HA0,hbx⟩:=aV hb3;replace Bk:=upK Bk hbx;replace Bn:=upK Bn hbx;have Bv:=aa HA0;replace HB:=upB HB hbx;clear hb3 hbx HA0;have HI:=aa hi;clear hi;cases r
 ·go_wp2;go_ret;refine au.f (λh=>?_) HB.out;obtain⟨i,v',e1,e2,e3⟩:=h k t HXt.out;obtain⟨_,rfl⟩:=HV.inj e1 HXv.out (e2.trans HNv.symm);rcases e3 with e3|e3
  ·rw[HD.out] at e3;cases e3
  ·have:=HI.2 e3;cases this
 ·go_wp2_with fail;refine⟨⟨k+1,by omega,by go_num,λj s hj hs=>?_,HB.out,Bk.out,Bn.out⟩,by simp[intOf];omega⟩;by_cases e:j=k
  ·subst e;rw[HXt.out] at hs;obtain rfl:=Yd hs;exact⟨_,v,HXv.out,HNv.out,Zd (HI.1 bM)⟩
  ·exact HQ.out j s af hs):p:=h
theorem zG(h:p:=by
 have HD:=aa hd;clear hd;obtain⟨k0,k1,k2,k3,k4,k5⟩:=cs6 Bk;obtain⟨n0,n1,n2,n3,n4,-,n6⟩:=cs7 Bn;have ltn_1:=ae Bn.out;have n5:=(an Bn.out 5).trans (congrArg (λz=>Y5 (Value.bool z)) HD.out);go_wp2_with fail;exact z391z):p:=h
theorem aci(h:p:=by
 by_cases e:j=k
 ·subst e;rw[HX.out] at hq;obtain rfl:=Yd hq;rfl
 ·exact absurd (HSe.out ▸ HQ.out j q af hq h1 h2) h1):p:=h
theorem ach(h:p:=by
 by_cases e:j=k
 ·subst e;rw[HX.out] at hq;obtain rfl:=Yd hq;rfl
 ·exact (HQ.out j q af hq h1 h2).trans HD.symm):p:=h
theorem zE(h:p:=by
 obtain⟨r0,r1,r2,r3,r4,r5⟩:=cs6 Br;go_wp2_with fail;refine⟨⟨k+1,p.d,by omega,rfl,by go_num,λj q hj hq h1 h2=>?_,Zd ⟨k,p,by omega,HX.out,HEm.out,HIn.out,rfl⟩,HB.out⟩,by simp[intOf];omega⟩;exact z397z):p:=h
theorem abX(h:p:=by
 go_enter Tryz.func143,Tryz.ntmps143;go_wp2;go_loopw [5,11] (λq i wr=> ∃(k:Nat) (s:Int),k<=l5/\q=Y7 Y6 s/\i=Y7 Y6 k/\Hid (s=cpuOf t (ps.take k))/\0<=s/\s<=k*1000000/\Hid (Below w.heap.size w wr)) (λ_ i _=>l5 - (intOf i).toNat);case atStart=>exact⟨0,0,by omega,rfl,rfl,rfl,by omega,by omega,ak _ _⟩
 case round=>
  obtain⟨k,s,hk,rfl,rfl,HS,hs0,hs1,HB⟩:=hrel;by_cases hlt:k<l5
  ·obtain⟨b,o,p,rfl,hb,hx,hat⟩:=cg (HR.below HB.out) hlt;have z1042z:=@aa _ @Nb;exact cK
  ·obtain rfl:l5=k:=af
   exact wR):p:=h
theorem abr(h:p:=by
 exact z170z):p:=h
theorem abb(h:p:=by
 have ev:=(HE.below HB.out).v1;go_wp2;go_ret;exact⟨HB.out,Ze ⟨1,by decide,⟨hl,λh=>(by have:=HI.2 h;cases this)⟩,rfl⟩⟩):p:=h
theorem aaq(h:p:=by
 have HR:=aa hr;have z1661z:=@aa _ @D9;exact r9):p:=h
theorem aap(h:p:=by
 have HR:=aa hr;obtain⟨hl5,hm5⟩:=nu;clear hr;go_enter Tryz.func144,Tryz.ntmps144;go_wp2;go_loopw [5,11] (λq i wr=> ∃(k:Nat) (s:ByteArray),k<=l5/\q=I s/\i=Y7 Y6 k/\Hid (∀(j:Nat) p,j<k->c.ps[j]?=Y5 p->¬p.d=⟨#[]⟩->InL p.zs t->p.d=s)/\Hid (s=⟨#[]⟩\/∃(j:Nat) (p:Pd),j<k/\c.ps[j]?=Y5 p/\¬p.d=⟨#[]⟩/\InL p.zs t/\p.d=s)/\Hid (Below w.heap.size w wr)) (λ_ i _=>l5 - (intOf i).toNat);case atStart=>exact⟨0,_,by omega,rfl,rfl,λ_ _ h=>absurd h af,Ze rfl,ak _ _⟩
 case round=>
  obtain⟨k,s,hk,rfl,rfl,HQ,HS,HB⟩:=hrel;by_cases hlt:k<l5
  ·obtain⟨b,o,p,rfl,hb,hx,hat⟩:=cg (HR.p.below HB.out) hlt;have z1042z:=@aa _ @Na;exact cK
  ·obtain rfl:l5=k:=af
   go_wp2;go_ret;refine au.t (λi j p q hi hj h1 h2 h3 h4=>?_) HB.out;rw[HQ.out i p (by have:=(Yc.1 hi).1;omega) hi h1 h3,HQ.out j q uo hj h2 h4]):p:=h
theorem aao(h:p:=by
 obtain⟨HR,hl1,hm1,hl3⟩:=Aq;have hm3:l3<=9223372036854775807:=Yp hr.v.2.1 hr.v.2.2.1;obtain⟨hl5,hm5⟩:=nu;clear hr;have HE:=aa hG;have HNR:=aa hn;have HXR:=aa hx;have HVR:=aa hv;have HNE:=aa hne;have HL5:=aa hps8;have HPC:=aa hpc;clear hn hx hv hne hps8 hpc hG;go_enter Tryz.func94,Tryz.ntmps94;go_wp2;go_loopw [12] (λi wr=> ∃k:Nat,k<=l5/\i=Y7 Y6 k/\Hid (∀(j:Nat) z,j<k->c.ps[j]?=Y5 z->PQ1 c z)/\Hid (Below w.heap.size w wr)/\Hid (wr.heap[w.heap.size]?=Y5 (Y8 (clo6 a1 l1 y1 a2 l2 y2 a3 l3 y3 a4 l4 y4 a5 l5 y5 c.now) 29 (0,0)))) (λi _=>l5 - (intOf i).toNat);case atStart=>exact⟨0,by omega,rfl,λ_ _ h=>absurd h af,ak _ _,Yg⟩
 case round=>
  obtain⟨k,hk,rfl,HQ,HB,Bk⟩:=hrel;by_cases hlt:k<l5
  ·have z952z:=@aa _ @SB;exact yA
  ·obtain rfl:l5=k:=af
   have HQ1:Hid (∀(j:Nat) z,c.ps[j]?=Y5 z->PQ1 c z):=λj z hz=>HQ.out j z dz hz;clear HQ;have kc:=ck0 Bk;go_wp2;go_loopw [36] (λi wr=> ∃k:Nat,k<=l1/\i=Y7 Y6 k/\Hid (∀(j:Nat) z,j<k->c.ns[j]?=Y5 z->PQ2 c z)/\Hid (Below w.heap.size w wr)/\Hid (wr.heap[w.heap.size]?=Y5 (Y8 (clo6 a1 l1 y1 a2 l2 y2 a3 l3 y3 a4 l4 y4 a5 l5 y5 c.now) 29 (0,0)))) (λi _=>l1 - (intOf i).toNat);case atStart=>exact⟨0,by omega,rfl,λ_ _ h=>absurd h af,HB.out,Bk.out⟩
   case round=>
    obtain⟨k,hk,rfl,HQ,HB,Bk⟩:=hrel;by_cases hlt:k<l1
    ·have z900z:=@aa _ @Th;exact fQ
    ·obtain rfl:l1=k:=af
     have HQ2:Hid (∀(j:Nat) z,c.ns[j]?=Y5 z->PQ2 c z):=λj z hz=>HQ.out j z dz hz;clear HQ;have kc:=ck2 Bk;go_wp2;go_loopw [51] (λi wr=> ∃k:Nat,k<=l3/\i=Y7 Y6 k/\Hid (∀(j:Nat) z,j<k->c.vs[j]?=Y5 z->PQ3 c z)/\Hid (Below w.heap.size w wr)/\Hid (wr.heap[w.heap.size]?=Y5 (Y8 (clo6 a1 l1 y1 a2 l2 y2 a3 l3 y3 a4 l4 y4 a5 l5 y5 c.now) 29 (0,0)))) (λi _=>l3 - (intOf i).toNat);case atStart=>exact⟨0,by omega,rfl,λ_ _ h=>absurd h af,HB.out,Bk.out⟩
     case round=>
      obtain⟨k,hk,rfl,HQ,HB,Bk⟩:=hrel;by_cases hlt:k<l3
      ·have z1289z:=@aa _ @JS;exact mV
      ·obtain rfl:l3=k:=af
       have HQ3:Hid (∀(j:Nat) z,c.vs[j]?=Y5 z->PQ3 c z):=λj z hz=>HQ.out j z dz hz;clear HQ;go_wp2;go_ret;exact au.t ⟨HQ1.out,HQ2.out,HQ3.out⟩ HB.out):p:=h
theorem aan(h:p:=by
 have z1775z:=@aa _ @CB;exact rQ):p:=h
theorem aam(h:p:=by
 have z1416z:=@aa _ @Ii;exact sR):p:=h
theorem XH(h:p:=by
 refine (cB c 0 1000000 _).mono ?_;have z941z:=@aa _ @SH;exact iu):p:=h
theorem XG(h:p:=by
 refine (bA k _ hk).mono ?_;have z941z:=@aa _ @SG;exact iu):p:=h
theorem XF(h:p:=by
 refine (dR z _ hz).mono ?_;have z941z:=@aa _ @SF;exact iu):p:=h
theorem XC(h:p:=by
 have e3:=hf 3 ag;simp[Gi.aj,Yf] at e3;exact kB):p:=h
theorem XB(h:p:=by
 have e6:=hf 6 ag;simp[Gi.aj,Yf] at e6;exact kB):p:=h
theorem XA(h:p:=by
 have e9:=hf 9 ag;simp[Gi.aj,Yf] at e9;exact kB):p:=h
theorem Xz(h:p:=by
 have e12:=hf 12 ag;simp[Gi.aj,Yf] at e12;exact kB):p:=h
theorem Xy(h:p:=by
 have e15:=hf 15 ag;simp[Gi.aj,Yf] at e15;exact kB):p:=h
theorem Xx(h:p:=by
 have e18:=hf 18 ag;simp[Gi.aj,Yf] at e18;exact kB):p:=h
theorem Xw(h:p:=by
 have e1:=hf 1 ag;simp[Gi.aj,Yf] at e1;clear hf;exact aK):p:=h
theorem fT(h:p:=by
 refine Gi.Obl.plain rfl ?_;intro ac wg K lo hi hsz hW hpr hf hap hK;clear hsz hap hpr;exact z599z):p:=h
theorem Xv(h:p:=by
 clear hb3 d0 d1 d2 d3 d4 d5 d6;exact uL):p:=h
theorem Xu(h:p:=by
 clear hb3 d0 d1 d2 d3;exact uL):p:=h
theorem Xt(h:p:=by
 clear hb3 d0 d1 d2 d3 d4 d5 d6 d7;exact uL):p:=h
theorem Xs(h:p:=by
 clear hb3 d0 d1 d2 d3 d4;exact uL):p:=h
theorem Xr(h:p:=by
 clear hb3 d0 d1 d2 d3 d4 d5;exact uL):p:=h
theorem jA(h:p:=by
 rw[hless] at htri;go_wp2_with fail;refine (HC.out _).mono ?_;rintro e w3 ⟨rfl,hb3⟩;have HB4:=aa (HB3.trans (hb3.mono (Yp HB.size af)));exact z607z):p:=h
theorem Xb(h:p:=by
 rcases hf with ⟨hh,x,hx,hn,rfl,z0,z2,z4⟩|⟨hh,rfl⟩
 ·have HX1:=aa hx;have HN1:=aa hn;clear hx hn hh z0 z2 z4;have z170z:=@aa _ @afd;exact fW
 ·have HH1:=aa hh;clear hh;have z170z:=@aa _ @afc;exact fW):p:=h
theorem Xa(h:p:=by
 have HI1:=aa hi;clear hi;cases r
 ·exact Qx
 obtain⟨k0,k1,k2,k3,k4,k5⟩:=cs6 Bk;go_wp2_with fail;refine (vV _ _ _ c.ks 8 _ (HR.k.below HB.out)).mono ?_;rintro e w2 ⟨r,rfl,hi,hb⟩;have z1316z:=@aa _ @Jx;exact fz):p:=h
theorem WW(h:p:=by
 clear hat hx hvk z0 z2 z4;have hn8:=rk Xd.n t (xs.take k);have hn9:(wo Xd.n t (xs.take k)).length<=k:=by rw[YF] at hn8;omega
 go_wp2_with fail;refine (gu x _).mono ?_;rintro e w1 ⟨rfl,hb1⟩;obtain⟨hn1,hbx⟩:=aV hb1;obtain⟨n0,n1,n2,n3,n4⟩:=cs5 hn1;have z1174z:=@aa _ @LB;exact mX):p:=h
theorem WV(h:p:=by
 replace c5:=(ai HB.out hb).trans c5;replace c6:=(ai HB.out hb).trans c6;replace c7:=(ai HB.out hb).trans c7;clear hat hx hvk hvr z0 z2 z3 z5;have hn8:=rk Vd.n t (xs.take k);have hn9:(wo Vd.n t (xs.take k)).length<=k:=by rw[YF] at hn8;omega
 go_wp2_with fail;refine (eH x va vl vc _).mono ?_;rintro e w1 ⟨rfl,hb1⟩;obtain⟨hn1,hbx⟩:=aV hb1;obtain⟨n0,n1,n2,n3,n4,n5,n6,n7⟩:=cs8 hn1;have z1174z:=@aa _ @LA;exact mX):p:=h
theorem pR(h:p:=by
 have HX:=aa hx;have HVK:=aa hvk;replace c0:=(ai HB.out hb).trans c0;replace c1:=(ai HB.out hb).trans c1;replace c2:=(ai HB.out hb).trans c2;replace c3:=(ai HB.out hb).trans c3;replace c4:=(ai HB.out hb).trans c4;exact z637z):p:=h
theorem WI(h:p:=by
 have hz:(p.z=⟨#[]⟩\/p.z=n.z)\/¬(p.z=⟨#[]⟩\/p.z=n.z):=Classical.em _;rcases hz with hz|hz;rotate_left
 ·have q1:=aY (λe=>hz (Ze e));have q2:=bu (λe=>hz (Zd e));have HC:=aa hz;clear hz;have z322z:=@aa _ @ade;exact qg
 have HC:=aa hz;have hq:(p.z.toList.isEmpty=Zb)\/(p.z.toList.isEmpty=Y_/\(p.z.toList==n.z.toList)=Zb):=by
  by_cases e:p.z=⟨#[]⟩
  ·exact Ze (cC e)
  ·exact Zd ⟨aY e,aP (HC.resolve_left e)⟩
 clear hz;rcases hq with hq|⟨hq,hq2⟩
 ·exact ah8
 ·exact ah8):p:=h
theorem WH(h:p:=by
 cases hd:n.d;rotate_left
 ·have z322z:=@aa _ @adb;exact qg
 have HC:=aa hd;clear hd;have z1033z:=@aa _ @Nk;exact gX):p:=h
theorem zb(h:p:=by
 go_wp2_with fail;refine (oj d c.now c.ns p.d w _ HR.n (aS _ _ _)).mono ?_;rintro e w1 ⟨hb,hf⟩;obtain⟨HA0,HA1,hbx⟩:=dP hb;have Bk:=aa HA0;have Bp:=aa HA1;replace HB:=upB HB hbx;clear hb hbx HA0 HA1;rcases hf with ⟨hh,n,va,vl,vc,hx,hn,rfl,z0,z1,hvr⟩|⟨hh,rfl⟩;rotate_left
 ·exact akC
 have HX1:=aa hx;have HN1:=aa hn;have HT1:=aa hvr;clear hx hn hh z0 z1 hvr;exact z655z):p:=h
theorem V4(h:p:=by
 go_enter Tryz.func103,Tryz.ntmps103;go_wp2;go_loopw [10] (λi wr=> ∃k:Nat,k<=len/\i=Y7 Y6 k/\Hid (∀(j:Nat) y,j<k->xs[j]?=Y5 y->Yk y.n.toList t.toList=Zb)/\Hid (Below w.heap.size w wr)) (λi _=>len - (intOf i).toNat);case atStart=>exact⟨0,by omega,rfl,λj y hj=>by omega,Yh _ _⟩
 case round=>
  obtain⟨k,hk,rfl,HE,HB⟩:=hrel;by_cases hlt:k<len
  ·obtain⟨b,o,x,rfl,hb,hx,hat⟩:=bK (HR.below HB.out) hlt;have z280z:=@aa _ @adI;exact fV
  ·obtain rfl:k=len:=af
   have hp:pl Vd.n xs t=xs.length:=fY (λj y hy=>HE.out j y kV hy);have hh:hit Vd.n xs t=Y_:=by unfold hit;rw[hp,List.getElem?_eq_none (Ye _)]
   have HP:=aa hp;have HH:=aa hh;clear hp hh;go_wp2;exact bodyPost_ret (v:=Zg #[Y7 Y6 k,Y9 Y_]) (by simp[results,Tryz.results103,go_sem]) rfl ⟨by rw[HP.out,HH.out,hxl],HB.out⟩):p:=h
theorem V3(h:p:=by
 have hmright:∀(v:Value) (w:World),(method 344 38 v "loop.example/g00571/impl.right").run Tryz.prog w=.ok (193,v) w:=λ_ _=>by kernel_rfl
 by_cases hmo:most<(len:Int)
 ·go_enter Tryz.func136,Tryz.ntmps136;exact nA
 go_enter Tryz.func136,Tryz.ntmps136;go_wp2;go_loopw [5,14] (λq i wr=> ∃(k:Nat) (y:ByteArray),k<=len/\q=I y/\i=Y7 Y6 k/\Hid (k=0->y=⟨#[]⟩)/\Hid (∀z,0<k->xs[k - 1]?=Y5 z->z.n=y)/\Hid (∀(j:Nat) z,j<k->xs[j]?=Y5 z->pA z)/\Hid (∀(j:Nat) z u,j+1<k->xs[j+1]?=Y5 z->xs[j]?=Y5 u->Yk u.n.toList z.n.toList=Zb)/\Hid (Below w.heap.size w wr)) (λ_ i _=>len - (intOf i).toNat);case atStart=>exact⟨0,_,by omega,rfl,rfl,λ_=>rfl,λ_ h=>absurd h af,λ_ _ h=>absurd h af,λ_ _ _ h=>absurd h af,Yh _ _⟩
 case round=>
  obtain⟨k,y,hk,rfl,rfl,H0,H1,HE,HO,HB⟩:=hrel;by_cases hlt:k<len
  ·obtain⟨b,o,x,rfl,hb,hx,hat⟩:=bK (HR.below HB.out) hlt;have z1559z:=@aa _ @Fi;exact eQ
  ·exact uG):p:=h
theorem pN(h:p:=by
 have hmcalled:∀(v:Value) (w:World),(method 344 38 v "loop.example/g00571/impl.called").run Tryz.prog w=.ok (192,v) w:=λ_ _=>by kernel_rfl
 exact z699z):p:=h
theorem VX(h:p:=by
 have z1156z:=@aa _ @LO;exact tG):p:=h
theorem VW(h:p:=by
 have z1178z:=@aa _ @Ly;exact tA):p:=h
theorem VV(h:p:=by
 rw[show (wr.alloc (Y8 (xov x) 50)).heap.size=wr.heap.size+1 from by simp] at hs1;obtain⟨HB2,d0,d1,d2,d3⟩:=oR;have d4:=ck4 g1;have HG:=aa g1;have HI:=aa hrt;clear g1 hb1 HB1 HRt hrt c0 c1 c2 c3 c4;have z271z:=@aa _ @adO;exact jC):p:=h
theorem VU(h:p:=by
 have z1171z:=@aa _ @LD;exact tB):p:=h
theorem ly(h:p:=by
 go_wp2_with fail;refine HRt.mono ?_;rintro e w1 ⟨r,rfl,hrt,hb1⟩;obtain⟨g1,-,-⟩:=gM hb1;have hs1:=hb1.size;exact z708z):p:=h
theorem VR(h:p:=by
 have z1156z:=@aa _ @LN;exact tG):p:=h
theorem VQ(h:p:=by
 have z1178z:=@aa _ @Lx;exact tA):p:=h
theorem VP(h:p:=by
 rw[show (wr.alloc (Y8 (xov x) 50)).heap.size=wr.heap.size+1 from by simp] at hs1;obtain⟨HB2,d0,d1,d2,d3⟩:=oR;have d4:=ck4 g1;clear g1 hb1 c0 c1 c2 c3 c4 HB1;cases hless:Yk x.n.toList t.toList
 ·have z317z:=@aa _ @adg;exact lH
 ·exact uF):p:=h
theorem VO(h:p:=by
 have z1138z:=@aa _ @L0;exact tL):p:=h
theorem jz(h:p:=by
 go_wp2_with fail;refine (HC.out _).mono ?_;rintro e w1 ⟨rfl,hb1⟩;obtain⟨g1,-,-⟩:=gM hb1;have hs1:=hb1.size;exact z716z):p:=h
theorem VL(h:p:=by
 go_enter Tryz.func54,Tryz.ntmps54;go_wp2;go_loopw [5,10] (λvo vi wr=> ∃(k:Nat) (vss:List (List Value)) (H:Nat->Nat->Nat),k<=len/\vi=Y7 Y6 k/\Hid (wr.ownsRow w.heap.size 83 7 vo k vss.flatten)/\Hid (aQ wr (λk=>w.heap.size<=k) 7 ((xs.take k).map ndF) vss H)/\Hid (Below w.heap.size w wr)) (λ_ vi _=>len - (intOf vi).toNat);case atStart=>exact⟨0,[],λ_ _=>0,by omega,rfl,World.ownsRow_nil _ _ _ _,aQ.nil _ _ _ _,Yh _ _⟩
 case round=>
  obtain⟨k,vss,H,hk,rfl,HO,HV,HB⟩:=hrel;have hBs:=HB.size;by_cases hlt:k<len
  ·have z1118z:=@aa _ @Mc;exact m_
  ·have z306z:=@aa _ @adq;exact qi):p:=h
theorem VK(h:p:=by
 go_enter Tryz.func56,Tryz.ntmps56;go_wp2;go_loopw [5,10] (λvo vi wr=> ∃(k:Nat) (vss:List (List Value)) (H:Nat->Nat->Nat),k<=len/\vi=Y7 Y6 k/\Hid (wr.ownsRow w.heap.size 38 8 vo k vss.flatten)/\Hid (aQ wr (λk=>w.heap.size<=k) 8 ((xs.take k).map vdF) vss H)/\Hid (Below w.heap.size w wr)) (λ_ vi _=>len - (intOf vi).toNat);case atStart=>exact⟨0,[],λ_ _=>0,by omega,rfl,World.ownsRow_nil _ _ _ _,aQ.nil _ _ _ _,Yh _ _⟩
 case round=>
  obtain⟨k,vss,H,hk,rfl,HO,HV,HB⟩:=hrel;have hBs:=HB.size;by_cases hlt:k<len
  ·obtain⟨b,o,x,rfl,hb,hx,hat⟩:=bK (HR.below HB.out) hlt;have z280z:=@aa _ @adJ;exact fV
  ·have z306z:=@aa _ @adp;exact qi):p:=h
theorem VJ(h:p:=by
 go_enter Tryz.func58,Tryz.ntmps58;go_wp2;go_loopw [5,10] (λvo vi wr=> ∃(k:Nat) (vss:List (List Value)) (H:Nat->Nat->Nat),k<=len/\vi=Y7 Y6 k/\Hid (wr.ownsRow w.heap.size 40 6 vo k vss.flatten)/\Hid (aQ wr (λk=>w.heap.size<=k) 6 ((xs.take k).map pdF) vss H)/\Hid (Below w.heap.size w wr)) (λ_ vi _=>len - (intOf vi).toNat);case atStart=>exact⟨0,[],λ_ _=>0,by omega,rfl,World.ownsRow_nil _ _ _ _,aQ.nil _ _ _ _,Yh _ _⟩
 case round=>
  obtain⟨k,vss,H,hk,rfl,HO,HV,HB⟩:=hrel;have hBs:=HB.size;by_cases hlt:k<len
  ·obtain⟨b,o,x,rfl,hb,hx,hat⟩:=cg (HR.below HB.out) hlt;have z1042z:=@aa _ @M_;exact cK
  ·have z306z:=@aa _ @ado;exact qi):p:=h
theorem VG(h:p:=by
 go_wp2;go_ret;refine au.f (λh=>?_) (HB.alloc HB.size _);obtain⟨i,v,e1,e2,_⟩:=h k t HXt.out;have:=(bo HV.out e1 e2).2;rw[HH.out] at this;cases this):p:=h
theorem VF(h:p:=by
 go_wp2;go_ret;refine au.f (λ⟨i,m,e1,e2,e3,e4⟩=>?_) (HB.alloc HB.size _);obtain⟨v,e5,_⟩:=e4 k t HXt.out;exact HD.out v e5):p:=h
theorem VE(h:p:=by
 go_wp2_with fail;refine (cM va vl vc n.zs v.n _ (HT1.below (HB.trans ((ak _ _).mono HB.size)))).mono ?_;rintro e w3 ⟨r,rfl,hi,hb3⟩;clear k0 k1 k2 k3 k4 k5 n0 n1 n2 n3 n4 n5 n6 ltn_1;obtain⟨HA0,hbx⟩:=aV hb3;replace Bk:=upK Bk hbx;replace Bn:=upK Bn hbx;replace HB:=upB HB hbx;clear hb3 hbx HA0;have HI:=aa hi;clear hi;cases r
 ·go_wp2;go_ret;refine au.f (λ⟨i,m,e1,e2,e3,e4⟩=>?_) HB.out;obtain⟨_,rfl⟩:=HN.inj e1 HX1.out (e2.trans HN1.symm);obtain⟨v',e5,e6⟩:=e4 k t HXt.out;obtain rfl:=aO.inj HX.out HV.out HD.out e5;have:=HI.2 e6;cases this
 ·go_wp2_with fail;refine⟨⟨k+1,by omega,by go_num,λj s hj hs=>?_,HB.out,Bk.out,Bn.out⟩,by simp[intOf];omega⟩;by_cases e:j=k
  ·subst e;rw[HXt.out] at hs;obtain rfl:=Yd hs;exact⟨v,HD.out,HI.1 bM⟩
  ·exact HQ.out j s af hs):p:=h
theorem VD(h:p:=by
 go_wp2_with fail;have z1105z:=@aa _ @Mo;exact tR):p:=h
theorem VC(h:p:=by
 go_wp2;go_ret;refine au.f (λ⟨i,m,e1,e2,e3,e4⟩=>?_) (HB.alloc HB.size _);obtain⟨_,rfl⟩:=HN.inj e1 HX1.out (e2.trans HN1.symm);obtain⟨v',e5,e6⟩:=e4 k t HXt.out;obtain rfl:=aO.inj HX.out HV.out HD.out e5;exact HZ2.out e6):p:=h
theorem jy(h:p:=by
 obtain⟨k0,k1,k2,k3,k4,k5⟩:=cs6 Bk;obtain⟨n0,n1,n2,n3,n4,n5,n6⟩:=cs7 Bn;have ltn_1:=ae Bn.out;exact z729z):p:=h
theorem VB(h:p:=by
 have Bx:=aa HA0;replace HB:=upB HB hbx;clear hb hbx HA0;rcases hf with ⟨hh,v,va,vl,vc,hx,hn,rfl,z0,z2,z3,z5,hvr⟩|⟨hh,rfl⟩
 ·have HX2:=aa hx;have HN2:=aa hn;clear hx hn hh z0 z2 z3 z5 hvr;obtain⟨x0,x1,x2,x3,x4⟩:=cs5 Bx;have ltx_2:=ae Bx.out;cases q1:(x.v.toList==s.toList)
  ·go_wp2;go_ret;refine au.f (λ⟨i,j,x',v',e1,e2,e3,e4,e5,_⟩=>?_) (HB.alloc HB.size _);obtain⟨_,rfl⟩:=HX.inj e1 HX1.out (e2.trans HN1.symm);rw[aP e5] at q1;cases q1
  cases q2:(v.m.toList==t.toList)
  ·go_wp2;go_ret;refine au.f (λ⟨i,j,x',v',e1,e2,e3,e4,e5,e6,_⟩=>?_) (HB.alloc HB.size _);obtain⟨_,rfl⟩:=HV.inj e3 HX2.out (e4.trans HN2.symm);rw[aP e6] at q2;cases q2
  by_cases q3:x.z<=v.c;rotate_left
  ·go_wp2;go_ret;refine au.f (λ⟨i,j,x',v',e1,e2,e3,e4,e5,e6,e7,_⟩=>?_) (HB.alloc HB.size _);have z1122z:=@aa _ @Mb;exact mZ
  cases q4:(v.k.toList==x.k.toList)
  ·go_wp2;go_ret;refine au.f (λ⟨i,j,x',v',e1,e2,e3,e4,e5,e6,e7,e8,_⟩=>?_) (HB.alloc HB.size _);have z1122z:=@aa _ @Ma;exact mZ
  cases q5:(v.x==x.x)
  ·go_wp2;go_ret;refine au.f (λ⟨i,j,x',v',e1,e2,e3,e4,e5,e6,e7,e8,e9⟩=>?_) (HB.alloc HB.size _);have z1122z:=@aa _ @L_;exact mZ
  ·go_wp2;go_ret;exact au.t ⟨_,_,x,v,HX1.out,HN1.out,HX2.out,HN2.out,di q1,di q2,q3,di q4,by simpa using q5⟩ (HB.alloc HB.size _)
 ·have HH2:=aa hh;clear hh;have z1165z:=@aa _ @LH;exact tD):p:=h
theorem VA(h:p:=by
 have Bx:=aa HA0;replace HB:=upB HB hbx;clear hb hbx HA0;rcases hf with ⟨hh,v,va,vl,vc,hx,hn,rfl,z0,z2,z3,z5,hvr⟩|⟨hh,rfl⟩
 ·have HX2:=aa hx;have HN2:=aa hn;clear hx hn hh z0 z2 z3 z5 hvr;exact Qw
 ·have HH2:=aa hh;clear hh;exact Qw):p:=h
theorem Vz(h:p:=by
 replace Bs:=upK Bs hbx;have Bx:=aa HA0;replace HB:=upB HB hbx;clear hb hbx HA0;rcases hf with ⟨hh,v,va,vl,vc,hx,hn,rfl,z0,z2,z3,z5,hvr⟩|⟨hh,rfl⟩
 ·have HX2:=aa hx;have HN2:=aa hn;have HT:=aa hvr;have HZ0:=aa z0;have HZ2:=aa z2;clear hx hn hh z0 z2 z3 z5 hvr;have z1181z:=@aa _ @Lw;exact mW
 ·have HH2:=aa hh;clear hh;have z1181z:=@aa _ @Lv;exact mW):p:=h
theorem Vy(h:p:=by
 replace Bs:=upK Bs hbx;have Bx:=aa HA0;replace HB:=upB HB hbx;clear hb hbx HA0;rcases hf with ⟨hh,v,va,vl,vc,hx,hn,rfl,z0,z2,z3,z5,hvr⟩|⟨hh,rfl⟩
 ·have HX2:=aa hx;have HN2:=aa hn;have HT:=aa hvr;have HZ0:=aa z0;have HZ2:=aa z2;clear hx hn hh z0 z2 z3 z5 hvr;exact absurd HN2.out (HNE.out _ _ HX2.out)
 ·have HH2:=aa hh;clear hh;have z1181z:=@aa _ @Lu;exact mW):p:=h
theorem iy(h:p:=by
 clear k0 k1 k2 k3 k4 k5 ltk_1;obtain⟨HA0,hbx⟩:=aV hb;replace Bk:=upK Bk hbx;exact z735z):p:=h
theorem Vm(h:p:=by
 refine (xB d c _ (HR.below HB.out) HOK.2.2.2.1.2.2 HOK.2.2.1.2.2 (HE.below HB.out)).mono ?_;have z1108z:=@aa _ @Mm;exact tQ):p:=h
theorem U_(h:p:=by
 clear c0 c1 c2 c3 c4 c5 c6 c7 hat hx hn hy hh z0 z2 z3 z5 hvr HR HRW hb1;obtain⟨j,hjj⟩:∃j,pl Vd.n xs t=j:=⟨_,rfl⟩;rw[hjj] at hj;simp only[hjj] at*;clear hjj;go_wp2;refine bodyPost_ret (v:=Zg #[Zc #[I x.n,Y7 Y6 x.c,I x.z,I x.k,Y9 x.x,I x.m,Y9 x.y,J va vl vc],Y9 Zb]) (by simp[results,Tryz.results101,go_sem, *]) rfl ⟨?_,HI.2⟩;exact ah (Ye _) (ah (Ye _) (ah (Ye _) (ah (Ye _) (ah (Ye _) (ah (Ye _) (ah (Ye _) (ah (Ye _) (HB.out))))))))):p:=h
theorem U9(h:p:=by
 clear hx hn hh z0 z2 z3 z5 hvr;go_wp2;refine bodyPost_ret (v:=Zg #[Zc #[I x.n,Y7 Y6 x.c,I x.z,I x.k,Y9 x.x,I x.m,Y9 x.y,J va vl vc],Y9 Zb]) (by simp[results,Tryz.results60,go_sem, *]) rfl ⟨?_,HI.2⟩;exact Qt):p:=h
theorem yP(h:p:=by
 have HI:Hid (RF xs t r w (Za (Zg #[Zc #[I x.n,Y7 Y6 x.c,I x.z,I x.k,Y9 x.x,I x.m,Y9 x.y,J va vl vc],Y9 Zb])) w):=⟨Yh _ _,Ze ⟨hh,x,va,vl,vc,hx,hn,rfl,z0,z2,z3,z5,hvr⟩⟩;exact z770z):p:=h
theorem U8(h:p:=by
 go_wp2;go_ret;refine au.f (λh=>?_) (HB.alloc HB.size _);obtain⟨i,m,e1,e2,_⟩:=(h.1 k v HXv.out) kq t HXt.out;have:=(bo HNR.out e1 e2).2;rw[HH.out] at this;cases this):p:=h
theorem U7(h:p:=by
 go_wp2_with fail;refine⟨⟨kq+1,by omega,by go_num,λj s hj hs=>?_,HBW1.alloc HBW1.size _⟩,by simp[intOf];omega⟩;by_cases e:j=kq
 ·subst e;rw[HXt.out] at hs;obtain rfl:=Yd hs;exact⟨_,m,HXm.out,HNm.out,HZ.out⟩
 ·exact HQ2.out j s af hs):p:=h
theorem U6(h:p:=by
 go_wp2;go_ret;refine au.f (λh=>?_) (HB.alloc HB.size _);obtain⟨i,m2,e1,e2,e3⟩:=(h.1 k v HXv.out) kq t HXt.out;obtain⟨_,rfl⟩:=HNR.inj e1 HXm.out (e2.trans HNm.symm);exact HZ.out e3):p:=h
theorem U2(h:p:=by
 clear hx hn hh z0 z1 hvr;go_wp2;refine bodyPost_ret (v:=Zg #[Zc #[I x.n,I x.z,Y7 Y6 x.c,Y7 Y6 x.s,Y7 Y6 x.u,Y9 x.d,J va vl vc],Y9 Zb]) (by simp[results,Tryz.results145,go_sem, *]) rfl ⟨?_,HI.2⟩;exact Qh):p:=h
theorem U1(h:p:=by
 clear c0 c1 c2 c3 c4 c5 c6 hat hx hn hy hh z0 z1 hvr HR HRW hb1;obtain⟨j,hjj⟩:∃j,pl Nd.n xs t=j:=⟨_,rfl⟩;rw[hjj] at hj;simp only[hjj] at*;clear hjj;go_wp2;refine bodyPost_ret (v:=Zg #[Zc #[I x.n,I x.z,Y7 Y6 x.c,Y7 Y6 x.s,Y7 Y6 x.u,Y9 x.d,J va vl vc],Y9 Zb]) (by simp[results,Tryz.results170,go_sem, *]) rfl ⟨?_,HI.2⟩;exact ah (Ye _) (ah (Ye _) (ah (Ye _) (ah (Ye _) (ah (Ye _) (ah (Ye _) (ah (Ye _) (HB.out)))))))):p:=h
theorem yO(h:p:=by
 have HI:Hid (RG xs t r w (Za (Zg #[Zc #[I x.n,I x.z,Y7 Y6 x.c,Y7 Y6 x.s,Y7 Y6 x.u,Y9 x.d,J va vl vc],Y9 Zb])) w):=⟨Yh _ _,Ze ⟨hh,x,va,vl,vc,hx,hn,rfl,z0,z1,hvr⟩⟩;exact z780z):p:=h
theorem US(h:p:=by
 clear hx hn hh z0 z2 z4;go_wp2;refine bodyPost_ret (v:=Zg #[Zc #[I x.n,Y7 Y6 x.z,I x.k,Y9 x.x,I x.v],Y9 Zb]) (by simp[results,Tryz.results51,go_sem, *]) rfl ⟨?_,HI.2⟩;exact P4):p:=h
theorem UQ(h:p:=by
 clear c0 c1 c2 c3 c4 hat hx hn hy hh z0 z2 z4 HR HRW hb1;obtain⟨j,hjj⟩:∃j,pl Xd.n xs t=j:=⟨_,rfl⟩;rw[hjj] at hj;simp only[hjj] at*;clear hjj;go_wp2;refine bodyPost_ret (v:=Zg #[Zc #[I x.n,Y7 Y6 x.z,I x.k,Y9 x.x,I x.v],Y9 Zb]) (by simp[results,Tryz.results97,go_sem, *]) rfl ⟨?_,HI.2⟩;exact ah (Ye _) (ah (Ye _) (ah (Ye _) (ah (Ye _) (ah (Ye _) (HB.out)))))):p:=h
theorem yK(h:p:=by
 have HI:Hid (RE xs t r w (Za (Zg #[Zc #[I x.n,Y7 Y6 x.z,I x.k,Y9 x.x,I x.v],Y9 Zb])) w):=⟨Yh _ _,Ze ⟨hh,x,hx,hn,rfl,z0,z2,z4⟩⟩;exact z792z):p:=h
theorem UM(h:p:=by
 have e4:=hf 4 ag;simp[Gi.aj,Yf] at e4;clear hf;go_simp;refine (qM d.a1 d.l1 d.c1 c.ns _ (HR.n.below (HB.trans (Below.mono hW HB.size))) (by have:=HS.n;omega) HS.ns).mono ?_;exact wO):p:=h
theorem UL(h:p:=by
 have e7:=hf 7 ag;simp[Gi.aj,Yf] at e7;clear hf;cases hq:d.a2 with
 | none=>
  have h0:c.ks=[]:=by
   rcases HR.k.2.2.2 with h|⟨b,o,e,_⟩
   ·have h9:c.ks.map kdF=[]:=h
    simpa using h9
   ·rw[hq] at e;cases e
  have hl0:d.l2=0:=by rw[<-hl2,h0];rfl
  rw[hq,hl0] at e7;go_simp;refine hK _ _ (Yh _ _) ⟨U,0,by rw[hl0],?_,Below.size hW⟩;rw[hl0,h0];exact aw.nil _ _ _ _ _ af
 | some ad=>
  rw[hq] at e7;have hin:=HR.k.below (HB.trans (Below.mono hW HB.size));have hin2:aT wg d.a2 d.l2 d.c2 4 (c.ks.map kdF):=hin;rw[hq] at hin2
  have hz:i2.zero=Y5 (Zc #[I ⟨#[]⟩,Y9 Y_,Y9 Y_,I ⟨#[]⟩])/\i2.size=4/\i2.bytes=40:=by have:=HI2.2;simp only[Prod.mk.injEq] at this;exact this
  refine xY _ (.tmp 7) 24 74 rfl i2 (Zc #[I ⟨#[]⟩,Y9 Y_,Y9 Y_,I ⟨#[]⟩]) 4 40 Tryz.underlying24 HI2.1 hz.1 hz.2.1 hz.2.2 rfl ag ag wg.heap.size (J U 0 0) rfl (World.ownsRow_nil _ _ _ _) (Ye _) (by simpa[Act.eval] using e7) hin2 (jU AB _) (by have:=HS.k;omega) ag ?_;intro a' c' w' hR hg;exact hK _ _ ((Yh _ _).grown hg (Ye _) (λk hk=>by cases hk)) ⟨a',c',rfl,hR,Below.size hW⟩):p:=h
theorem UK(h:p:=by
 have e10:=hf 10 ag;simp[Gi.aj,Yf] at e10;clear hf;go_simp;refine (qK d.a3 d.l3 d.c3 c.vs _ (HR.v.below (HB.trans (Below.mono hW HB.size))) (by have:=HS.v;omega) HS.vs).mono ?_;exact wO):p:=h
theorem UJ(h:p:=by
 have e13:=hf 13 ag;simp[Gi.aj,Yf] at e13;clear hf;cases hq:d.a4 with
 | none=>
  have h0:c.xs=[]:=by
   rcases HR.x.2.2.2 with h|⟨b,o,e,_⟩
   ·have h9:c.xs.map xdF=[]:=h
    simpa using h9
   ·rw[hq] at e;cases e
  have hl0:d.l4=0:=by rw[<-hl4,h0];rfl
  rw[hq,hl0] at e13;go_simp;refine hK _ _ (Yh _ _) ⟨U,0,by rw[hl0],?_,Below.size hW⟩;rw[hl0,h0];exact aw.nil _ _ _ _ _ af
 | some ad=>
  rw[hq] at e13;have hin:=HR.x.below (HB.trans (Below.mono hW HB.size));have hin2:aT wg d.a4 d.l4 d.c4 5 (c.xs.map xdF):=hin;rw[hq] at hin2
  have hz:i4.zero=Y5 (Zc #[I ⟨#[]⟩,Y7 Y6 0,I ⟨#[]⟩,Y9 Y_,I ⟨#[]⟩])/\i4.size=5/\i4.bytes=64:=by have:=HI4.2;simp only[Prod.mk.injEq] at this;exact this
  refine xY _ (.tmp 13) 26 50 rfl i4 (Zc #[I ⟨#[]⟩,Y7 Y6 0,I ⟨#[]⟩,Y9 Y_,I ⟨#[]⟩]) 5 64 Tryz.underlying26 HI4.1 hz.1 hz.2.1 hz.2.2 rfl ag ag wg.heap.size (J U 0 0) rfl (World.ownsRow_nil _ _ _ _) (Ye _) (by simpa[Act.eval] using e13) hin2 (jU xX _) (by have:=HS.x;omega) ag ?_;intro a' c' w' hR hg;exact hK _ _ ((Yh _ _).grown hg (Ye _) (λk hk=>by cases hk)) ⟨a',c',rfl,hR,Below.size hW⟩):p:=h
theorem UI(h:p:=by
 have e16:=hf 16 ag;simp[Gi.aj,Yf] at e16;clear hf;go_simp;refine (qL d.a5 d.l5 d.c5 c.ps _ (HR.p.below (HB.trans (Below.mono hW HB.size))) (by have:=HS.p;omega) HS.ps).mono ?_;exact wO):p:=h
theorem jx(h:p:=by
 refine Gi.Obl.plain rfl ?_;intro ac wg K lo hi hsz hW hpr hf hap hK;clear hsz hpr hap;exact z799z):p:=h
theorem UC(h:p:=by
 clear hx hn hh z0 z3;go_wp2;refine bodyPost_ret (v:=Zg #[Zc #[I x.n,Y9 x.x,Y9 x.y,I x.z],Y9 Zb]) (by simp[results,Tryz.results61,go_sem, *]) rfl ⟨?_,HI.2⟩;exact PN):p:=h
theorem UB(h:p:=by
 clear c0 c1 c2 c3 hat hx hn hy hh z0 z3 HR HRW hb1;obtain⟨j,hjj⟩:∃j,pl Kd.n xs t=j:=⟨_,rfl⟩;rw[hjj] at hj;simp only[hjj] at*;clear hjj;go_wp2;refine bodyPost_ret (v:=Zg #[Zc #[I x.n,Y9 x.x,Y9 x.y,I x.z],Y9 Zb]) (by simp[results,Tryz.results102,go_sem, *]) rfl ⟨?_,HI.2⟩;exact ah (Ye _) (ah (Ye _) (ah (Ye _) (ah (Ye _) (HB.out))))):p:=h
theorem yH(h:p:=by
 have HI:Hid (RH xs t r w (Za (Zg #[Zc #[I x.n,Y9 x.x,Y9 x.y,I x.z],Y9 Zb])) w):=⟨Yh _ _,Ze ⟨hh,x,hx,hn,rfl,z0,z3⟩⟩;exact z811z):p:=h
theorem Th(h:p:=by
 clear hat hx z0 z1 hvr;obtain⟨GK,GR,HW⟩:=ahh;obtain⟨k0,k1,k2,k3,k4,k5⟩:=sl6 GK;obtain⟨r0,r1,r2,r3,r4,r5⟩:=sl6 GR;have hne0:=Wd.ne (wr.alloc (Y8 (nov n va vl vc) 83));have HC:=aa (λq:Wd (wr.alloc (Y8 (nov n va vl vc) 83))=>qI ⟨(Y5 ⟨b,o,U⟩),l1,y1,a2,l2,y2,a3,l3,y3,a4,l4,y4,a5,l5,y5⟩ c.now c.ps n.n q.w (HR.p.below (HW.trans (q.b.mono HW.size))) HL5.out HPC.out);have z55z:=@aa _ @agf;exact aC):p:=h
theorem Tg(h:p:=by
 clear hat hx z0 z1 hvr;obtain⟨GK,GR,HW⟩:=ahh;obtain⟨k0,k1,k2,k3,k4,k5⟩:=sl6 GK;have r0:=λq:Wd (wr.alloc (Y8 (nov n va vl vc) 83))=>q.slot (o:=0) GR.out rfl;have r3:=λq:Wd (wr.alloc (Y8 (nov n va vl vc) 83))=>q.slot (o:=3) GR.out rfl;have hne0:=Wd.ne (wr.alloc (Y8 (nov n va vl vc) 83));have HC:=aa (λq:Wd (wr.alloc (Y8 (nov n va vl vc) 83))=>nJ ⟨(Y5 ⟨b,o,U⟩),l1,y1,a2,l2,y2,a3,l3,y3,a4,l4,y4,a5,l5,y5⟩ c.now c.vs n.n q.w (HR.v.below (HW.trans (q.b.mono HW.size))) HL3.out);have z55z:=@aa _ @age;exact aC):p:=h
theorem Tf(h:p:=by
 have HTn:=aa hvr;clear hat hx z0 z1 hvr;have z1296z:=@aa _ @JN;exact gT):p:=h
theorem SH(h:p:=by
 refine (cB s 0 8 _).mono ?_;have z1327z:=@aa _ @Jo;exact jM):p:=h
theorem SG(h:p:=by
 refine (dR v _ hv).mono ?_;exact Pb):p:=h
theorem SF(h:p:=by
 refine (fZ a len cap zs 3 _ (HR.below (ak _ _))).mono ?_;have z1327z:=@aa _ @Jn;exact jM):p:=h
theorem SB(h:p:=by
 have z1296z:=@aa _ @JM;exact gT):p:=h
theorem SA(h:p:=by
 by_cases hp2:p.p=2;rotate_left
 ·have HP2:=aa hp2;have z377z:=@aa _ @P1;exact zI
 have HP2:=aa hp2;rw[hp2] at c5;clear hp2;have z1296z:=@aa _ @JL;exact gT):p:=h
theorem yA(h:p:=by
 have z1308z:=@aa _ @JE;exact tl):p:=h
theorem Se(h:p:=by
 replace HB:=upB HB hbx;clear hb2 hbx HA0;clear hb c0 c1 c2 c3 c4 c5 c6 c7;rcases hf with ⟨hh,rfl⟩|⟨hh,T,q,rfl⟩;rotate_left
 ·have HH:=aa hh;clear hh;obtain⟨k0,k1,k2,k3,k4,k5⟩:=cs6 Bk;obtain⟨r0,r1,r2,r3,r4,r5,r6,r7⟩:=cs8 Br;go_wp2;go_ret;exact au.f (λh=>HH.out (h.1 k v HXv.out).1) HB.out
 have HH:=aa hh;clear hh;by_cases he:v.m=⟨#[]⟩
 ·have hq:=cC he;have z1763z:=@aa _ @CK;exact ed
 ·have hq:=aY he;have z1763z:=@aa _ @CJ;exact ed):p:=h
theorem Sd(h:p:=by
 replace HB:=upB HB hbx;clear hb2 hbx HA0;clear hb c0 c1 c2 c3 c4;rcases hf with ⟨hh,rfl⟩|⟨hh,T,q,rfl⟩;rotate_left
 ·have HH:=aa hh;clear hh;obtain⟨k0,k1,k2,k3,k4,k5⟩:=cs6 Bk;obtain⟨r0,r1,r2,r3,r4⟩:=cs5 Br;go_wp2;go_ret;exact au.f (λh=>HH.out (h.2 k x HXx.out).1) HB.out
 have HH:=aa hh;clear hh;by_cases he:x.v=⟨#[]⟩
 ·have hq:=cC he;have z1763z:=@aa _ @CI;exact ed
 ·have hq:=aY he;have z1763z:=@aa _ @CH;exact ed):p:=h
theorem Sa(h:p:=by
 obtain⟨i0,hi,hz0,hz1,hz2⟩:=info_parts nL;have HI0:=aa (Yb hi (Yb hz0 (Yb hz1 hz2)));clear hi hz0 hz1 hz2;have hmcalled:∀(v:Value) (w:World),(method 344 50 v "loop.example/g00571/impl.called").run Tryz.prog w=.ok (206,v) w:=λ_ _=>by kernel_rfl
 go_enter Tryz.func23,Tryz.ntmps23;go_wp2;go_loopw [5,10] (λvo vi wr=> ∃(k:Nat) (ws:List (List Value)) (f:Nat->Nat),k<=len/\vi=Y7 Y6 k/\Hid (wr.ownsRow w.heap.size 50 5 vo (wo Xd.n t (xs.take k)).length ws.flatten)/\Hid (Sel xs (wo Xd.n t (xs.take k)) vss ws k f)/\Hid (Below w.heap.size w wr)) (λ_ vi _=>len - (intOf vi).toNat);case atStart=>exact⟨0,[],λ_=>0,by omega,rfl,World.ownsRow_nil _ _ _ _,Sel.nil _ _ _ _,Yh _ _⟩
 case round=>
  obtain⟨k,ws,f,hk,rfl,HO,HF,HB⟩:=hrel;have hBs:=HB.size;by_cases hlt:k<len
  ·obtain⟨b,o,x,rfl,hb,hx,hat⟩:=dL HR.out hlt;obtain⟨z0,z2,z4,c0,c1,c2,c3,c4⟩:=bQ hat;have hvk:vss[k]?=Y5 [I x.n,Y7 Y6 x.z,I x.k,Y9 x.x,I x.v]:=by
    have z267z:=@aa _ @adU;exact qk
   have z637z:=@aa _ @WW;exact pR
  ·exact Oy):p:=h
theorem R_(h:p:=by
 obtain⟨i0,hi,hz0,hz1,hz2⟩:=info_parts iY;have HI0:=aa (Yb hi (Yb hz0 (Yb hz1 hz2)));clear hi hz0 hz1 hz2;have hmcalled:∀(v:Value) (w:World),(method 344 38 v "loop.example/g00571/impl.called").run Tryz.prog w=.ok (192,v) w:=λ_ _=>by kernel_rfl
 go_enter Tryz.func27,Tryz.ntmps27;go_wp2;go_loopw [5,10] (λvo vi wr=> ∃(k:Nat) (ws:List (List Value)) (f:Nat->Nat),k<=len/\vi=Y7 Y6 k/\Hid (wr.ownsRow w.heap.size 38 8 vo (wo Vd.n t (xs.take k)).length ws.flatten)/\Hid (Sel xs (wo Vd.n t (xs.take k)) vss ws k f)/\Hid (Below w.heap.size w wr)) (λ_ vi _=>len - (intOf vi).toNat);case atStart=>exact⟨0,[],λ_=>0,by omega,rfl,World.ownsRow_nil _ _ _ _,Sel.nil _ _ _ _,Yh _ _⟩
 case round=>
  obtain⟨k,ws,f,hk,rfl,HO,HF,HB⟩:=hrel;have hBs:=HB.size;by_cases hlt:k<len
  ·obtain⟨b,o,x,rfl,hb,hx,hat⟩:=bK HR.out hlt;have z1559z:=@aa _ @Fh;exact eQ
  ·exact Oy):p:=h
theorem pE(h:p:=by
 have HR:=aa ho.row;have hxl:xs.length=len:=oI
 obtain⟨vss,H,hV,hcell⟩:=ho.ju;have HV:=aa hV;have HC:=aa hcell;have hvl:vss.length=xs.length:=by rw[hV.len,Yo]
 clear ho hV hcell;exact z986z):p:=h
theorem Nn(h:p:=by
 have ltp_1:=ae Bp.out;go_wp2;go_loopw [35] (λi wr=> ∃k:Nat,k<=pl/\i=Y7 Y6 k/\Hid (∀(j:Nat) t,j<k->p.zs[j]?=Y5 t->∃v,aO c t v/\v.z=n.z)/\Hid (Below w.heap.size w wr)/\Hid (wr.heap[w.heap.size]?=Y5 (Y8 (clv d c.now) 29 (0,0)))/\Hid (wr.heap[w1.heap.size]?=Y5 (Y8 (nov n va vl vc) 83 (0,0)))) (λi _=>pl - (intOf i).toNat);case atStart=>exact⟨0,by omega,rfl,λ_ _ h=>absurd h af,HB.alloc HB.size _,(Yl _ _ _ (ae Bk.out)).trans Bk.out,Yg⟩
 case round=>
  obtain⟨k,hk,rfl,HQ,HB,Bk,Bn⟩:=hrel;by_cases hlt:k<pl
  ·have z248z:=@aa _ @ad9;exact zX
  ·exact Ph):p:=h
theorem Nl(h:p:=by
 have ltp_1:=ae Bp.out;go_wp2;exact z322z):p:=h
theorem Nk(h:p:=by
 have ltp_1:=ae Bp.out;go_wp2;go_loopw [27] (λi wr=> ∃k:Nat,k<=pl/\i=Y7 Y6 k/\Hid (∀(j:Nat) t,j<k->p.zs[j]?=Y5 t->∃v,aO c t v/\InL n.zs v.n)/\Hid (Below w.heap.size w wr)/\Hid (wr.heap[w.heap.size]?=Y5 (Y8 (clv d c.now) 29 (0,0)))/\Hid (wr.heap[w1.heap.size]?=Y5 (Y8 #[I n.n,I n.z,Y7 Y6 n.c,Y7 Y6 n.s,Y7 Y6 n.u,Y9 Y_,J va vl vc] 83 (0,0)))) (λi _=>pl - (intOf i).toNat);case atStart=>exact⟨0,by omega,rfl,λ_ _ h=>absurd h af,HB.alloc HB.size _,(Yl _ _ _ (ae Bk.out)).trans Bk.out,Yg⟩
 case round=>
  obtain⟨k,hk,rfl,HQ,HB,Bk,Bn⟩:=hrel;by_cases hlt:k<pl
  ·have z248z:=@aa _ @ad_;exact zX
  ·exact Ph):p:=h
theorem Nc(h:p:=by
 have HX:=aa hx;have HC:=aa (λv:World=>gw x va vl vc v);have HB1:=aa (HB.alloc HB.size (Y8 (pov x va vl vc) 40));have HRt:=aa (rK x va vl vc (wr.alloc (Y8 (pov x va vl vc) 40)) z0 z2 z4 (hvr.below (ak _ _)));clear hat hx z0 z2 z4 hvr;have z708z:=@aa _ @VU;exact ly):p:=h
theorem Nb(h:p:=by
 have HX:=aa hx;have hpc:=HP.out k p hx;clear hat hx z0 z2 z4 hvr;by_cases hn:p.d=t
 ·have hq:=aP hn;have HN:=aa hn;clear hn;go_wp2;refine⟨⟨k+1,s+p.c,by omega,by go_num,by go_num,?_,by omega,by omega,HB.alloc HB.size _⟩,by simp[intOf];omega⟩;show _=_;rw[gn HX.out,if_pos HN.out,<-HS.out]
 ·have hq:=bu hn;have HN:=aa hn;clear hn;go_wp2;refine⟨⟨k+1,s,by omega,rfl,by go_num,?_,by omega,by omega,HB.alloc HB.size _⟩,by simp[intOf];omega⟩;show _=_;rw[gn HX.out,if_neg HN.out,<-HS.out,Int.add_zero]):p:=h
theorem Na(h:p:=by
 have HX:=aa hx;have HT:=aa hvr;clear hat hx z0 z2 z4 hvr;have skip:(p.d=⟨#[]⟩\/¬InL p.zs t)->∀(j:Nat) q,j<k+1->c.ps[j]?=Y5 q->¬q.d=⟨#[]⟩->InL q.zs t->q.d=s:=by
  intro h j q hj hq h1 h2;by_cases e:j=k
  ·subst e;rw[HX.out] at hq;obtain rfl:=Yd hq;rcases h with h|h
   ·exact absurd h h1
   ·exact absurd h2 h
  ·exact HQ.out j q af hq h1 h2
 have SK:=aa skip;clear skip;have keepS:s=⟨#[]⟩\/∃(j:Nat) (p:Pd),j<k+1/\c.ps[j]?=Y5 p/\¬p.d=⟨#[]⟩/\InL p.zs t/\p.d=s:=HS.imp id (λ⟨j,p,h1,h2⟩=>⟨j,p,by omega,h2⟩);have KS:=aa keepS;clear keepS;by_cases he:p.d=⟨#[]⟩
 ·have hq:=cC he;have HEm:=aa he;clear he;go_wp2;exact⟨⟨k+1,s,by omega,rfl,by go_num,SK.out (Ze HEm.out),KS.out,HB.alloc HB.size _⟩,by simp[intOf];omega⟩
 ·have hq:=aY he;have HEm:=aa he;clear he;go_wp2_with fail;refine (cM va vl vc p.zs t _ (HT.below (ak _ _))).mono ?_;rintro e w1 ⟨r,rfl,hi,hb2⟩;obtain⟨HA0,hbx⟩:=aV hb2;have Br:=aa HA0;replace HB:=upB HB hbx;clear hb2 hbx HA0;have HI:=aa hi;clear hi c0 c1 c2 c3 c4 c5 hb;cases r
  ·obtain⟨r0,r1,r2,r3,r4,r5⟩:=cs6 Br;go_wp2;exact⟨⟨k+1,s,by omega,rfl,by go_num,SK.out (Zd (λh=>by have:=HI.2 h;cases this)),KS.out,HB.out⟩,by simp[intOf];omega⟩
  ·have HIn:=aa (HI.1 bM);clear HI;by_cases hs:s=⟨#[]⟩
   ·have hq2:=cC hs;have HSe:=aa hs;clear hs;have z397z:=@aa _ @aci;exact zE
   ·have hq2:=aY hs;have HSe:=aa hs;clear hs;by_cases hd:p.d=s
    ·have hq3:=aP hd;have HD:=aa hd;clear hd;have z397z:=@aa _ @ach;exact zE
    ·have hq3:=bu hd;have HD:=aa hd;clear hd;obtain⟨r0,r1,r2,r3,r4,r5⟩:=cs6 Br;go_wp2;go_ret;refine au.f (λh=>?_) HB.out;rcases HS.out with h1|⟨j,q,h1,h2,h3,h4,h5⟩
     ·exact HSe.out h1
     ·exact HD.out ((h k j p q HX.out h2 HEm.out h3 HIn.out h4).trans h5)):p:=h
theorem M_(h:p:=by
 obtain⟨hz8,HX,HT,HZz0⟩:=vW;have HZz2:=aa z2;have HZz4:=aa z4;clear hat hx hvr z0 z2 z4;go_wp2_with fail;refine (xq x va vl vc _ (HT.below (ak _ _)) hz8).mono ?_;have z1380z:=@aa _ @IJ;exact mQ):p:=h
theorem MM(h:p:=by
 have HI:=aa hi;clear hi;cases r
 ·have z483z:=@aa _ @abb;exact cQ
 have HT:=aa (HI.1 bM);clear HI;have z170z:=@aa _ @ae_;exact fW):p:=h
theorem Mp(h:p:=by
 by_cases e:j=k
 ·subst e;rw[HXt.out] at hs;obtain rfl:=Yd hs;exact⟨_,v,HXv.out,HNv.out,Ze HD.out⟩
 ·exact HQ.out j s af hs):p:=h
theorem Mo(h:p:=by
 by_cases e:j=k
 ·subst e;rw[HXt.out] at hs;obtain rfl:=Yd hs;exact⟨v,HD.out,HZ2.out⟩
 ·exact HQ.out j s af hs):p:=h
theorem tR(h:p:=by
 refine⟨⟨k+1,by omega,by go_num,λj s hj hs=>?_,(HB.alloc HB.size _),(Yl _ _ _ (ae Bk.out)).trans Bk.out,(Yl _ _ _ (ae Bn.out)).trans Bn.out⟩,by simp[intOf];omega⟩;exact z1105z):p:=h
theorem Mn(h:p:=by
 refine (vR _ _ _ c.xs 8 _ (HR.x.below HB.out)).mono ?_;rintro e w4 ⟨r,rfl,hi,hb⟩;have z1316z:=@aa _ @Jw;exact fz):p:=h
theorem Mm(h:p:=by
 refine (u7 d c _ (HR.below HB.out) HOK.1.2.2 HOK.2.2.2.1.2.2 HOK.2.2.1.2.2 HOK.ne (by have:=HOK.2.2.2.2.1;omega) HOK.cpu (HE.below HB.out)).mono ?_;rintro e w4 ⟨r,rfl,hi,hb⟩;have z1316z:=@aa _ @Jv;exact fz):p:=h
theorem tQ(h:p:=by
 rintro e w3 ⟨r,rfl,hi,hb⟩;have z1316z:=@aa _ @Ju;exact fz):p:=h
theorem Ml(h:p:=by
 clear g1 hb HR HRW;rcases hf with ⟨hh,x,va,vl,vc,hx,hn,rfl,z0,z1,hvr⟩|⟨hh,rfl⟩
 ·have z780z:=@aa _ @U2;exact yO
 ·have HH:=aa hh;clear hh;go_wp2;refine bodyPost_ret (v:=Zg #[Zc #[I ⟨#[]⟩,I ⟨#[]⟩,Y7 Y6 0,Y7 Y6 0,Y7 Y6 0,Y9 Y_,J U 0 0],Y9 Y_]) (by simp[results,Tryz.results145,go_sem, *]) rfl ⟨?_,Zd ⟨HH.out,rfl⟩⟩;exact Qh):p:=h
theorem Mj(h:p:=by
 clear g1 hb HR HRW;rcases hf with ⟨hh,x,hx,hn,rfl,z0,z3⟩|⟨hh,rfl⟩
 ·have z811z:=@aa _ @UC;exact yH
 ·have HH:=aa hh;clear hh;go_wp2;refine bodyPost_ret (v:=Zg #[Zc #[I ⟨#[]⟩,Y9 Y_,Y9 Y_,I ⟨#[]⟩],Y9 Y_]) (by simp[results,Tryz.results61,go_sem, *]) rfl ⟨?_,Zd ⟨HH.out,rfl⟩⟩;exact PN):p:=h
theorem Mi(h:p:=by
 clear g1 hb HR HRW;rcases hf with ⟨hh,x,va,vl,vc,hx,hn,rfl,z0,z2,z3,z5,hvr⟩|⟨hh,rfl⟩
 ·have z770z:=@aa _ @U9;exact yP
 ·have HH:=aa hh;clear hh;go_wp2;refine bodyPost_ret (v:=Zg #[Zc #[I ⟨#[]⟩,Y7 Y6 0,I ⟨#[]⟩,I ⟨#[]⟩,Y9 Y_,I ⟨#[]⟩,Y9 Y_,J U 0 0],Y9 Y_]) (by simp[results,Tryz.results60,go_sem, *]) rfl ⟨?_,Zd ⟨HH.out,rfl⟩⟩;exact Qt):p:=h
theorem Mh(h:p:=by
 clear g1 hb HR HRW;rcases hf with ⟨hh,x,hx,hn,rfl,z0,z2,z4⟩|⟨hh,rfl⟩
 ·have z792z:=@aa _ @US;exact yK
 ·have HH:=aa hh;clear hh;go_wp2;refine bodyPost_ret (v:=Zg #[Zc #[I ⟨#[]⟩,Y7 Y6 0,I ⟨#[]⟩,Y9 Y_,I ⟨#[]⟩],Y9 Y_]) (by simp[results,Tryz.results51,go_sem, *]) rfl ⟨?_,Zd ⟨HH.out,rfl⟩⟩;exact P4):p:=h
theorem fB(h:p:=by
 have HB:Hid (Below w.heap.size w w1):=(aS _ _ _).trans (hb.mono bL);exact z1111z):p:=h
theorem Me(h:p:=by
 have HX:=aa hx;clear hat hx z0 z1 hvr;have HC:=aa (λv:World=>kb x va vl vc v);have HB1:=aa (HB.alloc HB.size (Y8 (nov x va vl vc) 83));have z716z:=@aa _ @VR;exact jz):p:=h
theorem Md(h:p:=by
 have HX:=aa hx;have HC:=aa (λv:World=>kb x va vl vc v);have HB1:=aa (HB.alloc HB.size (Y8 (nov x va vl vc) 83));have HRt:=aa (rL x va vl vc (wr.alloc (Y8 (nov x va vl vc) 83)) z0 z1 (hvr.below (ak _ _)));clear hat hx z0 z1 hvr;have z708z:=@aa _ @VX;exact ly):p:=h
theorem Mc(h:p:=by
 obtain⟨hz8,HX,HT,HZz0⟩:=vW;have HZz1:=aa z1;clear hat hx hvr z0 z1;go_wp2_with fail;refine (xr x va vl vc _ (HT.below (ak _ _)) hz8).mono ?_;have z1380z:=@aa _ @II;exact mQ):p:=h
theorem m_(h:p:=by
 obtain⟨b,o,x,rfl,hb,hx,hat⟩:=dh (HR.below HB.out) hlt;obtain⟨va,vl,vc,hvr,z0,z1,c0,c1,c2,c3,c4,c5,c6⟩:=bg hat;exact z1118z):p:=h
theorem Mb(h:p:=by
 omega):p:=h
theorem Ma(h:p:=by
 rw[aP e8] at q4;cases q4):p:=h
theorem L_(h:p:=by
 rw[e9] at q5;simp at q5):p:=h
theorem mZ(h:p:=by
 obtain⟨_,rfl⟩:=HX.inj e1 HX1.out (e2.trans HN1.symm);obtain⟨_,rfl⟩:=HV.inj e3 HX2.out (e4.trans HN2.symm);exact z1122z):p:=h
theorem L5(h:p:=by
 go_enter Tryz.func142,Tryz.ntmps142;have z655z:=@aa _ @WI;exact zb):p:=h
theorem L4(h:p:=by
 go_enter Tryz.func148,Tryz.ntmps148;have z655z:=@aa _ @WH;exact zb):p:=h
theorem tN(h:p:=by
 have HR:=aa hr;have HN:=aa hn;obtain⟨HX,HV,HNE⟩:=iU;have HP:=aa hp;have hlc:=Yp hp.2.1 hp.2.2.1;have hzl:=hp.1;have HB:=aa (Yh w.heap.size w);clear hr hn hx hv hne hp;exact z1132z):p:=h
theorem L3(h:p:=by
 refine (eK d c.now c.vs t w _ HR.v HB.out).mono ?_;have z1429z:=@aa _ @H8;exact sO):p:=h
theorem L2(h:p:=by
 refine (qO d c t w _ HR.out HB.out HX.out HV.out HNE.out).mono ?_;have z1429z:=@aa _ @Hz;exact sO):p:=h
theorem tM(h:p:=by
 obtain⟨b,o,t,rfl,hb,hx,hc,hsz⟩:=(HP.below HB.out).at hlt;have HXt:=aa hx;clear hx hsz;obtain⟨k0,k1,k2,k3,k4,k5⟩:=cs6 Bk;obtain⟨n0,n1,n2,n3,n4,n5,n6⟩:=cs7 Bn;go_wp2_with fail;exact z1135z):p:=h
theorem L1(h:p:=by
 have HG:=aa g1;have HI:=aa hrt;clear g1 hb1 HB1 HRt hrt c0 c1 c2 c3 c4 c5 c6 c7;have z271z:=@aa _ @adP;exact jC):p:=h
theorem L0(h:p:=by
 clear g1 hb1 c0 c1 c2 c3 c4 c5 c6 c7 HB1;cases hless:Yk x.n.toList t.toList
 ·go_wp2_with fail;refine (HC.out _).mono ?_;rintro e w2 ⟨rfl,hb2⟩;obtain⟨HB3,hp⟩:=ahn;clear hb2;go_wp2_with fail;refine bodyPost_ret (v:=Zg #[Y7 Y6 k,Y9 (x.n.toList==t.toList)]) (by simp[results,Tryz.results103,go_sem]) rfl ⟨?_,HB3.out⟩;unfold hit;rw[hp,HX.out]
 ·exact uF):p:=h
theorem tL(h:p:=by
 rw[show (wr.alloc (Y8 (vov x va vl vc) 38)).heap.size=wr.heap.size+1 from by simp] at hs1;obtain⟨HB2,d0,d1,d2,d3⟩:=oR;have d4:=ck4 g1;have d5:=ck5 g1;have d6:=ck6 g1;have d7:=ck7 g1;exact z1138z):p:=h
theorem LX(h:p:=by
 go_enter Tryz.func153,Tryz.ntmps153;go_wp2;go_loopw [10] (λi wr=> ∃k:Nat,k<=len/\i=Y7 Y6 k/\Hid (∀(j:Nat) y,j<k->xs[j]?=Y5 y->Yk y.n.toList t.toList=Zb)/\Hid (Below w.heap.size w wr)) (λi _=>len - (intOf i).toNat);case atStart=>exact⟨0,by omega,rfl,λj y hj=>by omega,Yh _ _⟩
 case round=>
  obtain⟨k,hk,rfl,HE,HB⟩:=hrel;by_cases hlt:k<len
  ·obtain⟨b,o,x,rfl,hb,hx,hat⟩:=gH (HR.below HB.out) hlt;obtain⟨z0,z3,c0,c1,c2,c3⟩:=da hat;have HX:=aa hx;clear hat hx z0 z3;have HC:=aa (λv:World=>kd x v);have HB1:=aa (HB.alloc HB.size (Y8 #[I x.n,Y9 x.x,Y9 x.y,I x.z] 74));have z716z:=@aa _ @VQ;exact jz
  ·obtain rfl:k=len:=af
   have hp:pl Kd.n xs t=xs.length:=fY (λj y hy=>HE.out j y kV hy);have hh:hit Kd.n xs t=Y_:=by unfold hit;rw[hp,List.getElem?_eq_none (Ye _)]
   have HP:=aa hp;have HH:=aa hh;clear hp hh;go_wp2;exact bodyPost_ret (v:=Zg #[Y7 Y6 k,Y9 Y_]) (by simp[results,Tryz.results153,go_sem]) rfl ⟨by rw[HP.out,HH.out,hxl],HB.out⟩):p:=h
theorem LW(h:p:=by
 have hmright:∀(v:Value) (w:World),(method 344 74 v "loop.example/g00571/impl.right").run Tryz.prog w=.ok (211,v) w:=λ_ _=>by kernel_rfl
 by_cases hmo:most<(len:Int)
 ·go_enter Tryz.func135,Tryz.ntmps135;exact nA
 go_enter Tryz.func135,Tryz.ntmps135;go_wp2;go_loopw [5,14] (λq i wr=> ∃(k:Nat) (y:ByteArray),k<=len/\q=I y/\i=Y7 Y6 k/\Hid (k=0->y=⟨#[]⟩)/\Hid (∀z,0<k->xs[k - 1]?=Y5 z->z.n=y)/\Hid (∀(j:Nat) z,j<k->xs[j]?=Y5 z->xi z)/\Hid (∀(j:Nat) z u,j+1<k->xs[j+1]?=Y5 z->xs[j]?=Y5 u->Yk u.n.toList z.n.toList=Zb)/\Hid (Below w.heap.size w wr)) (λ_ i _=>len - (intOf i).toNat);case atStart=>exact⟨0,_,by omega,rfl,rfl,λ_=>rfl,λ_ h=>absurd h af,λ_ _ h=>absurd h af,λ_ _ _ h=>absurd h af,Yh _ _⟩
 case round=>
  obtain⟨k,y,hk,rfl,rfl,H0,H1,HE,HO,HB⟩:=hrel;by_cases hlt:k<len
  ·obtain⟨b,o,x,rfl,hb,hx,hat⟩:=gH (HR.below HB.out) hlt;obtain⟨z0,z3,c0,c1,c2,c3⟩:=da hat;have HX:=aa hx;have HC:=aa (λv:World=>kd x v);have HB1:=aa (HB.alloc HB.size (Y8 #[I x.n,Y9 x.x,Y9 x.y,I x.z] 74));have HRt:=aa (rM x (wr.alloc (Y8 #[I x.n,Y9 x.x,Y9 x.y,I x.z] 74)) z0 z3);clear hat hx z0 z3;have z708z:=@aa _ @VW;exact ly
  ·exact uG):p:=h
theorem tK(h:p:=by
 obtain⟨HR,hxl,hlc⟩:=nt;clear hr;have hmcalled:∀(v:Value) (w:World),(method 344 74 v "loop.example/g00571/impl.called").run Tryz.prog w=.ok (210,v) w:=λ_ _=>by kernel_rfl
 exact z1144z):p:=h
theorem LV(h:p:=by
 go_enter Tryz.func149,Tryz.ntmps149;go_wp2;go_loopw [10] (λi wr=> ∃k:Nat,k<=len/\i=Y7 Y6 k/\Hid (∀(j:Nat) y,j<k->xs[j]?=Y5 y->Yk y.n.toList t.toList=Zb)/\Hid (Below w.heap.size w wr)) (λi _=>len - (intOf i).toNat);case atStart=>exact⟨0,by omega,rfl,λj y hj=>by omega,Yh _ _⟩
 case round=>
  obtain⟨k,hk,rfl,HE,HB⟩:=hrel;by_cases hlt:k<len
  ·obtain⟨b,o,x,rfl,hb,hx,hat⟩:=dL (HR.below HB.out) hlt;obtain⟨z0,z2,z4,c0,c1,c2,c3,c4⟩:=bQ hat;have HX:=aa hx;clear hat hx z0 z2 z4;have HC:=aa (λv:World=>gu x v);have HB1:=aa (HB.alloc HB.size (Y8 (xov x) 50));have z716z:=@aa _ @VP;exact jz
  ·obtain rfl:k=len:=af
   have hp:pl Xd.n xs t=xs.length:=fY (λj y hy=>HE.out j y kV hy);have hh:hit Xd.n xs t=Y_:=by unfold hit;rw[hp,List.getElem?_eq_none (Ye _)]
   have HP:=aa hp;have HH:=aa hh;clear hp hh;go_wp2;exact bodyPost_ret (v:=Zg #[Y7 Y6 k,Y9 Y_]) (by simp[results,Tryz.results149,go_sem]) rfl ⟨by rw[HP.out,HH.out,hxl],HB.out⟩):p:=h
theorem LU(h:p:=by
 have hmright:∀(v:Value) (w:World),(method 344 50 v "loop.example/g00571/impl.right").run Tryz.prog w=.ok (207,v) w:=λ_ _=>by kernel_rfl
 by_cases hmo:most<(len:Int)
 ·go_enter Tryz.func137,Tryz.ntmps137;exact nA
 go_enter Tryz.func137,Tryz.ntmps137;go_wp2;go_loopw [5,14] (λq i wr=> ∃(k:Nat) (y:ByteArray),k<=len/\q=I y/\i=Y7 Y6 k/\Hid (k=0->y=⟨#[]⟩)/\Hid (∀z,0<k->xs[k - 1]?=Y5 z->z.n=y)/\Hid (∀(j:Nat) z,j<k->xs[j]?=Y5 z->gK z)/\Hid (∀(j:Nat) z u,j+1<k->xs[j+1]?=Y5 z->xs[j]?=Y5 u->Yk u.n.toList z.n.toList=Zb)/\Hid (Below w.heap.size w wr)) (λ_ i _=>len - (intOf i).toNat);case atStart=>exact⟨0,_,by omega,rfl,rfl,λ_=>rfl,λ_ h=>absurd h af,λ_ _ h=>absurd h af,λ_ _ _ h=>absurd h af,Yh _ _⟩
 case round=>
  obtain⟨k,y,hk,rfl,rfl,H0,H1,HE,HO,HB⟩:=hrel;by_cases hlt:k<len
  ·obtain⟨b,o,x,rfl,hb,hx,hat⟩:=dL (HR.below HB.out) hlt;obtain⟨z0,z2,z4,c0,c1,c2,c3,c4⟩:=bQ hat;have HX:=aa hx;have HC:=aa (λv:World=>gu x v);have HB1:=aa (HB.alloc HB.size (Y8 (xov x) 50));have HRt:=aa (rI x (wr.alloc (Y8 (xov x) 50)) z0 z2 z4);clear hat hx z0 z2 z4;have z708z:=@aa _ @VV;exact ly
  ·exact uG):p:=h
theorem tJ(h:p:=by
 obtain⟨HR,hxl,hlc⟩:=nt;clear hr;have hmcalled:∀(v:Value) (w:World),(method 344 50 v "loop.example/g00571/impl.called").run Tryz.prog w=.ok (206,v) w:=λ_ _=>by kernel_rfl
 exact z1147z):p:=h
theorem LO(h:p:=by
 have HG:=aa g1;have HI:=aa hrt;clear g1 hb1 HB1 HRt hrt c0 c1 c2 c3 c4 c5 c6;have z271z:=@aa _ @adR;exact jC):p:=h
theorem LN(h:p:=by
 clear g1 hb1 c0 c1 c2 c3 c4 c5 c6 HB1;cases hless:Yk x.n.toList t.toList
 ·have z317z:=@aa _ @adi;exact lH
 ·exact uF):p:=h
theorem tG(h:p:=by
 rw[show (wr.alloc (Y8 (nov x va vl vc) 83)).heap.size=wr.heap.size+1 from by simp] at hs1;obtain⟨HB2,d0,d1,d2,d3⟩:=oR;have d4:=ck4 g1;have d5:=ck5 g1;have d6:=ck6 g1;exact z1156z):p:=h
theorem LI(h:p:=by
 have:=(bo HX.out e1 e2).2;rw[HH1.out] at this;cases this):p:=h
theorem LH(h:p:=by
 have:=(bo HV.out e3 e4).2;rw[HH2.out] at this;cases this):p:=h
theorem tD(h:p:=by
 obtain⟨x0,x1,x2,x3,x4⟩:=cs5 Bx;have ltx_2:=ae Bx.out;go_wp2;go_ret;refine au.f (λ⟨i,j,x',v',e1,e2,e3,e4,_⟩=>?_) (HB.alloc HB.size _);exact z1165z):p:=h
theorem LD(h:p:=by
 have HG:=aa g1;have HI:=aa hrt;clear g1 hb1 HB1 HRt hrt c0 c1 c2 c3 c4 c5;have z271z:=@aa _ @adN;exact jC):p:=h
theorem tB(h:p:=by
 rw[show (wr.alloc (Y8 (pov x va vl vc) 40)).heap.size=wr.heap.size+1 from by simp] at hs1;obtain⟨HB2,d0,d1,d2,d3⟩:=oR;have d4:=ck4 g1;have d5:=ck5 g1;exact z1171z):p:=h
theorem LB(h:p:=by
 clear hb1 hbx hn1 c0 c1 c2 c3 c4;cases hq:(x.n.toList==t.toList)
 ·have hq2:(x.n.toList !=t.toList)=Zb:=by simp[bne,hq]
  go_wp2_with (first|(at_builtin;refine wpList_append_own _ rfl _ _ 58 rfl w.heap.size 50 i0 (Zc #[I ⟨#[]⟩,Y7 Y6 0,I ⟨#[]⟩,Y9 Y_,I ⟨#[]⟩]) 5 64 Tryz.underlying58 HI0.1 HI0.2.1 HI0.2.2.1 HI0.2.2.2 rfl ag _ _ _ rfl (HO1.alloc _) ⟨w1.heap.size,0,U⟩ 1 1 [I x.n,Y7 Y6 x.z,I x.k,Y9 x.x,I x.v] rfl rfl ?c1 ?c2 ?c3 ?c4 ?c5 ?_));case c1=>exact dv _ _ _
  case c2=>intro u hu;simp only[YO,List.not_mem_nil,or_false] at hu;rcases hu with rfl|rfl|rfl|rfl|rfl <;> rfl
  case c3=>unfold maxLen;omega
  case c4=>omega
  case c5=>simp;omega
  rintro v' w3 hown3 hgrow -;have HO3:Hid (w3.ownsRow w.heap.size 50 5 v' (wo Xd.n t (xs.take (k+1))).length (ws++([[I x.n,Y7 Y6 x.z,I x.k,Y9 x.x,I x.v]]:List (List Value))).flatten):=by
   exact wA
  exact Ov
 ·exact Oo):p:=h
theorem LA(h:p:=by
 clear hb1 hbx hn1 c0 c1 c2 c3 c4 c5 c6 c7;cases hq:(x.n.toList==t.toList)
 ·have hq2:(x.n.toList !=t.toList)=Zb:=by simp[bne,hq]
  go_wp2_with (first|(at_builtin;refine wpList_append_own _ rfl _ _ 63 rfl w.heap.size 38 i0 (Zc #[I ⟨#[]⟩,Y7 Y6 0,I ⟨#[]⟩,I ⟨#[]⟩,Y9 Y_,I ⟨#[]⟩,Y9 Y_,J U 0 0]) 8 112 Tryz.underlying63 HI0.1 HI0.2.1 HI0.2.2.1 HI0.2.2.2 rfl ag _ _ _ rfl (HO1.alloc _) ⟨w1.heap.size,0,U⟩ 1 1 [I x.n,Y7 Y6 x.c,I x.z,I x.k,Y9 x.x,I x.m,Y9 x.y,J va vl vc] rfl rfl ?c1 ?c2 ?c3 ?c4 ?c5 ?_));case c1=>exact dv _ _ _
  case c2=>intro u hu;simp only[YO,List.not_mem_nil,or_false] at hu;rcases hu with rfl|rfl|rfl|rfl|rfl|rfl|rfl|rfl <;> rfl
  case c3=>unfold maxLen;omega
  case c4=>omega
  case c5=>simp;omega
  rintro v' w3 hown3 hgrow -;have HO3:Hid (w3.ownsRow w.heap.size 38 8 v' (wo Vd.n t (xs.take (k+1))).length (ws++([[I x.n,Y7 Y6 x.c,I x.z,I x.k,Y9 x.x,I x.m,Y9 x.y,J va vl vc]]:List (List Value))).flatten):=by
   exact wA
  exact Ov
 ·exact Oo):p:=h
theorem mX(h:p:=by
 have hs1:=ae hn1;have HO1:=aa (cI HO.out hbx);have HB1:=aa (HB.trans (hbx.mono hBs));exact z1174z):p:=h
theorem Ly(h:p:=by
 have HG:=aa g1;have HI:=aa hrt;clear g1 hb1 HB1 HRt hrt c0 c1 c2 c3;have z271z:=@aa _ @adQ;exact jC):p:=h
theorem Lx(h:p:=by
 clear g1 hb1 c0 c1 c2 c3 HB1;cases hless:Yk x.n.toList t.toList
 ·have z317z:=@aa _ @adh;exact lH
 ·exact uF):p:=h
theorem tA(h:p:=by
 rw[show (wr.alloc (Y8 #[I x.n,Y9 x.x,Y9 x.y,I x.z] 74)).heap.size=wr.heap.size+1 from by simp] at hs1;obtain⟨HB2,d0,d1,d2,d3⟩:=oR;exact z1178z):p:=h
theorem Lw(h:p:=by
 refine bodyPost_ret (v:=Zg #[Zc #[I v.n,Y7 Y6 v.c,I v.z,I v.k,Y9 v.x,I v.m,Y9 v.y,J va vl vc],Y9 Zb]) NX rfl ⟨ah (Yy _) (ah (Yy _) (ah (Yy _) (ah (Yy _) (ah (Yy _) (ah (Yy _) (ah (Yy _) (ah (Yy _) (HB.out)))))))),Ze ⟨v,va,vl,vc,⟨_,_,x,HX1.out,HN1.out,HX2.out,HN2.out⟩,rfl,HZ0.out,HZ2.out,HT.out⟩⟩):p:=h
theorem Lv(h:p:=by
 refine bodyPost_ret (v:=Zg #[Zc #[I ⟨#[]⟩,Y7 Y6 0,I ⟨#[]⟩,I ⟨#[]⟩,Y9 Y_,I ⟨#[]⟩,Y9 Y_,J U 0 0],Y9 Y_]) NX rfl ⟨ah (Yy _) (ah (Yy _) (ah (Yy _) (ah (Yy _) (ah (Yy _) (ah (Yy _) (ah (Yy _) (ah (Yy _) (HB.out)))))))),Zd ⟨λv ⟨i,j,x2,e1,e2,e3,e4⟩=>(by obtain⟨_,rfl⟩:=HX.inj e1 HX1.out (e2.trans HN1.symm);have:=(bo HV.out e3 e4).2;rw[HH2.out] at this;cases this),rfl⟩⟩):p:=h
theorem Lu(h:p:=by
 refine bodyPost_ret (v:=Zg #[Zc #[I ⟨#[]⟩,Y7 Y6 0,I ⟨#[]⟩,I ⟨#[]⟩,Y9 Y_,I ⟨#[]⟩,Y9 Y_,J U 0 0],Y9 Y_]) NX rfl ⟨ah (Yy _) (ah (Yy _) (ah (Yy _) (ah (Yy _) (ah (Yy _) (ah (Yy _) (ah (Yy _) (ah (Yy _) (HB.out)))))))),Zd ⟨λv ⟨i,j,x2,e1,e2,e3,e4⟩=>(by have:=(bo HX.out e1 e2).2;rw[HH1.out] at this;cases this),rfl⟩⟩):p:=h
theorem mW(h:p:=by
 obtain⟨s0,s1,s2,s3,s4,s5,s6,s7⟩:=cs8 Bs;obtain⟨fr0,fr1,fr2,fr3,fr4,fr5,fr6,fr7⟩:=alF;go_wp2;exact z1181z):p:=h
theorem JT(h:p:=by
 clear hat hx z0 z2 z3 z5 hvr;have z1549z:=@aa _ @Fu;exact dB):p:=h
theorem JS(h:p:=by
 clear hat hx z0 z2 z3 z5 hvr;have hcase:(v.x=Y_\/v.m=⟨#[]⟩)\/(v.x=Zb/\¬v.m=⟨#[]⟩):=by
  rcases Bool.eq_false_or_eq_true v.x with h|h
  ·by_cases e:v.m=⟨#[]⟩
   ·exact Ze (Zd e)
   ·exact Zd ⟨h,e⟩
  ·exact Ze (Ze h)
 rcases hcase with hcase|⟨hs,he⟩
 ·have HCs:=aa hcase;rcases hcase with hs|he
  ·exact Oz
  ·have hq:=cC he;clear he;rcases Bool.eq_false_or_eq_true v.x with hs|hs
   ·exact Oz
   ·exact Oz
 ·have hq:=aY he;have HEm:=aa he;have HSi:=aa hs;rw[hs] at c4;clear he hs;have z1549z:=@aa _ @Ft;exact dB):p:=h
theorem JO(h:p:=by
 refine (iN ⟨a1,l1,y1,a2,l2,y2,a3,l3,y3,(Y5 ⟨b,o,U⟩),l4,y4,a5,l5,y5⟩ c.now c.ks x.k _ (HR.k.below (HB.trans ((ak _ _).mono HB.size))) (HE.below (HB.trans ((ak _ _).mono HB.size)))).mono ?_;have z979z:=@aa _ @Sd;exact pF):p:=h
theorem JN(h:p:=by
 refine (Rd ⟨(Y5 ⟨b,o,U⟩),l1,y1,a2,l2,y2,a3,l3,y3,a4,l4,y4,a5,l5,y5⟩ c n va vl vc _ (HR.below (HB.trans ((ak _ _).mono HB.size))) HVR.out (HTn.below (ak _ _))).mono ?_;have z1642z:=@aa _ @Em;exact sf):p:=h
theorem JM(h:p:=by
 refine (nO ⟨a1,l1,y1,a2,l2,y2,a3,l3,y3,a4,l4,y4,(Y5 ⟨b,o,U⟩),l5,y5⟩ c.now c.xs va vl vc p.zs _ (HR.x.below (HB.trans ((ak _ _).mono HB.size))) (HTp.below (ak _ _)) (HE.below (HB.trans ((ak _ _).mono HB.size)))).mono ?_;have z1512z:=@aa _ @FZ;exact mK):p:=h
theorem JL(h:p:=by
 have HCall:=aa (Q7 ⟨a1,l1,y1,a2,l2,y2,a3,l3,y3,a4,l4,y4,(Y5 ⟨b,o,U⟩),l5,y5⟩ c p va vl vc (wr.alloc (Y8 #[I p.n,Y7 Y6 p.c,I p.z,J va vl vc,I p.d,Y7 Y6 2] 40)) (HR.below (HB.trans ((ak _ _).mono HB.size))) HNR.out HXR.out HVR.out HNE.out (HTp.below (ak _ _)));rw[HP2.out] at HCall;refine (HCall.out).mono ?_;have z1642z:=@aa _ @El;exact sf):p:=h
theorem JE(h:p:=by
 exact z952z):p:=h
theorem Jx(h:p:=by
 have HI2:=aa hi;clear hi;cases r
 ·exact QB
 obtain⟨k0,k1,k2,k3,k4,k5⟩:=cs6 Bk;go_wp2_with fail;refine (vS _ _ _ c.vs 8 _ (HR.v.below HB.out)).mono ?_;have z1108z:=@aa _ @Mn;exact tQ):p:=h
theorem Jw(h:p:=by
 have HI4:=aa hi;clear hi;cases r
 ·exact PV
 obtain⟨k0,k1,k2,k3,k4,k5⟩:=cs6 Bk;go_wp2_with fail;refine (vT _ _ _ c.ps 8 _ (HR.p.below HB.out)).mono ?_;rintro e w5 ⟨r,rfl,hi,hb⟩;have z1749z:=@aa _ @CU;exact fw):p:=h
theorem Jv(h:p:=by
 have HI4:=aa hi;clear hi;cases r
 ·exact PV
 obtain⟨k0,k1,k2,k3,k4,k5⟩:=cs6 Bk;go_wp2_with fail;refine (oa d c _ (HR.below HB.out) HOK.1.2.2 (by have:=HOK.2.2.1.1;omega)).mono ?_;have z1577z:=@aa _ @E7;exact sw):p:=h
theorem Ju(h:p:=by
 have HI3:=aa hi;clear hi;cases r
 ·exact aks
 obtain⟨k0,k1,k2,k3,k4,k5⟩:=cs6 Bk;go_wp2_with fail;exact z1108z):p:=h
theorem Jo(h:p:=by
 refine (cB u 0 1000000 _).mono ?_;have z1614z:=@aa _ @EF;exact my):p:=h
theorem Jn(h:p:=by
 refine (xj n c z a len cap d p _ hd).mono ?_;rintro e w1 ⟨r,rfl,hr,hb⟩;go_wp2_with fail;go_ret;exact⟨r,rfl,⟨λh=>⟨h0.out,h1.out,h2.out,h3.out,hr.1 h⟩,λh=>hr.2 h.2.2.2.2⟩,(gM hb).2.1⟩):p:=h
theorem IV(h:p:=by
 have hmright:∀(v:Value) (w:World),(method 344 40 v "loop.example/g00571/impl.right").run Tryz.prog w=.ok (202,v) w:=λ_ _=>by kernel_rfl
 by_cases hmo:most<(len:Int)
 ·go_enter Tryz.func138,Tryz.ntmps138;exact nA
 go_enter Tryz.func138,Tryz.ntmps138;go_wp2;go_loopw [5,14] (λq i wr=> ∃(k:Nat) (y:ByteArray),k<=len/\q=I y/\i=Y7 Y6 k/\Hid (k=0->y=⟨#[]⟩)/\Hid (∀z,0<k->xs[k - 1]?=Y5 z->z.n=y)/\Hid (∀(j:Nat) z,j<k->xs[j]?=Y5 z->uS z)/\Hid (∀(j:Nat) z u,j+1<k->xs[j+1]?=Y5 z->xs[j]?=Y5 u->Yk u.n.toList z.n.toList=Zb)/\Hid (Below w.heap.size w wr)) (λ_ i _=>len - (intOf i).toNat);case atStart=>exact⟨0,_,by omega,rfl,rfl,λ_=>rfl,λ_ h=>absurd h af,λ_ _ h=>absurd h af,λ_ _ _ h=>absurd h af,Yh _ _⟩
 case round=>
  obtain⟨k,y,hk,rfl,rfl,H0,H1,HE,HO,HB⟩:=hrel;by_cases hlt:k<len
  ·obtain⟨b,o,x,rfl,hb,hx,hat⟩:=cg (HR.below HB.out) hlt;have z1042z:=@aa _ @Nc;exact cK
  ·exact uG):p:=h
theorem mS(h:p:=by
 have hmcalled:∀(v:Value) (w:World),(method 344 40 v "loop.example/g00571/impl.called").run Tryz.prog w=.ok (201,v) w:=λ_ _=>by kernel_rfl
 exact z1368z):p:=h
theorem IK(h:p:=by
 clear ho hb2 hbx hg hb c0 c1 c2 c3 c4 c5 c6 c7;go_wp2_with (first|(at_builtin;refine wpList_append_own _ rfl _ _ 25 rfl w.heap.size 38 i0 (Zc #[I ⟨#[]⟩,Y7 Y6 0,I ⟨#[]⟩,I ⟨#[]⟩,Y9 Y_,I ⟨#[]⟩,Y9 Y_,J U 0 0]) 8 112 Tryz.underlying25 HI0.1 HI0.2.1 HI0.2.2.1 HI0.2.2.2 rfl ag _ _ _ rfl (HO2.alloc _) ⟨w2.heap.size,0,U⟩ 1 1 [I x.n,Y7 Y6 x.c,I x.z,I x.k,Y9 x.x,I x.m,Y9 x.y,J a' l' c'] rfl rfl ?c1 ?c2 ?c3 ?c4 ?c5 ?_));case c1=>exact dv _ _ _
 case c2=>intro u hu;simp only[YO,List.not_mem_nil,or_false] at hu;rcases hu with rfl|rfl|rfl|rfl|rfl|rfl|rfl|rfl <;> rfl
 case c3=>unfold maxLen;omega
 case c4=>omega
 case c5=>simp;omega
 rintro v' w3 hown3 hgrow -;have HO3:Hid (w3.ownsRow w.heap.size 38 8 v' (k+1) (vss++([[I x.n,Y7 Y6 x.c,I x.z,I x.k,Y9 x.x,I x.m,Y9 x.y,J a' l' c']]:List (List Value))).flatten):=by
  exact wj
 have hb23:Below wr.heap.size wr (w2.alloc (Y8 (vov x a' l' c') 38)):=HX2.trans ((ak _ _).mono (Nat.le_of_lt hs2));have hV:=HV.app (r:=vdF x) (vs:=[I x.n,Y7 Y6 x.c,I x.z,I x.k,Y9 x.x,I x.m,Y9 x.y,J a' l' c']) (hh:=g) hb23 (HO2.alloc _) ag hgrow rfl rfl
  (BP HZz0.out HZz2.out HZz3.out HZz5.out (HG.ay (S':=λk=>w.heap.size<=k) (λcu _ q=>Yl _ _ _ (ae q)) (λ_ s=>by have s1:wr.heap.size+1<=g:=s;show w.heap.size<=g;omega)))
  (λi zs hi hz=>by obtain⟨_,rfl⟩:=AP hi;have s1:wr.heap.size+1<=g:=(HG.lt hz).1;omega) (λi i' zs zs' h1 _ h2 _=>(AP h1).1.trans (AP h2).1.symm)
 have e1:(xs.take (k+1)).map vdF=(xs.take k).map vdF++[vdF x]:=by rw[YN,HX.out];simp
 exact Oq):p:=h
theorem IJ(h:p:=by
 clear ho hb2 hbx hg hb c0 c1 c2 c3 c4 c5;go_wp2_with (first|(at_builtin;refine wpList_append_own _ rfl _ _ 27 rfl w.heap.size 40 i0 (Zc #[I ⟨#[]⟩,Y7 Y6 0,I ⟨#[]⟩,J U 0 0,I ⟨#[]⟩,Y7 Y6 0]) 6 88 Tryz.underlying27 HI0.1 HI0.2.1 HI0.2.2.1 HI0.2.2.2 rfl ag _ _ _ rfl (HO2.alloc _) ⟨w2.heap.size,0,U⟩ 1 1 [I x.n,Y7 Y6 x.c,I x.z,J a' l' c',I x.d,Y7 Y6 x.p] rfl rfl ?c1 ?c2 ?c3 ?c4 ?c5 ?_));case c1=>exact dv _ _ _
 case c2=>intro u hu;simp only[YO,List.not_mem_nil,or_false] at hu;rcases hu with rfl|rfl|rfl|rfl|rfl|rfl <;> rfl
 case c3=>unfold maxLen;omega
 case c4=>omega
 case c5=>simp;omega
 rintro v' w3 hown3 hgrow -;have HO3:Hid (w3.ownsRow w.heap.size 40 6 v' (k+1) (vss++([[I x.n,Y7 Y6 x.c,I x.z,J a' l' c',I x.d,Y7 Y6 x.p]]:List (List Value))).flatten):=by
  exact wj
 have hb23:Below wr.heap.size wr (w2.alloc (Y8 (pov x a' l' c') 40)):=HX2.trans ((ak _ _).mono (Nat.le_of_lt hs2));have hV:=HV.app (r:=pdF x) (vs:=[I x.n,Y7 Y6 x.c,I x.z,J a' l' c',I x.d,Y7 Y6 x.p]) (hh:=g) hb23 (HO2.alloc _) ag hgrow rfl rfl
  (ah9 HZz0.out HZz2.out HZz4.out (HG.ay (S':=λk=>w.heap.size<=k) (λcu _ q=>Yl _ _ _ (ae q)) (λ_ s=>by have s1:wr.heap.size+1<=g:=s;show w.heap.size<=g;omega)))
  (λi zs hi hz=>by obtain⟨_,rfl⟩:=A5 hi;have s1:wr.heap.size+1<=g:=(HG.lt hz).1;omega) (λi i' zs zs' h1 _ h2 _=>(A5 h1).1.trans (A5 h2).1.symm)
 have e1:(xs.take (k+1)).map pdF=(xs.take k).map pdF++[pdF x]:=by rw[YN,HX.out];simp
 exact Oq):p:=h
theorem II(h:p:=by
 clear ho hb2 hbx hg hb c0 c1 c2 c3 c4 c5 c6;go_wp2_with (first|(at_builtin;refine wpList_append_own _ rfl _ _ 23 rfl w.heap.size 83 i0 (Zc #[I ⟨#[]⟩,I ⟨#[]⟩,Y7 Y6 0,Y7 Y6 0,Y7 Y6 0,Y9 Y_,J U 0 0]) 7 88 Tryz.underlying23 HI0.1 HI0.2.1 HI0.2.2.1 HI0.2.2.2 rfl ag _ _ _ rfl (HO2.alloc _) ⟨w2.heap.size,0,U⟩ 1 1 [I x.n,I x.z,Y7 Y6 x.c,Y7 Y6 x.s,Y7 Y6 x.u,Y9 x.d,J a' l' c'] rfl rfl ?c1 ?c2 ?c3 ?c4 ?c5 ?_));case c1=>exact dv _ _ _
 case c2=>intro u hu;simp only[YO,List.not_mem_nil,or_false] at hu;rcases hu with rfl|rfl|rfl|rfl|rfl|rfl|rfl <;> rfl
 case c3=>unfold maxLen;omega
 case c4=>omega
 case c5=>simp;omega
 rintro v' w3 hown3 hgrow -;have HO3:Hid (w3.ownsRow w.heap.size 83 7 v' (k+1) (vss++([[I x.n,I x.z,Y7 Y6 x.c,Y7 Y6 x.s,Y7 Y6 x.u,Y9 x.d,J a' l' c']]:List (List Value))).flatten):=by
  exact wj
 have hb23:Below wr.heap.size wr (w2.alloc (Y8 (nov x a' l' c') 83)):=HX2.trans ((ak _ _).mono (Nat.le_of_lt hs2));have hV:=HV.app (r:=ndF x) (vs:=[I x.n,I x.z,Y7 Y6 x.c,Y7 Y6 x.s,Y7 Y6 x.u,Y9 x.d,J a' l' c']) (hh:=g) hb23 (HO2.alloc _) ag hgrow rfl rfl
  (ah_ HZz0.out HZz1.out (HG.ay (S':=λk=>w.heap.size<=k) (λcu _ q=>Yl _ _ _ (ae q)) (λ_ s=>by have s1:wr.heap.size+1<=g:=s;show w.heap.size<=g;omega)))
  (λi zs hi hz=>by obtain⟨_,rfl⟩:=A7 hi;have s1:wr.heap.size+1<=g:=(HG.lt hz).1;omega) (λi i' zs zs' h1 _ h2 _=>(A7 h1).1.trans (A7 h2).1.symm)
 have e1:(xs.take (k+1)).map ndF=(xs.take k).map ndF++[ndF x]:=by rw[YN,HX.out];simp
 exact Oq):p:=h
theorem mQ(h:p:=by
 rintro e w2 ⟨a',l',c',rfl,ho,hb2⟩;obtain⟨-,hbx⟩:=aV hb2;rw[cw] at ho;obtain⟨g,hg⟩:=ho.fr;obtain⟨HG,HX2,HO2,hs2⟩:=alG;exact z1380z):p:=h
theorem Iu(h:p:=by
 go_enter Tryz.func175,Tryz.ntmps175;go_wp2;go_loopw [10] (λi wr=> ∃k:Nat,k<=len/\i=Y7 Y6 k/\Hid (∀(j:Nat) y,j<k->xs[j]?=Y5 y->Yk y.n.toList t.toList=Zb)/\Hid (Below w.heap.size w wr)) (λi _=>len - (intOf i).toNat);case atStart=>exact⟨0,by omega,rfl,λj y hj=>by omega,Yh _ _⟩
 case round=>
  obtain⟨k,hk,rfl,HE,HB⟩:=hrel;by_cases hlt:k<len
  ·have z1118z:=@aa _ @Me;exact m_
  ·obtain rfl:k=len:=af
   have hp:pl Nd.n xs t=xs.length:=fY (λj y hy=>HE.out j y kV hy);have hh:hit Nd.n xs t=Y_:=by unfold hit;rw[hp,List.getElem?_eq_none (Ye _)]
   have HP:=aa hp;have HH:=aa hh;clear hp hh;go_wp2;exact bodyPost_ret (v:=Zg #[Y7 Y6 k,Y9 Y_]) (by simp[results,Tryz.results175,go_sem]) rfl ⟨by rw[HP.out,HH.out,hxl],HB.out⟩):p:=h
theorem It(h:p:=by
 have hmright:∀(v:Value) (w:World),(method 344 83 v "loop.example/g00571/impl.right").run Tryz.prog w=.ok (215,v) w:=λ_ _=>by kernel_rfl
 by_cases hmo:most<(len:Int)
 ·go_enter Tryz.func134,Tryz.ntmps134;exact nA
 go_enter Tryz.func134,Tryz.ntmps134;go_wp2;go_loopw [5,14] (λq i wr=> ∃(k:Nat) (y:ByteArray),k<=len/\q=I y/\i=Y7 Y6 k/\Hid (k=0->y=⟨#[]⟩)/\Hid (∀z,0<k->xs[k - 1]?=Y5 z->z.n=y)/\Hid (∀(j:Nat) z,j<k->xs[j]?=Y5 z->wV z)/\Hid (∀(j:Nat) z u,j+1<k->xs[j+1]?=Y5 z->xs[j]?=Y5 u->Yk u.n.toList z.n.toList=Zb)/\Hid (Below w.heap.size w wr)) (λ_ i _=>len - (intOf i).toNat);case atStart=>exact⟨0,_,by omega,rfl,rfl,λ_=>rfl,λ_ h=>absurd h af,λ_ _ h=>absurd h af,λ_ _ _ h=>absurd h af,Yh _ _⟩
 case round=>
  obtain⟨k,y,hk,rfl,rfl,H0,H1,HE,HO,HB⟩:=hrel;by_cases hlt:k<len
  ·have z1118z:=@aa _ @Md;exact m_
  ·exact uG):p:=h
theorem sV(h:p:=by
 obtain⟨HR,hxl,hlc⟩:=nt;clear hr;have hmcalled:∀(v:Value) (w:World),(method 344 83 v "loop.example/g00571/impl.called").run Tryz.prog w=.ok (214,v) w:=λ_ _=>by kernel_rfl
 exact z1403z):p:=h
theorem Io(h:p:=by
 have kc:=ck0 Bk;go_wp2;go_loopw [45] (λi wr=> ∃k:Nat,k<=l1/\i=Y7 Y6 k/\Hid (∀(j:Nat) z,j<k->c.ns[j]?=Y5 z->AQ2 c z)/\Hid (Below w.heap.size w wr)/\Hid (wr.heap[w.heap.size]?=Y5 (Y8 (clo6 a1 l1 y1 a2 l2 y2 a3 l3 y3 a4 l4 y4 a5 l5 y5 c.now) 29 (0,0)))) (λi _=>l1 - (intOf i).toNat);case atStart=>exact⟨0,by omega,rfl,λ_ _ h=>absurd h af,HB.out,Bk.out⟩
 case round=>
  obtain⟨k,hk,rfl,HQ,HB,Bk⟩:=hrel;by_cases hlt:k<l1
  ·have z900z:=@aa _ @Tg;exact fQ
  ·obtain rfl:l1=k:=af
   have HQ2:Hid (∀(j:Nat) z,c.ns[j]?=Y5 z->AQ2 c z):=λj z hz=>HQ.out j z dz hz;exact qv):p:=h
theorem Ii(h:p:=by
 obtain⟨hl5,hm5⟩:=nu;clear hr;have HNR:=aa hn;have HXR:=aa hx;have HVR:=aa hv;have HNE:=aa hne;clear hn hx hv hne;go_enter Tryz.func96,Tryz.ntmps96;go_wp2;go_loopw [10] (λi wr=> ∃k:Nat,k<=l1/\i=Y7 Y6 k/\Hid (∀(j:Nat) z,j<k->c.ns[j]?=Y5 z->RD c z)/\Hid (Below w.heap.size w wr)/\Hid (wr.heap[w.heap.size]?=Y5 (Y8 (clo6 a1 l1 y1 a2 l2 y2 a3 l3 y3 a4 l4 y4 a5 l5 y5 c.now) 29 (0,0)))) (λi _=>l1 - (intOf i).toNat);case atStart=>exact⟨0,by omega,rfl,λ_ _ h=>absurd h af,ak _ _,Yg⟩
 case round=>
  obtain⟨k,hk,rfl,HQ,HB,Bk⟩:=hrel;by_cases hlt:k<l1
  ·have z900z:=@aa _ @Tf;exact fQ
  ·have z1636z:=@aa _ @Ep;exact sh):p:=h
theorem Ib(h:p:=by
 rcases hf with ⟨i,hi8,⟨hi2,hs⟩,rfl⟩|⟨hok,rfl⟩
 ·obtain⟨j,rfl⟩:∃j,i=j+2:=⟨i - 2,by omega⟩;go_wp2;go_ret;exact⟨HB.out,Ze ⟨j+2,hi8,⟨hl,HT.out,hs⟩,rfl⟩⟩
 ·go_wp2;go_ret;exact⟨HB.out,Zd ⟨⟨hl,HT.out,hok⟩,rfl⟩⟩):p:=h
theorem H8(h:p:=by
 rcases hf with ⟨hh,v,va,vl,vc,hx,hn,rfl,z0,z2,z3,z5,hvr⟩|⟨hh,rfl⟩;rotate_left
 ·have HH:=aa hh;clear hh;have z729z:=@aa _ @VG;exact jy
 have HXv:=aa hx;have HNv:=aa hn;have HTv:=aa hvr;clear hx hn hh z0 z2 z3 z5 hvr;rcases Bool.eq_false_or_eq_true n.d with hd|hd
 ·have z391z:=@aa _ @acn;exact zG
 ·have z391z:=@aa _ @acm;exact zG):p:=h
theorem Hz(h:p:=by
 rcases hf with ⟨v,xa,xl,xc,hbd,rfl,z0,z2,hxr⟩|⟨hbd,rfl⟩;rotate_left
 ·exact akp
 have HD:=aa hbd;clear hbd hxr z0 z2;exact z248z):p:=h
theorem sO(h:p:=by
 rintro e w2 ⟨hb2,hf⟩;clear k0 k1 k2 k3 k4 k5 n0 n1 n2 n3 n4 n5 n6;replace Bk:=upK Bk hb2;replace Bn:=upK Bn hb2;replace HB:=upB HB hb2;clear hb2;clear hb hc;exact z1429z):p:=h
theorem FZ(h:p:=by
 replace HTp:=aa (HTp.below hbx);replace HB:=upB HB hbx;clear hb2 hbx HA0;clear hb c0 c1 c2 c3 c4 c5;rcases hf with ⟨hh,rfl⟩|⟨hh,T,q,rfl⟩;rotate_left
 ·have HH:=aa hh;clear hh;obtain⟨k0,k1,k2,k3,k4,k5⟩:=cs6 Bk;obtain⟨r0,r1,r2,r3,r4,r5⟩:=cs6 Br;go_wp2;go_ret;exact au.f (λh=>HH.out (h.1 k p HXp.out).1) HB.out
 have HH:=aa hh;clear hh;by_cases he:p.d=⟨#[]⟩
 ·have hq:=cC he;have z1763z:=@aa _ @CG;exact ed
 ·have hq:=aY he;have z1763z:=@aa _ @CF;exact ed):p:=h
theorem Fw(h:p:=by
 go_wp2;refine⟨⟨k+1,by omega,by go_num,λj z hj hz=>?_,(HB.alloc HB.size _),(Yl _ _ _ (ae Bk.out)).trans Bk.out⟩,by simp[intOf];omega⟩;exact z377z):p:=h
theorem Fu(h:p:=by
 go_wp2_with fail;refine (iN ⟨a1,l1,y1,a2,l2,y2,(Y5 ⟨b,o,U⟩),l3,y3,a4,l4,y4,a5,l5,y5⟩ c.now c.ks v.k _ (HR.k.below (HB.trans ((ak _ _).mono HB.size))) (HE.below (HB.trans ((ak _ _).mono HB.size)))).mono ?_;have z979z:=@aa _ @Se;exact pF):p:=h
theorem Ft(h:p:=by
 go_wp2_with fail;refine (Q9 ⟨a1,l1,y1,a2,l2,y2,(Y5 ⟨b,o,U⟩),l3,y3,a4,l4,y4,a5,l5,y5⟩ c v.m _ (HR.below (HB.trans ((ak _ _).mono HB.size)))).mono ?_;rintro e w2 ⟨r,rfl,hi,hb3⟩;clear k0 k1 k2 k3 k4 k5 ltk_0;obtain⟨HA0,hbx⟩:=aV hb3;replace Bk:=upK Bk hbx;have Br:=aa HA0;replace HB:=upB HB hbx;clear hb3 hbx HA0;have HI:=aa hi;clear hi hb c0 c1 c2 c3 c4 c5 c6 c7;cases r
 ·go_wp2;go_ret;exact au.f (λh=>by have:=HI.2 ((h.2.2 k v HXv.out) HSi.out HEm.out);cases this) HB.out
 ·have z191z:=@aa _ @aeM;exact cR):p:=h
theorem Fi(h:p:=by
 have HX:=aa hx;have HC:=aa (λv:World=>eH x va vl vc v);have HB1:=aa (HB.alloc HB.size (Y8 (vov x va vl vc) 38));have HRt:=aa (rJ x va vl vc (wr.alloc (Y8 (vov x va vl vc) 38)) z0 z2 z3 z5 (hvr.below (ak _ _)));clear hat hx z0 z2 z3 z5 hvr;go_wp2_with fail;refine HRt.mono ?_;rintro e w1 ⟨r,rfl,hrt,hb1⟩;obtain⟨g1,-,-⟩:=gM hb1;have hs1:=hb1.size;have z1138z:=@aa _ @L1;exact tL):p:=h
theorem Fh(h:p:=by
 have hvk:vss[k]?=Y5 [I x.n,Y7 Y6 x.c,I x.z,I x.k,Y9 x.x,I x.m,Y9 x.y,J va vl vc]:=by
  have z267z:=@aa _ @adT;exact qk
 have z637z:=@aa _ @WV;exact pR):p:=h
theorem E7(h:p:=by
 refine (qN d c _ (HR.below HB.out) HOK.1.2.2 HOK.2.2.2.1.2.2 HOK.2.2.1.2.2 HOK.ne).mono ?_;rintro e w6 ⟨r,rfl,hi,hb⟩;have z1749z:=@aa _ @CT;exact fw):p:=h
theorem EF(h:p:=by
 go_wp2_with fail;refine (fZ a len cap zs 8 _ (HR.below (ak _ _))).mono ?_;rintro e w1 ⟨r,rfl,hr,rfl⟩;go_wp2_with fail;go_ret;exact⟨r,rfl,⟨λh=>⟨h0.out,h1.out,h2.out,h3.out,h4.out,hr.1 h⟩,λh=>hr.2 h.2.2.2.2.2⟩,ak _ _⟩):p:=h
theorem Ep(h:p:=by
 have kc:=ck4 Bk;go_wp2;go_loopw [22] (λi wr=> ∃k:Nat,k<=l5/\i=Y7 Y6 k/\Hid (∀(j:Nat) z,j<k->c.ps[j]?=Y5 z->MQ2 c z)/\Hid (Below w.heap.size w wr)/\Hid (wr.heap[w.heap.size]?=Y5 (Y8 (clo6 a1 l1 y1 a2 l2 y2 a3 l3 y3 a4 l4 y4 a5 l5 y5 c.now) 29 (0,0)))) (λi _=>l5 - (intOf i).toNat);case atStart=>exact⟨0,by omega,rfl,λ_ _ h=>absurd h af,HB.out,Bk.out⟩
 case round=>
  obtain⟨k,hk,rfl,HQ,HB,Bk⟩:=hrel;by_cases hlt:k<l5
  ·have z952z:=@aa _ @SA;exact yA
  ·obtain rfl:l5=k:=af
   have HQ2:Hid (∀(j:Nat) z,c.ps[j]?=Y5 z->MQ2 c z):=λj z hz=>HQ.out j z dz hz;exact qv):p:=h
theorem Em(h:p:=by
 clear hi hb c0 c1 c2 c3 c4 c5 c6;cases r
 ·go_wp2;go_ret;exact au.f (λh=>by have:=HI.2 (h.1 k n HXn.out);cases this) HB.out
 ·have z191z:=@aa _ @aeL;exact cR):p:=h
theorem El(h:p:=by
 clear hi hb HCall c0 c1 c2 c3 c4 c5;cases r
 ·go_wp2;go_ret;exact au.f (λh=>by have:=HI.2 ((h.2 k p HXp.out) HP2.out);cases this) HB.out
 ·have z191z:=@aa _ @aeK;exact cR):p:=h
theorem sf(h:p:=by
 rintro e w2 ⟨r,rfl,hi,hb3⟩;clear k0 k1 k2 k3 k4 k5 ltk_0;obtain⟨HA0,hbx⟩:=aV hb3;replace Bk:=upK Bk hbx;replace HB:=upB HB hbx;clear hb3 hbx HA0;have HI:=aa hi;exact z1642z):p:=h
theorem D9(h:p:=by
 have hl4:c.xs.length=l4:=NY
 have hm4:l4<=9223372036854775807:=Yp hr.x.2.1 hr.x.2.2.1;clear hr;have HE:=aa hG;have HXR:=aa hxr;have HVR:=aa hvr;clear hG hxr hvr;go_enter Tryz.func93,Tryz.ntmps93;go_wp2;go_loopw [10] (λi wr=> ∃k:Nat,k<=l3/\i=Y7 Y6 k/\Hid (∀(j:Nat) z,j<k->c.vs[j]?=Y5 z->QV c z)/\Hid (Below w.heap.size w wr)/\Hid (wr.heap[w.heap.size]?=Y5 (Y8 (clo6 a1 l1 y1 a2 l2 y2 a3 l3 y3 a4 l4 y4 a5 l5 y5 c.now) 29 (0,0)))) (λi _=>l3 - (intOf i).toNat);case atStart=>exact⟨0,by omega,rfl,λ_ _ h=>absurd h af,ak _ _,Yg⟩
 case round=>
  obtain⟨k,hk,rfl,HQ,HB,Bk⟩:=hrel;by_cases hlt:k<l3
  ·have z1289z:=@aa _ @JT;exact mV
  ·obtain rfl:l3=k:=af
   have HQ1:Hid (∀(j:Nat) z,c.vs[j]?=Y5 z->QV c z):=λj z hz=>HQ.out j z dz hz;clear HQ;have k3:=ck3 Bk;go_wp2;go_loopw [37] (λi wr=> ∃k:Nat,k<=l4/\i=Y7 Y6 k/\Hid (∀(j:Nat) z,j<k->c.xs[j]?=Y5 z->QX c z)/\Hid (Below w.heap.size w wr)/\Hid (wr.heap[w.heap.size]?=Y5 (Y8 (clo6 a1 l1 y1 a2 l2 y2 a3 l3 y3 a4 l4 y4 a5 l5 y5 c.now) 29 (0,0)))) (λi _=>l4 - (intOf i).toNat);case atStart=>exact⟨0,by omega,rfl,λ_ _ h=>absurd h af,HB.out,Bk.out⟩
   case round=>
    obtain⟨k,hk,rfl,HQ,HB,Bk⟩:=hrel;by_cases hlt:k<l4
    ·have z1731z:=@aa _ @Db;exact mm
    ·obtain rfl:l4=k:=af
     have HQ2:Hid (∀(j:Nat) z,c.xs[j]?=Y5 z->QX c z):=λj z hz=>HQ.out j z dz hz;exact qv):p:=h
theorem Db(h:p:=by
 clear hat hx z0 z2 z4;have z1296z:=@aa _ @JO;exact gT):p:=h
theorem CU(h:p:=by
 have HI5:=aa hi;clear hi;cases r
 ·obtain⟨k0,k1,k2,k3,k4,k5⟩:=cs6 Bk;go_wp2;go_ret;exact au.f (λh=>by have:=HI5.2 h.2.2.2.2;cases this) HB.out
 go_wp2;go_ret;exact au.t ⟨HI1.1 bM,HI2.1 bM,HI3.1 bM,HI4.1 bM,HI5.1 bM⟩ HB.out):p:=h
theorem CT(h:p:=by
 have HI6:=aa hi;clear hi;cases r
 ·exact PW
 go_wp2;go_ret;exact au.t ⟨HI1.1 bM,HI2.1 bM,HI3.1 bM,HI4.1 bM,HI5.1 bM,HI6.1 bM⟩ HB.out):p:=h
theorem CK(h:p:=by
 obtain⟨r0,r1,r2,r3,r4,r5,r6,r7⟩:=cs8 Br;have z191z:=@aa _ @aeS;exact cR):p:=h
theorem CJ(h:p:=by
 obtain⟨r0,r1,r2,r3,r4,r5,r6,r7⟩:=cs8 Br;go_wp2_with fail;refine (pe ⟨a1,l1,y1,a2,l2,y2,(Y5 ⟨b,o,U⟩),l3,y3,a4,l4,y4,a5,l5,y5⟩ c v.m v.n _ (HR.below HB.out) HXR.out HVR.out).mono ?_;rintro e w2 ⟨r,rfl,hi,hb3⟩;clear k0 k1 k2 k3 k4 k5 r0 r1 r2 r3 r4 r5 r6 r7;replace Bk:=upK Bk hb3;replace Br:=upK Br hb3;replace HB:=upB HB hb3;clear hb3;have HI:=aa hi;clear hi;cases r
 ·go_wp2;go_ret;refine au.f (λh=>?_) HB.out;rcases (h.1 k v HXv.out).2 with h2|h2
  ·exact HEm.out h2
  ·have:=HI.2 h2;cases this
 ·have z191z:=@aa _ @aeR;exact cR):p:=h
theorem CI(h:p:=by
 obtain⟨r0,r1,r2,r3,r4⟩:=cs5 Br;have z191z:=@aa _ @aeQ;exact cR):p:=h
theorem CH(h:p:=by
 obtain⟨r0,r1,r2,r3,r4⟩:=cs5 Br;go_wp2_with fail;refine (pe ⟨a1,l1,y1,a2,l2,y2,a3,l3,y3,(Y5 ⟨b,o,U⟩),l4,y4,a5,l5,y5⟩ c x.n x.v _ (HR.below HB.out) HXR.out HVR.out).mono ?_;rintro e w2 ⟨r,rfl,hi,hb3⟩;clear k0 k1 k2 k3 k4 k5 r0 r1 r2 r3 r4;replace Bk:=upK Bk hb3;replace Br:=upK Br hb3;replace HB:=upB HB hb3;clear hb3;have HI:=aa hi;clear hi;cases r
 ·go_wp2;go_ret;refine au.f (λh=>?_) HB.out;rcases (h.2 k x HXx.out).2 with h2|h2
  ·exact HEm.out h2
  ·have:=HI.2 h2;cases this
 ·have z191z:=@aa _ @aeP;exact cR):p:=h
theorem CG(h:p:=by
 obtain⟨r0,r1,r2,r3,r4,r5⟩:=cs6 Br;have z191z:=@aa _ @aeO;exact cR):p:=h
theorem CF(h:p:=by
 obtain⟨r0,r1,r2,r3,r4,r5⟩:=cs6 Br;go_wp2_with fail;refine (Bl ⟨a1,l1,y1,a2,l2,y2,a3,l3,y3,a4,l4,y4,(Y5 ⟨b,o,U⟩),l5,y5⟩ c p va vl vc _ (HR.below HB.out) HNR.out HXR.out HVR.out HNE.out HTp.out).mono ?_;rintro e w2 ⟨r,rfl,hi,hb3⟩;clear k0 k1 k2 k3 k4 k5 r0 r1 r2 r3 r4 r5;replace Bk:=upK Bk hb3;replace Br:=upK Br hb3;replace HTp:=aa (HTp.below hb3);replace HB:=upB HB hb3;clear hb3;have HI:=aa hi;clear hi;cases r
 ·go_wp2;go_ret;refine au.f (λh=>?_) HB.out;rcases (h.1 k p HXp.out).2 with h2|h2
  ·exact HEm.out h2
  ·have:=HI.2 h2;cases this
 ·have z191z:=@aa _ @aeN;exact cR):p:=h
theorem CB(h:p:=by
 go_enter Tryz.func95,Tryz.ntmps95;go_wp2;go_loopw [14] (λi wr=> ∃k:Nat,k<=l3/\i=Y7 Y6 k/\Hid (∀(j:Nat) z,j<k->c.vs[j]?=Y5 z->AQ1 c z)/\Hid (Below w.heap.size w wr)/\Hid (wr.heap[w.heap.size]?=Y5 (Y8 (clo6 a1 l1 y1 a2 l2 y2 a3 l3 y3 a4 l4 y4 a5 l5 y5 c.now) 29 (0,0)))) (λi _=>l3 - (intOf i).toNat);case atStart=>exact⟨0,by omega,rfl,λ_ _ h=>absurd h af,ak _ _,Yg⟩
 case round=>
  obtain⟨k,hk,rfl,HQ,HB,Bk⟩:=hrel;by_cases hlt:k<l3
  ·obtain⟨b,o,v,rfl,hb,hx,hat⟩:=bK (HR.v.below HB.out) hlt;have z280z:=@aa _ @adF;exact fV
  ·have z1409z:=@aa _ @Io;exact sS):p:=h
theorem Ct(h:p:=by
 have KV:=aa ((Yl wr (Y8 (vov v va vl vc) 38) _ (ae Bk.out)).trans Bk.out);obtain⟨GV,BV⟩:=ag_;have TV:=aa (HTv.below (ak wr (Y8 (vov v va vl vc) 38)));obtain⟨W,hW⟩:∃W,W=wr.alloc (Y8 (vov v va vl vc) 38):=⟨_,rfl⟩;obtain⟨gb,hgb⟩:∃gb,gb=wr.heap.size:=⟨_,rfl⟩;rw[<-hW] at KV GV BV TV;rw[<-hgb] at GV;go_wp2;rw[<-hW,<-hgb];clear hW hgb HB Bk HTv c0 c1 c2 c3 c4 c5 c6 c7 hb;go_loopw [21] (λi wr=> ∃kq:Nat,kq<=vl/\i=Y7 Y6 kq/\Hid (∀(j:Nat) t,j<kq->v.zs[j]?=Y5 t->∃(i:Nat) (n:Nd),c.ns[i]?=Y5 n/\n.n=t/\n.z=v.z)/\Hid (Below W.heap.size W wr)) (λi _=>vl - (intOf i).toNat);case atStart=>exact⟨0,by omega,rfl,λ_ _ h=>absurd h af,Yh _ _⟩
 case round=>
  obtain⟨kq,hkq,rfl,HQ2,HBW⟩:=hrel;obtain⟨HB,Bk⟩:=uu;have Bv:=upK GV HBW.out;by_cases hlt2:kq<vl
  ·obtain⟨b2,o2,t,rfl,hb,hx,hc,hsz⟩:=(TV.below HBW.out).at hlt2;have HXt:=aa hx;clear hx hsz;obtain⟨k0,k1,k2,k3,k4,k5⟩:=cs6 Bk;obtain⟨v0,v1,v2,v3,v4,v5,v6,v7⟩:=cs8 Bv;go_wp2_with fail;refine (oj ⟨a1,l1,y1,a2,l2,y2,(Y5 ⟨b,o,U⟩),l3,y3,a4,l4,y4,a5,l5,y5⟩ c.now c.ns t w _ HR.n HB.out).mono ?_;rintro e w1 ⟨hb2,hf⟩;have HBW1:=upB HBW hb2;clear k0 k1 k2 k3 k4 k5 v0 v1 v2 v3 v4 v5 v6 v7;replace Bk:=upK Bk hb2;replace Bv:=upK Bv hb2;replace HB:=upB HB hb2;clear hb2;clear hb hc;rcases hf with ⟨hh,m,ma,ml,mc,hx,hn,rfl,z0,z1,hmr⟩|⟨hh,rfl⟩;rotate_left
   ·have HH:=aa hh;clear hh;obtain⟨k0,k1,k2,k3,k4,k5⟩:=cs6 Bk;have z773z:=@aa _ @U8;exact ix
   have HXm:=aa hx;have HNm:=aa hn;clear hx hn hh z0 z1 hmr;by_cases hz:m.z=v.z
   ·have q1:=aP hz;have HZ:=aa hz;clear hz;obtain⟨k0,k1,k2,k3,k4,k5⟩:=cs6 Bk;have z773z:=@aa _ @U7;exact ix
   ·have q1:=bu hz;have HZ:=aa hz;clear hz;obtain⟨k0,k1,k2,k3,k4,k5⟩:=cs6 Bk;have z773z:=@aa _ @U6;exact ix
  ·exact ahI):p:=h
theorem rN {a b:Bool} (h:a=b):Ending.returned (Y9 a)=Za (Y9 b):=by rw[h]
theorem Az(b:Int) (w:World):
  Calls Tryz.prog 199 #[Y7 .u8 b] w λe w'=>e=Za (Y9 (n_ b))/\w=w':=by
 go_enter Tryz.func199,Tryz.ntmps199;go_wp2;all_goals (go_ret;exact⟨rN (by unfold n_;rw[Bool.eq_iff_iff];simp;omega),rfl⟩)
theorem QM(b:Int) (w:World):
  Calls Tryz.prog 200 #[Y7 .u8 b] w λe w'=>e=Za (Y9 (nbB b))/\w=w':=by
 go_enter Tryz.func200,Tryz.ntmps200;go_wp2;all_goals (go_ret;exact⟨rN (by unfold nbB n_ agI;rw[Bool.eq_iff_iff];simp;omega),rfl⟩)
theorem bA(s:ByteArray) (w:World) (hs:s.size<=9223372036854775807):
  Calls Tryz.prog 195 #[I s] w (cW (aL s) w):=by
 by_cases h1:s.size<1
 ·go_enter Tryz.func195,Tryz.ntmps195;exact qx
 by_cases h2:20<s.size
 ·go_enter Tryz.func195,Tryz.ntmps195;exact qx
 have h0:0<s.size:=af
 cases hl:n_ ((s[0]'h0).toNat:Int)
 ·have HC:Hid (∀w,Calls Tryz.prog 199 #[Y7 .u8 ((s[0]'h0).toNat:Int)] w λe w'=>e=Za (Y9 Y_)/\w=w'):=λw=>by rw[<-hl];exact Az _ w
  have HB:Hid (okB 0 ((s[0]'h0).toNat:Int)=Y_):=hl;clear hl;go_enter Tryz.func195,Tryz.ntmps195;go_wp2_with (go_at_call 199;refine (HC.out _).mono ?_;rintro e w1 ⟨rfl,rfl⟩);go_ret;exact⟨Y_,rfl,jT h0 HB.out,rfl⟩
 ·have HC:Hid (∀w,Calls Tryz.prog 199 #[Y7 .u8 ((s[0]'h0).toNat:Int)] w λe w'=>e=Za (Y9 Zb)/\w=w'):=λw=>by rw[<-hl];exact Az _ w
  have HB:Hid (okB 0 ((s[0]'h0).toNat:Int)=Zb):=hl;clear hl;go_enter Tryz.func195,Tryz.ntmps195;go_wp2_with (go_at_call 199;refine (HC.out _).mono ?_;rintro e w1 ⟨rfl,rfl⟩);go_loop [3] (λi=> ∃k:Nat,1<=k/\k<=s.size/\i=Y7 Y6 k/\∀i (h:i<s.size),i<k->okB i ((s[i]'h).toNat:Int)=Zb) (λi=>s.size - (intOf i).toNat);case atStart=>exact⟨1,by omega,by omega,rfl,λi _ h=>by obtain rfl:i=0:=af;exact HB.out⟩
  case round=>
   obtain⟨k,hk1,hk,rfl,hall⟩:=hrel;have HA:Hid (∀i (h:i<s.size),i<k->okB i ((s[i]'h).toNat:Int)=Zb):=hall;clear hall HC HB;by_cases hlt:k<s.size
   ·cases hok:nbB ((s[k]'hlt).toNat:Int)
    ·have HC:Hid (∀w,Calls Tryz.prog 200 #[Y7 .u8 ((s[k]'hlt).toNat:Int)] w λe w'=>e=Za (Y9 Y_)/\w=w'):=λw=>by rw[<-hok];exact QM _ w
     have HB:Hid (okB k ((s[k]'hlt).toNat:Int)=Y_):=by unfold okB;rw[if_neg af];exact hok
     clear hok;go_wp2_with (go_at_call 200;refine (HC.out _).mono ?_;rintro e w1 ⟨rfl,rfl⟩);go_ret;exact⟨Y_,rfl,jT hlt HB.out,rfl⟩
    ·have HC:Hid (∀w,Calls Tryz.prog 200 #[Y7 .u8 ((s[k]'hlt).toNat:Int)] w λe w'=>e=Za (Y9 Zb)/\w=w'):=λw=>by rw[<-hok];exact QM _ w
     have HB:Hid (okB k ((s[k]'hlt).toNat:Int)=Zb):=by unfold okB;rw[if_neg af];exact hok
     clear hok;go_wp2_with (go_at_call 200;refine (HC.out _).mono ?_;rintro e w1 ⟨rfl,rfl⟩);go_round;case rel=>exact⟨k+1,by omega,by omega,by go_num,o6 hlt HB.out HA.out⟩
     case measure=>simp[intOf];omega
   ·exact PR
theorem uY {x:ByteArray} (h:1<=x.size):Yk (⟨#[]⟩:ByteArray).toList x.toList=Zb:=by
 rw[Y3,Y3];rw[Lib.size_eq] at h;cases e:x.data.toList with
 | nil=>rw[e] at h;simp at h
 | cons a l=>rfl
theorem fZ(a:Option Addr) (len cap:Nat) (zs:List ByteArray) (most:Int) (w:World) (hr:az w a len cap zs):
  Calls Tryz.prog 197 #[J a len cap,Y7 Y6 most] w (cW (dX zs most) w):=by
 have HR:Hid (az w a len cap zs):=hr;have hlc:=Yp hr.2.1 hr.2.2.1;have hzl:=hr.1;clear hr;by_cases hm:most<(len:Int)
 ·go_enter Tryz.func197,Tryz.ntmps197;go_wp2;go_ret;exact⟨Y_,rfl,⟨λh=>bU,λh=>absurd h.1 af⟩,rfl⟩
 go_enter Tryz.func197,Tryz.ntmps197;go_wp2;go_loop [5,14] (λp i=> ∃(k:Nat) (y:ByteArray),k<=len/\p=I y/\i=Y7 Y6 k/\Hid (k=0->y=⟨#[]⟩)/\Hid (0<k->zs[k - 1]?=Y5 y)/\Hid (jb (zs.take k))) (λ_ i=>len - (intOf i).toNat);case atStart=>exact⟨0,_,by omega,rfl,rfl,λ_=>rfl,λh=>absurd h af,λi x h=>by simp at h⟩
 case round=>
  obtain⟨k,y,hk,rfl,rfl,H0,H1,HE⟩:=hrel;by_cases hlt:k<len
  ·obtain⟨b,o,x,rfl,hb,hx,hc,hsz⟩:=HR.at hlt;by_cases hn:aL x
   ·have HY:Hid (∀w,Calls Tryz.prog 195 #[I x] w λe w'=>e=Za (Y9 Zb)/\w'=w):=λw=>(bA x w hsz).mono λ_ _ h=>h.yes hn;have htri:=hM y.toList x.toList;cases hless:Yk y.toList x.toList
    ·rw[hless] at htri;go_wp2_with (go_at_call 195;refine (HY.out _).mono ?_;rintro e w1 ⟨rfl,rfl⟩);go_ret;refine⟨Y_,rfl,⟨λh=>bU,λh=>?_⟩,rfl⟩;by_cases hk0:0<k
     ·exact absurd ((h.2 k x hx).2 y hk0 (H1.out hk0)) (by rw[hless];decide)
     ·have:=H0.out af;subst this;rw[uY hn.1] at hless;cases hless
    ·rw[hless] at htri;go_wp2_with (go_at_call 195;refine (HY.out _).mono ?_;rintro e w1 ⟨rfl,rfl⟩);refine⟨⟨k+1,x,by omega,rfl,by go_num,λh=>absurd h af,λ_=>hx,HE.step hx hn (λy' h0 hy'=>?_)⟩,by simp[intOf];omega⟩;rw[H1.out h0] at hy';obtain rfl:=Yd hy';exact hless
   ·have HY:Hid (∀w,Calls Tryz.prog 195 #[I x] w λe w'=>e=Za (Y9 Y_)/\w'=w):=λw=>(bA x w hsz).mono λ_ _ h=>h.no hn;go_wp2_with (go_at_call 195;refine (HY.out _).mono ?_;rintro e w1 ⟨rfl,rfl⟩);go_ret;exact⟨Y_,rfl,⟨λh=>bU,λh=>absurd (h.2 k x hx).1 hn⟩,rfl⟩
  ·obtain rfl:k=len:=af
   have hR:=HE.out;rw[YJ af] at hR;go_wp2;go_ret;exact⟨Zb,rfl,⟨λ_=>⟨by omega,hR⟩,λ_=>rfl⟩,rfl⟩
theorem cB(n a b:Int) (w:World):
  Calls Tryz.prog 91 #[Y7 Y6 n,Y7 Y6 a,Y7 Y6 b] w (cW (Inn n a b) w):=by
 go_enter Tryz.func91,Tryz.ntmps91;go_wp2;all_goals (go_ret;exact⟨_,rfl,by unfold Inn;simp;omega,rfl⟩)
theorem kj {w1:World} {vs:Array Value} {T:TypeId} (hb:Below (w.alloc (Y8 vs T)).drew.heap.size (w.alloc (Y8 vs T)).drew w1):
  w1.heap[w.heap.size]?=Y5 (Y8 vs T (0,0))/\Below w.heap.size w w1/\w.heap.size<w1.heap.size:=gM ⟨hb.os,hb.tape,hb.output,hb.size,hb.block⟩
theorem dR(s:ByteArray) (w:World) (hs:s.size<=9223372036854775807):
  Calls Tryz.prog 196 #[I s] w (cW (dw s) w):=by
 by_cases h0:s=⟨#[]⟩
 ·subst h0;go_enter Tryz.func196,Tryz.ntmps196;go_wp2;go_ret;exact⟨_,rfl,by unfold dw;simp,rfl⟩
 ·have hq:=aY h0;go_enter Tryz.func196,Tryz.ntmps196;go_wp2_with (go_at_call 195;refine (bA _ _ hs).mono ?_;rintro e w1 ⟨r,rfl,hr,rfl⟩);go_ret;exact⟨r,rfl,by unfold dw;simp[h0,hr],rfl⟩
theorem Bz(n z:ByteArray) (c s u:Int) (d:Bool) (a:Option Addr) (len cap:Nat) (zs:List ByteArray) (w:World) (hn:n.size<=9223372036854775807) (hz:z.size<=9223372036854775807) (hr:az w a len cap zs):
  Calls Tryz.prog 216 #[Zc #[I n,I z,Y7 Y6 c,Y7 Y6 s,Y7 Y6 u,Y9 d,J a len cap]] w (au (xQ n z c s u zs) w):=by
 have HR:Hid (az w a len cap zs):=hr;clear hr;go_enter Tryz.func216,Tryz.ntmps216;go_wp2_with fail;refine (bA n _ hn).mono ?_;have z218z:=@aa _ @aev;exact fb
theorem xx(n z:ByteArray) (x y:Bool) (w:World) (hn:n.size<=9223372036854775807) (hz:z.size<=9223372036854775807):
  Calls Tryz.prog 212 #[Zc #[I n,Y9 x,Y9 y,I z]] w (au (qX n z) w):=by
 go_enter Tryz.func212,Tryz.ntmps212;go_wp2_with fail;refine (bA n _ hn).mono ?_;have z218z:=@aa _ @aeu;exact fb
theorem xA(n:ByteArray) (z:Int) (k:ByteArray) (x:Bool) (v:ByteArray) (w:World) (hn:n.size<=9223372036854775807) (hk:k.size<=9223372036854775807) (hv:v.size<=9223372036854775807):
  Calls Tryz.prog 208 #[Zc #[I n,Y7 Y6 z,I k,Y9 x,I v]] w (au (qY n z k v) w):=by
 go_enter Tryz.func208,Tryz.ntmps208;go_wp2_with fail;refine (bA n _ hn).mono ?_;have z218z:=@aa _ @aet;exact fb
theorem xj(n:ByteArray) (c:Int) (z:ByteArray) (a:Option Addr) (len cap:Nat) (d:ByteArray) (p:Int) (w:World) (hd:d.size<=9223372036854775807):
  Calls Tryz.prog 204 #[Zc #[I n,Y7 Y6 c,I z,J a len cap,I d,Y7 Y6 p]] w (au (fm d p) w):=by
 by_cases h0:p=0
 ·subst h0;go_enter Tryz.func204,Tryz.ntmps204;go_wp2;go_ret;exact⟨_,rfl,by rw[fL,fj],ak _ _⟩
 have hq0:(p==0)=Y_:=by simp[h0]
 by_cases h1:p=1
 ·subst h1;go_enter Tryz.func204,Tryz.ntmps204;go_wp2_with (go_at_call 195;refine (bA _ _ hd).mono ?_;rintro e w1 ⟨r,rfl,hr,rfl⟩);go_ret;exact⟨r,rfl,by rw[ji d (Or.inl rfl),hr],ak _ _⟩
 have hq1:(p==1)=Y_:=by simp[h1]
 by_cases h2:p=2
 ·subst h2;go_enter Tryz.func204,Tryz.ntmps204;go_wp2_with (go_at_call 195;refine (bA _ _ hd).mono ?_;rintro e w1 ⟨r,rfl,hr,rfl⟩);go_ret;exact⟨r,rfl,by rw[ji d (Or.inr rfl),hr],ak _ _⟩
 have hq2:(p==2)=Y_:=by simp[h2]
 go_enter Tryz.func204,Tryz.ntmps204;go_wp2;go_ret;exact⟨Y_,rfl,⟨λh=>bU,λh=>absurd h (ru af)⟩,ak _ _⟩
theorem Q8(n:ByteArray) (c:Int) (z:ByteArray) (a:Option Addr) (len cap:Nat) (zs:List ByteArray) (d:ByteArray) (p:Int) (w:World) (hn:n.size<=9223372036854775807) (hz:z.size<=9223372036854775807) (hd:d.size<=9223372036854775807) (hr:az w a len cap zs):
  Calls Tryz.prog 203 #[Zc #[I n,Y7 Y6 c,I z,J a len cap,I d,Y7 Y6 p]] w (au (RA n c z zs d p) w):=by
 have HR:Hid (az w a len cap zs):=hr;clear hr;go_enter Tryz.func203,Tryz.ntmps203;go_wp2_with fail;refine (bA n _ hn).mono ?_;have z218z:=@aa _ @aes;exact fb
theorem nI(n:ByteArray) (c:Int) (z k:ByteArray) (x:Bool) (m:ByteArray) (y:Bool) (a:Option Addr) (len cap:Nat) (w:World):
  Calls Tryz.prog 198 #[Zc #[I n,Y7 Y6 c,I z,I k,Y9 x,I m,Y9 y,J a len cap]] w λe w'=>e=Za (Y7 Y6 (if x=Zb then 1 else 6))/\Below w.heap.size w w':=by
 cases x;all_goals (
  go_enter Tryz.func198,Tryz.ntmps198
  go_wp2
  go_ret
  exact⟨rfl,ak _ _⟩)
namespace Rc
theorem dk.ay {S':Nat->Prop} {P:Nat->Nat} (h:dk w d c S P) (hk:∀k,k<w.heap.size->S k->w'.heap[k]?=w.heap[k]?) (hs:∀k,k<w.heap.size->S k->S' k):dk w' d c S' P:=
 ⟨h.n.ay (λk hl s=>hk k hl s.1) (λk hl s=>⟨hs k hl s.1,s.2⟩),h.k.ay (λk hl s=>hk k hl s.1) (λk hl s=>⟨hs k hl s.1,s.2⟩),h.v.ay (λk hl s=>hk k hl s.1) (λk hl s=>⟨hs k hl s.1,s.2⟩),h.x.ay (λk hl s=>hk k hl s.1) (λk hl s=>⟨hs k hl s.1,s.2⟩),h.p.ay (λk hl s=>hk k hl s.1) (λk hl s=>⟨hs k hl s.1,s.2⟩)⟩
theorem dK.below(h:dK w d c S) (hb:Below w.heap.size w w'):dK w' d c S:=by
 obtain⟨P,h⟩:=h;exact⟨P,h.ay (λk hk _=>hb.block k hk) (λ_ _ s=>s)⟩
theorem dK.bm {S':Nat->Prop} (h:dK w d c S) (hs:∀k,k<w.heap.size->S k->S' k):dK w d c S':=by
 obtain⟨P,h⟩:=h;exact⟨P,h.ay (λ_ _ _=>rfl) hs⟩
end Rc
namespace Ap
theorem akK {w0:World} {base n:Nat} {v:Value} {zs:List ByteArray} (h:w.ownsRow base 9 1 v n (zs.map Ym)) (hb:Below base w0 w) (hB:base=w0.heap.size) (hs:∀(j:Nat) x,zs[j]?=Y5 x->x.size<=9223372036854775807):
  ∃a l c,v=J a l c/\b8 zs w0 a l c w:=by
 subst hB;obtain⟨hl,h⟩:=h;have hl':zs.length=n:=by simpa using hl
 rcases h with ⟨rfl,rfl⟩|⟨g,cap,cur,rfl,hbg,hg,hnc,hcm,hsz,htk⟩
 ·obtain rfl:zs=[]:=List.eq_nil_of_length_eq_zero hl';exact⟨U,0,0,rfl,⟨rfl,Ye _,by omega,λj x hx=>by simp at hx,Ze rfl⟩,Ze rfl,hb⟩
 ·refine⟨Y5 ⟨g,0,U⟩,n,cap,rfl,⟨hl',hnc,by unfold maxLen at hcm;omega,hs,Zd ⟨g,0,rfl,ae hg,λj x hx=>?_⟩⟩,Zd ⟨g,cur,rfl,hbg,hg⟩,hb⟩;exact QA
theorem qC(a:Option Addr) (len cap:Nat) (zs:List ByteArray) (w:World) (hr:az w a len cap zs) (hl:len<=8001):
  Calls Tryz.prog 100 #[J a len cap] w λe w'=> ∃a' l c,e=Za (J a' l c)/\b8 zs w a' l c w':=by
 cases a with
 | none=>
  obtain rfl:zs=[]:=by
   rcases hr.2.2.2.2 with h|⟨b,o,e,_⟩
   ·exact h
   ·cases e
  obtain rfl:len=0:=by have:=hr.1;simpa using this.symm
  clear hr
  go_enter Tryz.func100,Tryz.ntmps100
  go_wp2
  go_ret;exact⟨_,_,_,rfl,⟨rfl,Ye _,by omega,λj x hx=>by simp at hx,Ze rfl⟩,Ze rfl,Yh _ _⟩
 | some ad=>
  have HN:=aa (Ay hr);have HZ:=aa hr.2.2.2.1;have hzl:=hr.1;clear hr;obtain⟨i0,hi,hz0,hz1,hz2⟩:=info_parts fk
  go_enter Tryz.func100,Tryz.ntmps100
  go_wp2_with (first|(at_builtin;refine wpList_append_own _ rfl _ _ 36 rfl w.heap.size 9 i0 (I ⟨#[]⟩) 1 16 Tryz.underlying36 hi hz0 hz1 hz2 rfl ag _ 0 _ rfl (World.ownsRow_nil w w.heap.size 9 1) ad len cap (zs.map Ym) rfl ?c1 HN.out ?c3 ?c4 ?c5 (Ye _) ?_))
  case c1=>simpa using hzl
  case c3=>intro u hu;obtain⟨x,_,rfl⟩:=List.mem_map.1 hu;rfl
  case c4=>unfold maxLen;omega
  case c5=>omega
  intro v' w3 hown3 hgrow hv;have HB3:=aa ((Yh w.heap.size w).grown hgrow (Ye _) (λk hk=>by cases hk));have HO:=aa hown3;clear hown3 hgrow hv
  go_wp2
  go_ret;obtain⟨a',l,c,rfl,h2⟩:=akK HO.out HB3.out rfl HZ.out;exact⟨a',l,c,rfl,h2⟩
theorem ams(n:ByteArray) (c:Int) (z:ByteArray) (k:ByteArray) (x:Bool) (m:ByteArray) (y:Bool) (a:Option Addr) (len cap:Nat) (zs:List ByteArray) (w:World) (hr:az w a len cap zs) (hl:len<=8001):
  Calls Tryz.prog 57 #[Zc #[I n,Y7 Y6 c,I z,I k,Y9 x,I m,Y9 y,J a len cap]] w λe w'=> ∃a' l p,e=Za (Zc #[I n,Y7 Y6 c,I z,I k,Y9 x,I m,Y9 y,J a' l p])/\b8 zs w a' l p w':=by
 have HR:=aa (hr.below (aS w (Y8 #[I n,Y7 Y6 c,I z,I k,Y9 x,I m,Y9 y,J a len cap] 38) (Y8 #[I ⟨#[]⟩,Y7 Y6 0,I ⟨#[]⟩,I ⟨#[]⟩,Y9 Y_,I ⟨#[]⟩,Y9 Y_,J U 0 0] 38)));clear hr;go_enter Tryz.func57,Tryz.ntmps57;go_wp2_with fail;refine (qC a len cap zs _ HR.out hl).mono ?_;rintro e w3 ⟨a',l,p,rfl,h1,h2,hb⟩;have g0:=(hb.block w.heap.size bL).trans (eG _ _ _);have g1:=(hb.block (w.heap.size+1) aG).trans (eF _ _ _);have HQ:Hid (az w3 a' l p zs/\(zs=[]\/∃g cur,a'=Y5 ⟨g,0,U⟩/\w.heap.size+1+1<=g/\w3.heap[g]?=Y5 (Y8 cur 9 (0,0)))/\Below w.heap.size w w3):=⟨h1,by simpa using h2,(aS w _ _).trans (hb.mono bL)⟩;have d0:=ck0 g0;have d1:=ck1 g0;have d2:=ck2 g0;have d3:=ck3 g0;have d4:=ck4 g0;have d5:=ck5 g0;have d6:=ck6 g0;have d7:=ck7 g0;have df7:=al g0 7;have e0:=ck0 g1;have ef0:=al g1 0;have e1:=ck1 g1;have ef1:=al g1 1;have e2:=ck2 g1;have ef2:=al g1 2;have e3:=ck3 g1;have ef3:=al g1 3;have e4:=ck4 g1;have ef4:=al g1 4;have e5:=ck5 g1;have ef5:=al g1 5;have e6:=ck6 g1;have ef6:=al g1 6;have e7:=ck7 g1;have ef7:=al g1 7;have HQ2:=aa (b8.set (b8.set (b8.set (b8.set (b8.set (b8.set (b8.set (b8.set (b8.set HQ.out (b:=w.heap.size) (i:=7) af af (v:=J a' l p)) (b:=w.heap.size+1) (i:=0) af af (v:=I n)) (b:=w.heap.size+1) (i:=1) af af (v:=Y7 Y6 c)) (b:=w.heap.size+1) (i:=2) af af (v:=I z)) (b:=w.heap.size+1) (i:=3) af af (v:=I k)) (b:=w.heap.size+1) (i:=4) af af (v:=Y9 x)) (b:=w.heap.size+1) (i:=5) af af (v:=I m)) (b:=w.heap.size+1) (i:=6) af af (v:=Y9 y)) (b:=w.heap.size+1) (i:=7) af af (v:=J a' l p));clear h1 h2 hb g0 g1;go_wp2_with fail;refine bodyPost_ret (v:=Zc #[I n,Y7 Y6 c,I z,I k,Y9 x,I m,Y9 y,J a' l p]) (by simp[results,Tryz.results57,go_sem, *]) rfl ⟨a',l,p,rfl,HQ2.1,?_,HQ2.2.2⟩;rcases HQ2.2.1 with h|⟨g,cur,h1,h2,h3⟩
 ·exact Ze h
 ·exact Zd ⟨g,cur,h1,by omega,h3⟩
end Ap
namespace Rc
theorem xr(x:Nd) (va:Option Addr) (vl vc:Nat) (w:World) (hr:az w va vl vc x.zs) (hl:vl<=8001):
  Calls Tryz.prog 55 #[Zc #[I x.n,I x.z,Y7 Y6 x.c,Y7 Y6 x.s,Y7 Y6 x.u,Y9 x.d,J va vl vc]] w λe w'=> ∃a' l' c',e=Za (Zc #[I x.n,I x.z,Y7 Y6 x.c,Y7 Y6 x.s,Y7 Y6 x.u,Y9 x.d,J a' l' c'])/\bS w' a' l' c' x.zs (λk=>w.heap.size<=k)/\Below w.heap.size w w':=by
 obtain⟨HR,HB⟩:=kY;clear hr;go_enter Tryz.func55,Tryz.ntmps55;have z288z:=@aa _ @adD;exact zT
theorem qM(a:Option Addr) (len cap:Nat) (xs:List Nd) (w:World) (hr:aT w a len cap 7 (xs.map ndF)) (hl:len<=8) (hs:∀(j:Nat) x,xs[j]?=Y5 x->x.zs.length<=8001):
  Calls Tryz.prog 54 #[J a len cap,.func (.func 55) #[] #[]] w λe w'=> ∃a' c',e=Za (J a' len c')/\aw w' a' len c' 7 83 (xs.map ndF) (λk=>w.heap.size<=k)/\Below w.heap.size w w':=by
 have HR:=aa hr;have HS:=aa hs;have hxl:xs.length=len:=fg
 clear hr hs;obtain⟨i0,hi,hz0,hz1,hz2⟩:=info_parts Ra;have z722z:=@aa _ @VL;exact iz
theorem nK(x:Vd) (va:Option Addr) (vl vc:Nat) (w:World) (hr:az w va vl vc x.zs) (hl:vl<=8001):
  Calls Tryz.prog 57 #[Zc #[I x.n,Y7 Y6 x.c,I x.z,I x.k,Y9 x.x,I x.m,Y9 x.y,J va vl vc]] w λe w'=> ∃a' l' c',e=Za (Zc #[I x.n,Y7 Y6 x.c,I x.z,I x.k,Y9 x.x,I x.m,Y9 x.y,J a' l' c'])/\bS w' a' l' c' x.zs (λk=>w.heap.size<=k)/\Below w.heap.size w w':=by
 refine (Ap.ams x.n x.c x.z x.k x.x x.m x.y va vl vc x.zs w hr hl).mono ?_;rintro e w' ⟨a',l',c',rfl,h1,h2,hb⟩;exact⟨a',l',c',rfl,⟨h1,h2⟩,hb⟩
theorem qK(a:Option Addr) (len cap:Nat) (xs:List Vd) (w:World) (hr:aT w a len cap 8 (xs.map vdF)) (hl:len<=8) (hs:∀(j:Nat) x,xs[j]?=Y5 x->x.zs.length<=8001):
  Calls Tryz.prog 56 #[J a len cap,.func (.func 57) #[] #[]] w λe w'=> ∃a' c',e=Za (J a' len c')/\aw w' a' len c' 8 38 (xs.map vdF) (λk=>w.heap.size<=k)/\Below w.heap.size w w':=by
 have HR:=aa hr;have HS:=aa hs;have hxl:xs.length=len:=fg
 clear hr hs;obtain⟨i0,hi,hz0,hz1,hz2⟩:=info_parts iY;have z722z:=@aa _ @VK;exact iz
theorem xq(x:Pd) (va:Option Addr) (vl vc:Nat) (w:World) (hr:az w va vl vc x.zs) (hl:vl<=8001):
  Calls Tryz.prog 59 #[Zc #[I x.n,Y7 Y6 x.c,I x.z,J va vl vc,I x.d,Y7 Y6 x.p]] w λe w'=> ∃a' l' c',e=Za (Zc #[I x.n,Y7 Y6 x.c,I x.z,J a' l' c',I x.d,Y7 Y6 x.p])/\bS w' a' l' c' x.zs (λk=>w.heap.size<=k)/\Below w.heap.size w w':=by
 obtain⟨HR,HB⟩:=kY;clear hr;go_enter Tryz.func59,Tryz.ntmps59;have z288z:=@aa _ @adC;exact zT
theorem qL(a:Option Addr) (len cap:Nat) (xs:List Pd) (w:World) (hr:aT w a len cap 6 (xs.map pdF)) (hl:len<=8) (hs:∀(j:Nat) x,xs[j]?=Y5 x->x.zs.length<=8001):
  Calls Tryz.prog 58 #[J a len cap,.func (.func 59) #[] #[]] w λe w'=> ∃a' c',e=Za (J a' len c')/\aw w' a' len c' 6 40 (xs.map pdF) (λk=>w.heap.size<=k)/\Below w.heap.size w w':=by
 have HR:=aa hr;have HS:=aa hs;have hxl:xs.length=len:=fg
 clear hr hs;obtain⟨i0,hi,hz0,hz1,hz2⟩:=info_parts nM;have z722z:=@aa _ @VJ;exact iz
end Rc
theorem Q1(n:ByteArray) (c:Int) (z k:ByteArray) (x:Bool) (m:ByteArray) (y:Bool) (a:Option Addr) (len cap:Nat) (zs:List ByteArray) (w:World) (hn:n.size<=9223372036854775807) (hz:z.size<=9223372036854775807) (hk:k.size<=9223372036854775807) (hm:m.size<=9223372036854775807) (hr:az w a len cap zs):
  Calls Tryz.prog 194 #[Zc #[I n,Y7 Y6 c,I z,I k,Y9 x,I m,Y9 y,J a len cap]] w (au (Ry n c z k x m y zs) w):=by
 have HR:Hid (az w a len cap zs):=hr;clear hr;cases y
 ·have HY:Hid (Y_=Zb->m=⟨#[]⟩):=λh=>bU;have z227z:=@aa _ @aer;exact zY
 by_cases hm0:m=⟨#[]⟩
 ·subst hm0;have HY:Hid True:=trivial;have z227z:=@aa _ @aeq;exact zY
 have hq9:=aY hm0;go_enter Tryz.func194,Tryz.ntmps194;exact OY
namespace Rc
theorem kb(x:Nd) (va:Option Addr) (vl vc:Nat) (w:World):
  Calls Tryz.prog 214 #[Zc #[I x.n,I x.z,Y7 Y6 x.c,Y7 Y6 x.s,Y7 Y6 x.u,Y9 x.d,J va vl vc]] w λe w'=>e=Za (I x.n)/\Below w.heap.size w w':=by
 go_enter Tryz.func214,Tryz.ntmps214;go_wp2;go_ret;exact⟨rfl,ak _ _⟩
theorem rL(x:Nd) (va:Option Addr) (vl vc:Nat) (w:World) (hn:x.n.size<=9223372036854775807) (hz:x.z.size<=9223372036854775807) (hr:az w va vl vc x.zs):
  Calls Tryz.prog 215 #[Zc #[I x.n,I x.z,Y7 Y6 x.c,Y7 Y6 x.s,Y7 Y6 x.u,Y9 x.d,J va vl vc]] w (au (wV x) w):=by
 have HR:=aa (hr.below (ak w (Y8 (nov x va vl vc) 83)));clear hr;go_enter Tryz.func215,Tryz.ntmps215;go_wp2_with fail;refine (Bz x.n x.z x.c x.s x.u x.d va vl vc x.zs _ hn hz HR.out).mono ?_;exact uB
theorem uP(a:Option Addr) (len cap:Nat) (xs:List Nd) (t:ByteArray) (w:World) (hr:aT w a len cap 7 (xs.map ndF)):
  Calls Tryz.prog 175 #[J a len cap,I t] w λe w'=>e=Za (Zg #[Y7 Y6 (pl Nd.n xs t:Nat),Y9 (hit Nd.n xs t)])/\Below w.heap.size w w':=by
 have z1403z:=@aa _ @Iu;exact sV
def RG(xs:List Nd) (t:ByteArray) (r w:World) (e:Ending) (w':World):Prop:=
 Below w.heap.size w w'/\((hit Nd.n xs t=Zb/\∃(x:Nd) (va:Option Addr) (vl vc:Nat),xs[pl Nd.n xs t]?=Y5 x/\x.n=t/\e=Za (Zg #[Zc #[I x.n,I x.z,Y7 Y6 x.c,Y7 Y6 x.s,Y7 Y6 x.u,Y9 x.d,J va vl vc],Y9 Zb])/\x.n.size<=9223372036854775807/\x.z.size<=9223372036854775807/\az r va vl vc x.zs)\/(hit Nd.n xs t=Y_/\e=Za (Zg #[Zc #[I ⟨#[]⟩,I ⟨#[]⟩,Y7 Y6 0,Y7 Y6 0,Y7 Y6 0,Y9 Y_,J U 0 0],Y9 Y_])))
theorem xG(a:Option Addr) (len cap:Nat) (xs:List Nd) (t:ByteArray) (r w:World) (hr:aT r a len cap 7 (xs.map ndF)) (hrw:Below r.heap.size r w):
  Calls Tryz.prog 170 #[J a len cap,I t] w (RG xs t r w):=by
 obtain⟨HR,HRW,hxl⟩:=ur;have HR1:=aa ((hr.below hrw).below (ak w (Y8 #[I ⟨#[]⟩,I ⟨#[]⟩,Y7 Y6 0,Y7 Y6 0,Y7 Y6 0,Y9 Y_,J U 0 0] 83)));clear hr hrw;go_enter Tryz.func170,Tryz.ntmps170;go_wp2_with fail;refine (uP a len cap xs t _ HR1.out).mono ?_;have z386z:=@aa _ @acr;exact lE
theorem oj(d:Ad) (now:Int) (xs:List Nd) (t:ByteArray) (r w:World) (hr:aT r d.a1 d.l1 d.c1 7 (xs.map ndF)) (hrw:Below r.heap.size r w):
  Calls Tryz.prog 145 #[Zc #[J d.a1 d.l1 d.c1,J d.a2 d.l2 d.c2,J d.a3 d.l3 d.c3,J d.a4 d.l4 d.c4,J d.a5 d.l5 d.c5,Y7 Y6 now],I t] w (RG xs t r w):=by
 have HR:=aa hr;have HRW:=aa (hrw.trans ((aS w (Y8 (clv d now) 29) (Y8 #[I ⟨#[]⟩,I ⟨#[]⟩,Y7 Y6 0,Y7 Y6 0,Y7 Y6 0,Y9 Y_,J U 0 0] 83)).mono hrw.size));clear hr hrw;go_enter Tryz.func145,Tryz.ntmps145;go_wp2_with fail;refine (xG _ _ _ xs t r _ HR.out HRW.out).mono ?_;have z334z:=@aa _ @ac4;exact lG
theorem vU(a:Option Addr) (len cap:Nat) (xs:List Nd) (most:Int) (w:World) (hr:aT w a len cap 7 (xs.map ndF)):
  Calls Tryz.prog 134 #[J a len cap,Y7 Y6 most] w (au (dI wV Nd.n xs most) w):=by
 have z1403z:=@aa _ @It;exact sV
theorem kd(x:Kd)  (w:World):
  Calls Tryz.prog 210 #[Zc #[I x.n,Y9 x.x,Y9 x.y,I x.z]] w λe w'=>e=Za (I x.n)/\Below w.heap.size w w':=by
 go_enter Tryz.func210,Tryz.ntmps210;go_wp2;go_ret;exact⟨rfl,ak _ _⟩
theorem rM(x:Kd)  (w:World) (hn:x.n.size<=9223372036854775807) (hz:x.z.size<=9223372036854775807):
  Calls Tryz.prog 211 #[Zc #[I x.n,Y9 x.x,Y9 x.y,I x.z]] w (au (xi x) w):=by
 skip;skip;go_enter Tryz.func211,Tryz.ntmps211;go_wp2_with fail;refine (xx x.n x.z x.x x.y _ hn hz).mono ?_;exact uB
theorem uQ(a:Option Addr) (len cap:Nat) (xs:List Kd) (t:ByteArray) (w:World) (hr:aT w a len cap 4 (xs.map kdF)):
  Calls Tryz.prog 153 #[J a len cap,I t] w λe w'=>e=Za (Zg #[Y7 Y6 (pl Kd.n xs t:Nat),Y9 (hit Kd.n xs t)])/\Below w.heap.size w w':=by
 have z1144z:=@aa _ @LX;exact tK
def RH(xs:List Kd) (t:ByteArray) (_r w:World) (e:Ending) (w':World):Prop:=
 Below w.heap.size w w'/\((hit Kd.n xs t=Zb/\∃(x:Kd),xs[pl Kd.n xs t]?=Y5 x/\x.n=t/\e=Za (Zg #[Zc #[I x.n,Y9 x.x,Y9 x.y,I x.z],Y9 Zb])/\x.n.size<=9223372036854775807/\x.z.size<=9223372036854775807)\/(hit Kd.n xs t=Y_/\e=Za (Zg #[Zc #[I ⟨#[]⟩,Y9 Y_,Y9 Y_,I ⟨#[]⟩],Y9 Y_])))
theorem xH(a:Option Addr) (len cap:Nat) (xs:List Kd) (t:ByteArray) (r w:World) (hr:aT r a len cap 4 (xs.map kdF)) (hrw:Below r.heap.size r w):
  Calls Tryz.prog 102 #[J a len cap,I t] w (RH xs t r w):=by
 obtain⟨HR,HRW,hxl⟩:=ur;have HR1:=aa ((hr.below hrw).below (ak w (Y8 #[I ⟨#[]⟩,Y9 Y_,Y9 Y_,I ⟨#[]⟩] 74)));clear hr hrw;go_enter Tryz.func102,Tryz.ntmps102;go_wp2_with fail;refine (uQ a len cap xs t _ HR1.out).mono ?_;have z386z:=@aa _ @acq;exact lE
theorem om(d:Ad) (now:Int) (xs:List Kd) (t:ByteArray) (r w:World) (hr:aT r d.a2 d.l2 d.c2 4 (xs.map kdF)) (hrw:Below r.heap.size r w):
  Calls Tryz.prog 61 #[Zc #[J d.a1 d.l1 d.c1,J d.a2 d.l2 d.c2,J d.a3 d.l3 d.c3,J d.a4 d.l4 d.c4,J d.a5 d.l5 d.c5,Y7 Y6 now],I t] w (RH xs t r w):=by
 have HR:=aa hr;have HRW:=aa (hrw.trans ((aS w (Y8 (clv d now) 29) (Y8 #[I ⟨#[]⟩,Y9 Y_,Y9 Y_,I ⟨#[]⟩] 74)).mono hrw.size));clear hr hrw;go_enter Tryz.func61,Tryz.ntmps61;go_wp2_with fail;refine (xH _ _ _ xs t r _ HR.out HRW.out).mono ?_;have z334z:=@aa _ @ac3;exact lG
theorem vV(a:Option Addr) (len cap:Nat) (xs:List Kd) (most:Int) (w:World) (hr:aT w a len cap 4 (xs.map kdF)):
  Calls Tryz.prog 135 #[J a len cap,Y7 Y6 most] w (au (dI xi Kd.n xs most) w):=by
 have z1144z:=@aa _ @LW;exact tK
theorem eH(x:Vd) (va:Option Addr) (vl vc:Nat) (w:World):
  Calls Tryz.prog 192 #[Zc #[I x.n,Y7 Y6 x.c,I x.z,I x.k,Y9 x.x,I x.m,Y9 x.y,J va vl vc]] w λe w'=>e=Za (I x.n)/\Below w.heap.size w w':=by
 go_enter Tryz.func192,Tryz.ntmps192;go_wp2;go_ret;exact⟨rfl,ak _ _⟩
theorem rJ(x:Vd) (va:Option Addr) (vl vc:Nat) (w:World) (hn:x.n.size<=9223372036854775807) (hz:x.z.size<=9223372036854775807) (hk:x.k.size<=9223372036854775807) (hm:x.m.size<=9223372036854775807) (hr:az w va vl vc x.zs):
  Calls Tryz.prog 193 #[Zc #[I x.n,Y7 Y6 x.c,I x.z,I x.k,Y9 x.x,I x.m,Y9 x.y,J va vl vc]] w (au (pA x) w):=by
 have HR:=aa (hr.below (ak w (Y8 (vov x va vl vc) 38)));clear hr;go_enter Tryz.func193,Tryz.ntmps193;go_wp2_with fail;refine (Q1 x.n x.c x.z x.k x.x x.m x.y va vl vc x.zs _ hn hz hk hm HR.out).mono ?_;exact uB
theorem k8(a:Option Addr) (len cap:Nat) (xs:List Vd) (t:ByteArray) (w:World) (hr:aT w a len cap 8 (xs.map vdF)):
  Calls Tryz.prog 103 #[J a len cap,I t] w λe w'=>e=Za (Zg #[Y7 Y6 (pl Vd.n xs t:Nat),Y9 (hit Vd.n xs t)])/\Below w.heap.size w w':=by
 obtain⟨HR,hxl,hlc⟩:=nt;clear hr;have z699z:=@aa _ @V4;exact pN
def RF(xs:List Vd) (t:ByteArray) (r w:World) (e:Ending) (w':World):Prop:=
 Below w.heap.size w w'/\((hit Vd.n xs t=Zb/\∃(x:Vd) (va:Option Addr) (vl vc:Nat),xs[pl Vd.n xs t]?=Y5 x/\x.n=t/\e=Za (Zg #[Zc #[I x.n,Y7 Y6 x.c,I x.z,I x.k,Y9 x.x,I x.m,Y9 x.y,J va vl vc],Y9 Zb])/\x.n.size<=9223372036854775807/\x.z.size<=9223372036854775807/\x.k.size<=9223372036854775807/\x.m.size<=9223372036854775807/\az r va vl vc x.zs)\/(hit Vd.n xs t=Y_/\e=Za (Zg #[Zc #[I ⟨#[]⟩,Y7 Y6 0,I ⟨#[]⟩,I ⟨#[]⟩,Y9 Y_,I ⟨#[]⟩,Y9 Y_,J U 0 0],Y9 Y_])))
theorem xE(a:Option Addr) (len cap:Nat) (xs:List Vd) (t:ByteArray) (r w:World) (hr:aT r a len cap 8 (xs.map vdF)) (hrw:Below r.heap.size r w):
  Calls Tryz.prog 101 #[J a len cap,I t] w (RF xs t r w):=by
 obtain⟨HR,HRW,hxl⟩:=ur;have HR1:=aa ((hr.below hrw).below (ak w (Y8 #[I ⟨#[]⟩,Y7 Y6 0,I ⟨#[]⟩,I ⟨#[]⟩,Y9 Y_,I ⟨#[]⟩,Y9 Y_,J U 0 0] 38)));clear hr hrw;go_enter Tryz.func101,Tryz.ntmps101;go_wp2_with fail;refine (k8 a len cap xs t _ HR1.out).mono ?_;rintro e w1 ⟨rfl,hb⟩;obtain⟨g1,hb1,-⟩:=gM hb;obtain⟨d0,f0,d1,f1,d2,f2,d3,f3⟩:=Ob;obtain⟨d4,f4,d5,f5,d6,f6⟩:=qt;have d7:=ck7 g1;have f7:=al g1 7;have HB:=aa hb1;have hs1:=hb.size;rw[show (w.alloc (Y8 #[I ⟨#[]⟩,Y7 Y6 0,I ⟨#[]⟩,I ⟨#[]⟩,Y9 Y_,I ⟨#[]⟩,Y9 Y_,J U 0 0] 38)).heap.size=w.heap.size+1 from by simp] at hs1;have hlt1:w.heap.size<w1.heap.size:=af
 clear hb g1 HR1 hs1;cases hh:hit Vd.n xs t
 ·generalize pl Vd.n xs t=j;have HH:=aa hh;clear hh hb1 HR hxl;go_wp2;refine bodyPost_ret (v:=Zg #[Zc #[I ⟨#[]⟩,Y7 Y6 0,I ⟨#[]⟩,I ⟨#[]⟩,Y9 Y_,I ⟨#[]⟩,Y9 Y_,J U 0 0],Y9 Y_]) (by simp[results,Tryz.results101,go_sem, *]) rfl ⟨?_,Zd ⟨HH.out,rfl⟩⟩;exact Below.alloc (ah (Ye _) (ah (Ye _) (ah (Ye _) (ah (Ye _) (ah (Ye _) (ah (Ye _) (ah (Ye _) (ah (Ye _) (HB.out))))))))) iK _
 ·obtain⟨x,hx,hn⟩:=cf hh;have hj:pl Vd.n xs t<len:=by have:=(Yc.1 hx).1;omega
  obtain⟨b,o,y,rfl,hbl,hy,hat⟩:=bK HR.out hj;rw[hx] at hy;obtain rfl:=Yd hy;have z280z:=@aa _ @adH;exact fV
theorem eK(d:Ad) (now:Int) (xs:List Vd) (t:ByteArray) (r w:World) (hr:aT r d.a3 d.l3 d.c3 8 (xs.map vdF)) (hrw:Below r.heap.size r w):
  Calls Tryz.prog 60 #[Zc #[J d.a1 d.l1 d.c1,J d.a2 d.l2 d.c2,J d.a3 d.l3 d.c3,J d.a4 d.l4 d.c4,J d.a5 d.l5 d.c5,Y7 Y6 now],I t] w (RF xs t r w):=by
 have HR:=aa hr;have HRW:=aa (hrw.trans ((aS w (Y8 (clv d now) 29) (Y8 #[I ⟨#[]⟩,Y7 Y6 0,I ⟨#[]⟩,I ⟨#[]⟩,Y9 Y_,I ⟨#[]⟩,Y9 Y_,J U 0 0] 38)).mono hrw.size));clear hr hrw;go_enter Tryz.func60,Tryz.ntmps60;go_wp2_with fail;refine (xE _ _ _ xs t r _ HR.out HRW.out).mono ?_;have z334z:=@aa _ @ac2;exact lG
theorem vS(a:Option Addr) (len cap:Nat) (xs:List Vd) (most:Int) (w:World) (hr:aT w a len cap 8 (xs.map vdF)):
  Calls Tryz.prog 136 #[J a len cap,Y7 Y6 most] w (au (dI pA Vd.n xs most) w):=by
 obtain⟨HR,hxl,hlc⟩:=nt;clear hr;have z699z:=@aa _ @V3;exact pN
theorem gu(x:Xd)  (w:World):
  Calls Tryz.prog 206 #[Zc #[I x.n,Y7 Y6 x.z,I x.k,Y9 x.x,I x.v]] w λe w'=>e=Za (I x.n)/\Below w.heap.size w w':=by
 go_enter Tryz.func206,Tryz.ntmps206;go_wp2;go_ret;exact⟨rfl,ak _ _⟩
theorem rI(x:Xd)  (w:World) (hn:x.n.size<=9223372036854775807) (hk:x.k.size<=9223372036854775807) (hv:x.v.size<=9223372036854775807):
  Calls Tryz.prog 207 #[Zc #[I x.n,Y7 Y6 x.z,I x.k,Y9 x.x,I x.v]] w (au (gK x) w):=by
 skip;skip;go_enter Tryz.func207,Tryz.ntmps207;go_wp2_with fail;refine (xA x.n x.z x.k x.x x.v _ hn hk hv).mono ?_;exact uB
theorem uN(a:Option Addr) (len cap:Nat) (xs:List Xd) (t:ByteArray) (w:World) (hr:aT w a len cap 5 (xs.map xdF)):
  Calls Tryz.prog 149 #[J a len cap,I t] w λe w'=>e=Za (Zg #[Y7 Y6 (pl Xd.n xs t:Nat),Y9 (hit Xd.n xs t)])/\Below w.heap.size w w':=by
 have z1147z:=@aa _ @LV;exact tJ
def RE(xs:List Xd) (t:ByteArray) (_r w:World) (e:Ending) (w':World):Prop:=
 Below w.heap.size w w'/\((hit Xd.n xs t=Zb/\∃(x:Xd),xs[pl Xd.n xs t]?=Y5 x/\x.n=t/\e=Za (Zg #[Zc #[I x.n,Y7 Y6 x.z,I x.k,Y9 x.x,I x.v],Y9 Zb])/\x.n.size<=9223372036854775807/\x.k.size<=9223372036854775807/\x.v.size<=9223372036854775807)\/(hit Xd.n xs t=Y_/\e=Za (Zg #[Zc #[I ⟨#[]⟩,Y7 Y6 0,I ⟨#[]⟩,Y9 Y_,I ⟨#[]⟩],Y9 Y_])))
theorem xD(a:Option Addr) (len cap:Nat) (xs:List Xd) (t:ByteArray) (r w:World) (hr:aT r a len cap 5 (xs.map xdF)) (hrw:Below r.heap.size r w):
  Calls Tryz.prog 97 #[J a len cap,I t] w (RE xs t r w):=by
 obtain⟨HR,HRW,hxl⟩:=ur;have HR1:=aa ((hr.below hrw).below (ak w (Y8 #[I ⟨#[]⟩,Y7 Y6 0,I ⟨#[]⟩,Y9 Y_,I ⟨#[]⟩] 50)));clear hr hrw;go_enter Tryz.func97,Tryz.ntmps97;go_wp2_with fail;refine (uN a len cap xs t _ HR1.out).mono ?_;have z386z:=@aa _ @acp;exact lE
theorem ie(d:Ad) (now:Int) (xs:List Xd) (t:ByteArray) (r w:World) (hr:aT r d.a4 d.l4 d.c4 5 (xs.map xdF)) (hrw:Below r.heap.size r w):
  Calls Tryz.prog 51 #[Zc #[J d.a1 d.l1 d.c1,J d.a2 d.l2 d.c2,J d.a3 d.l3 d.c3,J d.a4 d.l4 d.c4,J d.a5 d.l5 d.c5,Y7 Y6 now],I t] w (RE xs t r w):=by
 have HR:=aa hr;have HRW:=aa (hrw.trans ((aS w (Y8 (clv d now) 29) (Y8 #[I ⟨#[]⟩,Y7 Y6 0,I ⟨#[]⟩,Y9 Y_,I ⟨#[]⟩] 50)).mono hrw.size));clear hr hrw;go_enter Tryz.func51,Tryz.ntmps51;go_wp2_with fail;refine (xD _ _ _ xs t r _ HR.out HRW.out).mono ?_;have z334z:=@aa _ @ac1;exact lG
theorem vR(a:Option Addr) (len cap:Nat) (xs:List Xd) (most:Int) (w:World) (hr:aT w a len cap 5 (xs.map xdF)):
  Calls Tryz.prog 137 #[J a len cap,Y7 Y6 most] w (au (dI gK Xd.n xs most) w):=by
 have z1147z:=@aa _ @LU;exact tJ
theorem gw(x:Pd) (va:Option Addr) (vl vc:Nat) (w:World):
  Calls Tryz.prog 201 #[Zc #[I x.n,Y7 Y6 x.c,I x.z,J va vl vc,I x.d,Y7 Y6 x.p]] w λe w'=>e=Za (I x.n)/\Below w.heap.size w w':=by
 go_enter Tryz.func201,Tryz.ntmps201;go_wp2;go_ret;exact⟨rfl,ak _ _⟩
theorem rK(x:Pd) (va:Option Addr) (vl vc:Nat) (w:World) (hn:x.n.size<=9223372036854775807) (hz:x.z.size<=9223372036854775807) (hd:x.d.size<=9223372036854775807) (hr:az w va vl vc x.zs):
  Calls Tryz.prog 202 #[Zc #[I x.n,Y7 Y6 x.c,I x.z,J va vl vc,I x.d,Y7 Y6 x.p]] w (au (uS x) w):=by
 have HR:=aa (hr.below (ak w (Y8 (pov x va vl vc) 40)));clear hr;go_enter Tryz.func202,Tryz.ntmps202;go_wp2_with fail;refine (Q8 x.n x.c x.z va vl vc x.zs x.d x.p _ hn hz hd HR.out).mono ?_;exact uB
theorem vT(a:Option Addr) (len cap:Nat) (xs:List Pd) (most:Int) (w:World) (hr:aT w a len cap 6 (xs.map pdF)):
  Calls Tryz.prog 138 #[J a len cap,Y7 Y6 most] w (au (dI uS Pd.n xs most) w):=by
 obtain⟨HR,hxl,hlc⟩:=nt;clear hr;have z1368z:=@aa _ @IV;exact mS
def ens(w:World):Prop:=∃T v,w.cell? ⟨2,0,U⟩=Y5 (.iface T v)
theorem ens.lt(h:ens w):2<w.heap.size:=by
 obtain⟨T,v,h⟩:=h;rcases Nat.lt_or_ge (2) w.heap.size with h1|h1
 ·exact h1
 ·simp[World.cell?,Array.getElem?_eq_none h1] at h
theorem ens.below(h:ens w) (hb:Below w.heap.size w w'):ens w':=by
 have hl:=h.lt;obtain⟨T,v,h⟩:=h;exact⟨T,v,(ai hb hl).trans h⟩
def amC(p:Prop) (w:World) (e:Ending) (w':World):Prop:=Below w.heap.size w w'/\((p/\e=Za .nilIface)\/(¬p/\∃T v,e=Za (.iface T v)))
theorem iN(d:Ad) (now:Int) (xs:List Kd) (t:ByteArray) (w:World) (hr:aT w d.a2 d.l2 d.c2 4 (xs.map kdF)) (hG:ens w):
  Calls Tryz.prog 139 #[Zc #[J d.a1 d.l1 d.c1,J d.a2 d.l2 d.c2,J d.a3 d.l3 d.c3,J d.a4 d.l4 d.c4,J d.a5 d.l5 d.c5,Y7 Y6 now],I t] w (amC (hit Kd.n xs t=Zb) w):=by
 have HR:=aa hr;obtain⟨HE,HB⟩:=kX;clear hr hG;go_enter Tryz.func139,Tryz.ntmps139;go_wp2_with fail;refine (om d now xs t w _ HR.out (ak _ _)).mono ?_;rintro e w1 ⟨hb,hf⟩;obtain⟨HA0,hbx⟩:=aV hb;replace HB:=upB HB hbx;clear hb hbx HA0;obtain⟨T,v,hv⟩:=HE.below HB.out;have hl:=(HE.below HB.out).lt;clear HE HR;rcases hf with ⟨hh,x,hx,hn,rfl,z0,z3⟩|⟨hh,rfl⟩
 ·have HH:=aa hh;clear hh hx hn z0 z3;go_wp2;go_ret;exact⟨(HB.alloc HB.size _),Ze ⟨HH.out,rfl⟩⟩
 ·have HH:=aa hh;clear hh;go_wp2;go_ret;exact⟨(HB.alloc HB.size _),Zd ⟨by rw[HH.out];decide,T,v,rfl⟩⟩
theorem pe(d:Ad) (c:Cl) (t s:ByteArray) (w:World) (hr:aB w d c.raw) (hx:aF Xd.n c.xs) (hv:aF Vd.n c.vs):
  Calls Tryz.prog 140 #[Zc #[J d.a1 d.l1 d.c1,J d.a2 d.l2 d.c2,J d.a3 d.l3 d.c3,J d.a4 d.l4 d.c4,J d.a5 d.l5 d.c5,Y7 Y6 c.now],I t,I s] w (au (kg c t s) w):=by
 obtain⟨HR,HB⟩:=kY;have HX:=aa hx;have HV:=aa hv;clear hr hx hv;go_enter Tryz.func140,Tryz.ntmps140;go_wp2_with fail;refine (ie d c.now c.xs t w _ HR.x (ak _ _)).mono ?_;rintro e w1 ⟨hb,hf⟩;have z627z:=@aa _ @Xb;exact iA
theorem xB(d:Ad) (c:Cl) (w:World) (hr:aB w d c.raw) (hxr:aF Xd.n c.xs) (hvr:aF Vd.n c.vs) (hG:ens w):
  Calls Tryz.prog 93 #[Zc #[J d.a1 d.l1 d.c1,J d.a2 d.l2 d.c2,J d.a3 d.l3 d.c3,J d.a4 d.l4 d.c4,J d.a5 d.l5 d.c5,Y7 Y6 c.now]] w (au (xW c) w):=by
 have z535z:=@aa _ @aaq;exact cP
theorem xt(a:Option Addr) (len cap:Nat) (zs:List ByteArray) (t:ByteArray) (w:World) (hr:az w a len cap zs):
  Calls Tryz.prog 150 #[J a len cap,I t] w λe w'=>(∃r:Int,e=Za (Y7 Y6 r)/\((0<=r/\InL zs t)\/(r= -1/\¬InL zs t)))/\w'=w:=by
 have HR:=aa hr;have hlc:=Yp hr.2.1 hr.2.2.1;have hzl:=hr.1;clear hr;go_enter Tryz.func150,Tryz.ntmps150;go_wp2;go_loop [8] (λi=> ∃k:Nat,k<=len/\i=Y7 Y6 k/\Hid (∀(j:Nat) x,j<k->zs[j]?=Y5 x->¬x=t)) (λi=>len - (intOf i).toNat);case atStart=>exact⟨0,by omega,rfl,λ_ _ h=>absurd h af⟩
 case round=>
  obtain⟨k,hk,rfl,HE⟩:=hrel;by_cases hlt:k<len
  ·obtain⟨b,o,x,rfl,hb,hx,hc,hsz⟩:=HR.at hlt;have HX:=aa hx;clear hx;by_cases hn:t=x
   ·have hq:=aP hn;have HN:=aa hn;clear hn;go_wp2;go_ret;exact⟨⟨k,rfl,Ze ⟨by omega,k,by rw[HX.out,HN.out]⟩⟩,rfl⟩
   ·have hq:=bu hn;have HN:=aa hn;clear hn;go_wp2;refine⟨⟨k+1,by omega,by go_num,λj z hj hz=>?_⟩,by simp[intOf];omega⟩;by_cases e:j=k
    ·subst e;rw[HX.out] at hz;obtain rfl:=Yd hz;exact λq=>HN.out q.symm
    ·exact HE.out j z af hz
  ·obtain rfl:len=k:=af
   go_wp2;go_ret;exact⟨⟨-1,rfl,Zd ⟨rfl,λ⟨j,hj⟩=>HE.out j t uo hj rfl⟩⟩,rfl⟩
theorem cM(a:Option Addr) (len cap:Nat) (zs:List ByteArray) (t:ByteArray) (w:World) (hr:az w a len cap zs):
  Calls Tryz.prog 98 #[J a len cap,I t] w (au (InL zs t) w):=by
 have HR:=aa hr;clear hr;go_enter Tryz.func98,Tryz.ntmps98;go_wp2_with fail;refine (xt a len cap zs t _ HR.out).mono ?_;rintro e w1 ⟨⟨r,rfl,hr⟩,rfl⟩;rcases hr with ⟨h0,hi⟩|⟨rfl,hi⟩
 ·go_wp2;go_ret;exact au.t hi (Yh _ _)
 ·go_wp2;go_ret;exact au.f hi (Yh _ _)
theorem nO(d:Ad) (now:Int) (xs:List Xd) (a:Option Addr) (len cap:Nat) (zs:List ByteArray) (w:World) (hr:aT w d.a4 d.l4 d.c4 5 (xs.map xdF)) (hz:az w a len cap zs) (hG:ens w):
  Calls Tryz.prog 141 #[Zc #[J d.a1 d.l1 d.c1,J d.a2 d.l2 d.c2,J d.a3 d.l3 d.c3,J d.a4 d.l4 d.c4,J d.a5 d.l5 d.c5,Y7 Y6 now],J a len cap] w (amC (∀(j:Nat) t,zs[j]?=Y5 t->hit Xd.n xs t=Zb) w):=by
 have HR:=aa hr;have HE:=aa hG;have HZ:=aa hz;have hlc:=Yp hz.2.1 hz.2.2.1;have hzl:=hz.1;clear hr hG hz;go_enter Tryz.func141,Tryz.ntmps141;go_wp2;go_loopw [11] (λi wr=> ∃k:Nat,k<=len/\i=Y7 Y6 k/\Hid (∀(j:Nat) t,j<k->zs[j]?=Y5 t->hit Xd.n xs t=Zb)/\Hid (Below w.heap.size w wr)/\Hid (wr.heap[w.heap.size]?=Y5 (Y8 (clv d now) 29 (0,0)))) (λi _=>len - (intOf i).toNat);case atStart=>exact⟨0,by omega,rfl,λ_ _ h=>absurd h af,ak _ _,Yg⟩
 case round=>
  obtain⟨k,hk,rfl,HQ,HB,Bk⟩:=hrel;by_cases hlt:k<len
  ·obtain⟨b,o,t,rfl,hb,hx,hc,hsz⟩:=(HZ.below HB.out).at hlt;have HX:=aa hx;clear hx;obtain⟨k0,k1,k2,k3,k4,k5⟩:=cs6 Bk;go_wp2_with fail;refine (ie d now xs t w _ HR.out HB.out).mono ?_;rintro e w1 ⟨hb2,hf⟩;clear k0 k1 k2 k3 k4 k5;replace Bk:=upK Bk hb2;replace HB:=upB HB hb2;clear hb2;clear hb hc hsz;obtain⟨T,q,hv⟩:=HE.below HB.out;have hl:=(HE.below HB.out).lt;rcases hf with ⟨hh,x,hx,hn,rfl,z0,z2,z4⟩|⟨hh,rfl⟩
   ·have HH:=aa hh;clear hh hx hn z0 z2 z4 hv hl;go_wp2;refine⟨⟨k+1,by omega,by go_num,λj z hj hz=>?_,HB.alloc HB.size _,(Yl _ _ _ (ae Bk.out)).trans Bk.out⟩,by simp[intOf];omega⟩;by_cases e:j=k
    ·subst e;rw[HX.out] at hz;obtain rfl:=Yd hz;exact HH.out
    ·exact HQ.out j z af hz
   ·have HH:=aa hh;clear hh;go_wp2;go_ret;exact⟨HB.alloc HB.size _,Zd ⟨λh=>(by have:=h k t HX.out;rw[HH.out] at this;cases this),T,q,rfl⟩⟩
  ·obtain rfl:len=k:=af
   go_wp2;go_ret;exact⟨HB.out,Ze ⟨λj t ht=>HQ.out j t Ah ht,rfl⟩⟩
def amN(c:Cl) (t:ByteArray) (r w:World) (e:Ending) (w':World):Prop:=
 Below w.heap.size w w'/\((∃(v:Vd) (va:Option Addr) (vl vc:Nat),aO c t v/\e=Za (Zg #[Zc #[I v.n,Y7 Y6 v.c,I v.z,I v.k,Y9 v.x,I v.m,Y9 v.y,J va vl vc],Y9 Zb])/\v.n.size<=9223372036854775807/\v.z.size<=9223372036854775807/\az r va vl vc v.zs)\/((∀v,¬aO c t v)/\e=Za (Zg #[Zc #[I ⟨#[]⟩,Y7 Y6 0,I ⟨#[]⟩,I ⟨#[]⟩,Y9 Y_,I ⟨#[]⟩,Y9 Y_,J U 0 0],Y9 Y_])))
theorem qO(d:Ad) (c:Cl) (t:ByteArray) (r:World) (w:World) (hr:aB r d c.raw) (hrw:Below r.heap.size r w) (hx:aF Xd.n c.xs) (hv:aF Vd.n c.vs) (hne:∀(j:Nat) v,c.vs[j]?=Y5 v->¬v.n=⟨#[]⟩):
  Calls Tryz.prog 24 #[Zc #[J d.a1 d.l1 d.c1,J d.a2 d.l2 d.c2,J d.a3 d.l3 d.c3,J d.a4 d.l4 d.c4,J d.a5 d.l5 d.c5,Y7 Y6 c.now],I t] w (amN c t r w):=by
 have HR:=aa hr;have HRW:=aa hrw;obtain⟨HX,HV,HNE⟩:=iU;have HB:=aa (Yh w.heap.size w);clear hr hx hv hrw hne;go_enter Tryz.func24,Tryz.ntmps24;go_wp2_with fail;refine (ie d c.now c.xs t r _ HR.x (HRW.trans ((aS _ _ _).mono HRW.size))).mono ?_;rintro e w1 ⟨hb,hf⟩;obtain⟨HA0,HA1,hbx⟩:=dP hb;have Bk:=aa HA0;have Bs:=aa HA1;replace HB:=upB HB hbx;clear hb hbx HA0 HA1;rcases hf with ⟨hh,x,hx,hn,rfl,z0,z2,z4⟩|⟨hh,rfl⟩
 ·have HX1:=aa hx;have HN1:=aa hn;clear hx hn hh z0 z2 z4;have z170z:=@aa _ @afb;exact fW
 ·have HH1:=aa hh;clear hh;have z170z:=@aa _ @afa;exact fW
theorem qI(d:Ad) (now:Int) (ps:List Pd) (t:ByteArray) (w:World) (hr:aT w d.a5 d.l5 d.c5 6 (ps.map pdF)) (hl:ps.length<=8) (hp:∀(j:Nat) p,ps[j]?=Y5 p->0<=p.c/\p.c<=1000000):
  Calls Tryz.prog 143 #[Zc #[J d.a1 d.l1 d.c1,J d.a2 d.l2 d.c2,J d.a3 d.l3 d.c3,J d.a4 d.l4 d.c4,J d.a5 d.l5 d.c5,Y7 Y6 now],I t] w λe w'=>e=Za (Y7 Y6 (cpuOf t ps))/\Below w.heap.size w w':=by
 have z427z:=@aa _ @abX;exact zx
theorem Q9(d:Ad) (c:Cl) (t:ByteArray) (w:World) (hr:aB w d c.raw):
  Calls Tryz.prog 144 #[Zc #[J d.a1 d.l1 d.c1,J d.a2 d.l2 d.c2,J d.a3 d.l3 d.c3,J d.a4 d.l4 d.c4,J d.a5 d.l5 d.c5,Y7 Y6 c.now],I t] w (au (AL c t) w):=by
 have z535z:=@aa _ @aap;exact cP
theorem Bl(d:Ad) (c:Cl) (p:Pd) (pa:Option Addr) (pl pc:Nat) (w:World) (hr:aB w d c.raw) (hn:aF Nd.n c.ns) (hx:aF Xd.n c.xs) (hv:aF Vd.n c.vs) (hne:∀(j:Nat) v,c.vs[j]?=Y5 v->¬v.n=⟨#[]⟩) (hp:az w pa pl pc p.zs):
  Calls Tryz.prog 142 #[Zc #[J d.a1 d.l1 d.c1,J d.a2 d.l2 d.c2,J d.a3 d.l3 d.c3,J d.a4 d.l4 d.c4,J d.a5 d.l5 d.c5,Y7 Y6 c.now],Zc #[I p.n,Y7 Y6 p.c,I p.z,J pa pl pc,I p.d,Y7 Y6 p.p]] w (au (aib c p) w):=by
 have z1132z:=@aa _ @L5;exact tN
theorem Q7(d:Ad) (c:Cl) (p:Pd) (pa:Option Addr) (pl pc:Nat) (w:World) (hr:aB w d c.raw) (hn:aF Nd.n c.ns) (hx:aF Xd.n c.xs) (hv:aF Vd.n c.vs) (hne:∀(j:Nat) v,c.vs[j]?=Y5 v->¬v.n=⟨#[]⟩) (hp:az w pa pl pc p.zs):
  Calls Tryz.prog 148 #[Zc #[J d.a1 d.l1 d.c1,J d.a2 d.l2 d.c2,J d.a3 d.l3 d.c3,J d.a4 d.l4 d.c4,J d.a5 d.l5 d.c5,Y7 Y6 c.now],Zc #[I p.n,Y7 Y6 p.c,I p.z,J pa pl pc,I p.d,Y7 Y6 p.p]] w (au (amG c p) w):=by
 have z1132z:=@aa _ @L4;exact tN
theorem Rd(d:Ad) (c:Cl) (n:Nd) (pa:Option Addr) (pl pc:Nat) (w:World) (hr:aB w d c.raw) (hv:aF Vd.n c.vs) (hp:az w pa pl pc n.zs):
  Calls Tryz.prog 147 #[Zc #[J d.a1 d.l1 d.c1,J d.a2 d.l2 d.c2,J d.a3 d.l3 d.c3,J d.a4 d.l4 d.c4,J d.a5 d.l5 d.c5,Y7 Y6 c.now],Zc #[I n.n,I n.z,Y7 Y6 n.c,Y7 Y6 n.s,Y7 Y6 n.u,Y9 n.d,J pa pl pc]] w (au (RD c n) w):=by
 have HR:=aa hr;have HV:=aa hv;have HP:=aa hp;have hlc:=Yp hp.2.1 hp.2.2.1;have hzl:=hp.1;clear hr hv hp;go_enter Tryz.func147,Tryz.ntmps147;go_wp2;go_loopw [12] (λi wr=> ∃k:Nat,k<=pl/\i=Y7 Y6 k/\Hid (∀(j:Nat) t,j<k->n.zs[j]?=Y5 t->∃(i:Nat) (v:Vd),c.vs[i]?=Y5 v/\v.n=t/\(n.d=Zb\/InL v.zs n.n))/\Hid (Below w.heap.size w wr)/\Hid (wr.heap[w.heap.size]?=Y5 (Y8 (clv d c.now) 29 (0,0)))/\Hid (wr.heap[w.heap.size+1]?=Y5 (Y8 (nov n pa pl pc) 83 (0,0)))) (λi _=>pl - (intOf i).toNat);case atStart=>exact⟨0,by omega,rfl,λ_ _ h=>absurd h af,aS _ _ _,eG _ _ _,eF _ _ _⟩
 case round=>
  obtain⟨k,hk,rfl,HQ,HB,Bk,Bn⟩:=hrel;by_cases hlt:k<pl
  ·have z1135z:=@aa _ @L3;exact tM
  ·exact P2
theorem nJ(d:Ad) (now:Int) (vs:List Vd) (t:ByteArray) (w:World) (hr:aT w d.a3 d.l3 d.c3 8 (vs.map vdF)) (hl:vs.length<=8):
  Calls Tryz.prog 146 #[Zc #[J d.a1 d.l1 d.c1,J d.a2 d.l2 d.c2,J d.a3 d.l3 d.c3,J d.a4 d.l4 d.c4,J d.a5 d.l5 d.c5,Y7 Y6 now],I t] w λe w'=>e=Za (Y7 Y6 (onOf t vs))/\Below w.heap.size w w':=by
 obtain⟨a1,l1,y1,a2,l2,y2,a3,l3,y3,a4,l4,y4,a5,l5,y5⟩:=d;dsimp only at hr ⊢;have HR:=aa hr;have hxl:vs.length=l3:=fg
 clear hr;go_enter Tryz.func146,Tryz.ntmps146;go_wp2;go_loopw [5,11] (λq i wr=> ∃(k:Nat) (s:Int),k<=l3/\q=Y7 Y6 s/\i=Y7 Y6 k/\Hid (s=onOf t (vs.take k))/\0<=s/\s<=k/\Hid (Below w.heap.size w wr)) (λ_ i _=>l3 - (intOf i).toNat);case atStart=>exact⟨0,0,by omega,rfl,rfl,rfl,by omega,by omega,ak _ _⟩
 case round=>
  obtain⟨k,s,hk,rfl,rfl,HS,hs0,hs1,HB⟩:=hrel;by_cases hlt:k<l3
  ·obtain⟨b,o,v,rfl,hb,hx,hat⟩:=bK (HR.below HB.out) hlt;have z280z:=@aa _ @adG;exact fV
  ·obtain rfl:l3=k:=af
   exact wR
theorem u7(d:Ad) (c:Cl) (w:World) (hr:aB w d c.raw) (hn:aF Nd.n c.ns) (hx:aF Xd.n c.xs) (hv:aF Vd.n c.vs) (hne:∀(j:Nat) v,c.vs[j]?=Y5 v->¬v.n=⟨#[]⟩) (hps8:c.ps.length<=8) (hpc:∀(j:Nat) p,c.ps[j]?=Y5 p->0<=p.c/\p.c<=1000000) (hG:ens w):
  Calls Tryz.prog 94 #[Zc #[J d.a1 d.l1 d.c1,J d.a2 d.l2 d.c2,J d.a3 d.l3 d.c3,J d.a4 d.l4 d.c4,J d.a5 d.l5 d.c5,Y7 Y6 c.now]] w (au (qT c) w):=by
 have z535z:=@aa _ @aao;exact cP
theorem oa(d:Ad) (c:Cl) (w:World) (hr:aB w d c.raw) (hn:aF Nd.n c.ns) (hvs8:c.vs.length<=8):
  Calls Tryz.prog 95 #[Zc #[J d.a1 d.l1 d.c1,J d.a2 d.l2 d.c2,J d.a3 d.l3 d.c3,J d.a4 d.l4 d.c4,J d.a5 d.l5 d.c5,Y7 Y6 c.now]] w (au (py c) w):=by
 have z535z:=@aa _ @aan;exact cP
theorem qN(d:Ad) (c:Cl) (w:World) (hr:aB w d c.raw) (hn:aF Nd.n c.ns) (hx:aF Xd.n c.xs) (hv:aF Vd.n c.vs) (hne:∀(j:Nat) v,c.vs[j]?=Y5 v->¬v.n=⟨#[]⟩):
  Calls Tryz.prog 96 #[Zc #[J d.a1 d.l1 d.c1,J d.a2 d.l2 d.c2,J d.a3 d.l3 d.c3,J d.a4 d.l4 d.c4,J d.a5 d.l5 d.c5,Y7 Y6 c.now]] w (au (nV c) w):=by
 have z535z:=@aa _ @aam;exact cP
theorem Bt(d:Ad) (c:Cl) (w:World) (hr:aB w d c.raw):
  Calls Tryz.prog 92 #[Zc #[J d.a1 d.l1 d.c1,J d.a2 d.l2 d.c2,J d.a3 d.l3 d.c3,J d.a4 d.l4 d.c4,J d.a5 d.l5 d.c5,Y7 Y6 c.now]] w (au (cq c) w):=by
 obtain⟨HR,HB⟩:=kY;clear hr;go_enter Tryz.func92,Tryz.ntmps92;go_wp2_with fail;refine (vU _ _ _ c.ns 6 _ (HR.n.below (HB.trans ((ak _ _).mono HB.size)))).mono ?_;rintro e w1 ⟨r,rfl,hi,hb⟩;have z627z:=@aa _ @Xa;exact iA
theorem xo(d:Ad) (c:Cl) (w:World) (hr:aB w d c.raw) (hG:ens w):
  Calls Tryz.prog 50 #[Zc #[J d.a1 d.l1 d.c1,J d.a2 d.l2 d.c2,J d.a3 d.l3 d.c3,J d.a4 d.l4 d.c4,J d.a5 d.l5 d.c5,Y7 Y6 c.now]] w (au (aq c) w):=by
 have HR:=aa hr;obtain⟨HE,HB⟩:=kX;clear hr hG;go_enter Tryz.func50,Tryz.ntmps50;go_wp2_with fail;refine (cB c.now 0 1000000 _).mono ?_;have z294z:=@aa _ @ady;exact zR
structure Ers (w:World) (E:Nat->Addr):Prop where
 v0:w.cell? ⟨0,0,U⟩=Y5 (.iface 199 (Zf (Y5 (E 0))))
 v1:w.cell? ⟨1,0,U⟩=Y5 (.iface 199 (Zf (Y5 (E 1))))
 v2:w.cell? ⟨2,0,U⟩=Y5 (.iface 199 (Zf (Y5 (E 2))))
 v3:w.cell? ⟨5,0,U⟩=Y5 (.iface 199 (Zf (Y5 (E 3))))
 v4:w.cell? ⟨7,0,U⟩=Y5 (.iface 199 (Zf (Y5 (E 4))))
 v5:w.cell? ⟨3,0,U⟩=Y5 (.iface 199 (Zf (Y5 (E 5))))
 v6:w.cell? ⟨6,0,U⟩=Y5 (.iface 199 (Zf (Y5 (E 6))))
 v7:w.cell? ⟨8,0,U⟩=Y5 (.iface 199 (Zf (Y5 (E 7))))
 v8:w.cell? ⟨9,0,U⟩=Y5 (.iface 199 (Zf (Y5 (E 8))))
 v9:w.cell? ⟨4,0,U⟩=Y5 (.iface 199 (Zf (Y5 (E 9))))
 blk:∀i,i<10->∃cs T,w.heap[(E i).block]?=Y5 (Y8 cs T (0,0))
 inj:∀i j,i<10->j<10->E i=E j->i=j
theorem Ers.below(h:Ers w E) (hb:Below w.heap.size w w'):Ers w' E:=
 ⟨(ai hb (bG h.v0)).trans h.v0,(ai hb (bG h.v1)).trans h.v1,(ai hb (bG h.v2)).trans h.v2,(ai hb (bG h.v3)).trans h.v3,(ai hb (bG h.v4)).trans h.v4,(ai hb (bG h.v5)).trans h.v5,(ai hb (bG h.v6)).trans h.v6,(ai hb (bG h.v7)).trans h.v7,(ai hb (bG h.v8)).trans h.v8,(ai hb (bG h.v9)).trans h.v9,λi hi=>by
  obtain⟨cs,T,h1⟩:=h.blk i hi;exact⟨cs,T,(hb.block _ (ae h1)).trans h1⟩,h.inj⟩
theorem Ers.ens(h:Ers w E):ens w:=⟨_,_,h.v2⟩
theorem Q4(v:Value) (w:World):(Extern.ReflectliteType.typeOf #[.iface 199 v]).run Tryz.prog w=.ok (.iface 186 (Zc #[Zf (Y5 ⟨10,199,U⟩)])) w:=by kernel_rfl
def amx:Array Value->Sem Value:=Extern.ReflectliteType.method λt=>do Rtype.noPackHeld "Comparable" t;pure (Y9 (<-typeInfo t).comparable)
theorem qJ(w:World):(amx #[Zc #[Zf (Y5 ⟨10,199,U⟩)]]).run Tryz.prog w=.ok (Y9 Zb) w:=by kernel_rfl
theorem iX(v:Value) (w:World):(Go.method 344 186 v "Comparable").run Tryz.prog w=.ok (224,v) w:=by kernel_rfl
theorem Q6:(Tryz.prog.info? 199).map (·.comparable)=Y5 Zb:=by kernel_rfl
theorem Q5:(Tryz.prog.info? 232).map (·.size)=Y5 1:=by kernel_rfl
theorem amm(v:Value) (xT:TypeId) (w:World):(Instr.typeAssert (.iface 199 v) xT 188 Zb).run Tryz.prog w=.ok (Zg #[.nilIface,Y9 Y_]) w:=run_typeAssert_lacksB Tryz.underlying188 (by kernel_rfl) (by kernel_rfl) v xT w
theorem A6(v:Value) (xT:TypeId) (w:World):(Instr.typeAssert (.iface 199 v) xT 191 Zb).run Tryz.prog w=.ok (Zg #[.nilIface,Y9 Y_]) w:=run_typeAssert_lacksB Tryz.underlying191 (by kernel_rfl) (by kernel_rfl) v xT w
theorem wU(v:Value) (xT:TypeId) (w:World):(Instr.typeAssert (.iface 199 v) xT 193 Zb).run Tryz.prog w=.ok (Zg #[.nilIface,Y9 Y_]) w:=run_typeAssert_lacksB Tryz.underlying193 (by kernel_rfl) (by kernel_rfl) v xT w
theorem fi(a:Addr) (w:World)  :
  Calls Tryz.prog 99 #[.iface 199 (Zf (Y5 (a))),.iface 199 (Zf (Y5 (a)))] w λe w'=>e=Za (Y9 Zb)/\w'=w:=by
 obtain⟨i,hi,hcmp⟩:=YB.1 Q6;obtain⟨j,hj,hjs⟩:=YB.1 Q5;obtain⟨h8,h32,tT,cT,mR⟩:=ahg;have heq:=run_eql_iface_ptr_same (P:=Tryz.prog) w a Tryz.underlying53 Tryz.underlying199 hi hcmp hj;exact PM
theorem Q3(a b:Addr) (ca cb:Array Value) (ta tb:TypeId) (w:World) (hne:a≠b) (ha:w.heap[a.block]?=Y5 (Y8 ca ta (0,0))) (hb:w.heap[b.block]?=Y5 (Y8 cb tb (0,0))):
  Calls Tryz.prog 99 #[.iface 199 (Zf (Y5 (a))),.iface 199 (Zf (Y5 (b)))] w λe w'=>e=Za (Y9 Y_)/\w'=w:=by
 obtain⟨i,hi,hcmp⟩:=YB.1 Q6;obtain⟨j,hj,hjs⟩:=YB.1 Q5;obtain⟨h8,h32,tT,cT,mR⟩:=ahg;have nE:=amm;have uE:=A6;have vE:=wU;have heq:=run_eql_iface_ptr_other (P:=Tryz.prog) w Tryz.underlying53 Tryz.underlying199 hi hcmp hj (by rw[hjs];decide) hne ha hb;exact PM
theorem aH(h:Ers w E) (i j:Nat) (hi:i<10) (hj:j<10) (hne:¬i=j):
  Calls Tryz.prog 99 #[.iface 199 (Zf (Y5 (E i))),.iface 199 (Zf (Y5 (E j)))] w λe w'=>e=Za (Y9 Y_)/\w'=w:=by
 obtain⟨ca,ta,h1⟩:=h.blk i hi;obtain⟨cb,tb,h2⟩:=h.blk j hj;exact Q3 (E i) (E j) ca cb ta tb w (λe=>hne (h.inj i j hi hj e)) h1 h2
theorem amZ(E:Nat->Addr) (w:World) (h:Ers w E):Calls Tryz.prog 53 #[.iface 199 (Zf (Y5 (E 0)))] w λe w'=>e=Za (Y7 Y6 2)/\w'=w:=by
 have z257z:=@aa _ @ad4;exact eD
theorem amY(E:Nat->Addr) (w:World) (h:Ers w E):Calls Tryz.prog 53 #[.iface 199 (Zf (Y5 (E 1)))] w λe w'=>e=Za (Y7 Y6 1)/\w'=w:=by
 have z257z:=@aa _ @ad3;exact eD
theorem amX(E:Nat->Addr) (w:World) (h:Ers w E):Calls Tryz.prog 53 #[.iface 199 (Zf (Y5 (E 2)))] w λe w'=>e=Za (Y7 Y6 6)/\w'=w:=by
 have z257z:=@aa _ @ad2;exact eD
theorem amW(E:Nat->Addr) (w:World) (h:Ers w E):Calls Tryz.prog 53 #[.iface 199 (Zf (Y5 (E 3)))] w λe w'=>e=Za (Y7 Y6 7)/\w'=w:=by
 have z257z:=@aa _ @ad1;exact eD
theorem amV(E:Nat->Addr) (w:World) (h:Ers w E):Calls Tryz.prog 53 #[.iface 199 (Zf (Y5 (E 4)))] w λe w'=>e=Za (Y7 Y6 9)/\w'=w:=by
 have z257z:=@aa _ @adZ;exact eD
theorem amU(E:Nat->Addr) (w:World) (h:Ers w E):Calls Tryz.prog 53 #[.iface 199 (Zf (Y5 (E 5)))] w λe w'=>e=Za (Y7 Y6 11)/\w'=w:=by
 have z257z:=@aa _ @adY;exact eD
theorem amT(E:Nat->Addr) (w:World) (h:Ers w E):Calls Tryz.prog 53 #[.iface 199 (Zf (Y5 (E 6)))] w λe w'=>e=Za (Y7 Y6 7)/\w'=w:=by
 have z257z:=@aa _ @adX;exact eD
theorem amS(E:Nat->Addr) (w:World) (h:Ers w E):Calls Tryz.prog 53 #[.iface 199 (Zf (Y5 (E 7)))] w λe w'=>e=Za (Y7 Y6 11)/\w'=w:=by
 have z257z:=@aa _ @adW;exact eD
theorem amR(E:Nat->Addr) (w:World) (h:Ers w E):Calls Tryz.prog 53 #[.iface 199 (Zf (Y5 (E 8)))] w λe w'=>e=Za (Y7 Y6 10)/\w'=w:=by
 have z257z:=@aa _ @adV;exact eD
theorem rm(E:Nat->Addr) (i:Nat) (w:World) (h:Ers w E) (hi:i<9):Calls Tryz.prog 53 #[.iface 199 (Zf (Y5 (E i)))] w λe w'=>e=Za (Y7 Y6 (bB i))/\w'=w:=by
 match i,hi with
 | 0,_=>exact amZ E w h
 | 1,_=>exact amY E w h
 | 2,_=>exact amX E w h
 | 3,_=>exact amW E w h
 | 4,_=>exact amV E w h
 | 5,_=>exact amU E w h
 | 6,_=>exact amT E w h
 | 7,_=>exact amS E w h
 | 8,_=>exact amR E w h
theorem gN(E:Nat->Addr) (i:Nat) (cc:Int) (hcc:cc=bB i) (w:World) (h:Ers w E) (hi:i<9):Calls Tryz.prog 21 #[.iface 199 (Zf (Y5 (E i)))] w λe w'=>e=Za (Zc #[J U 0 0,J U 0 0,J U 0 0,J U 0 0,J U 0 0,Y7 Y6 0,I ⟨#[]⟩,Y7 Y6 cc])/\Below w.heap.size w w':=by
 have HE:=aa (h.below (ak w (Y8 #[J U 0 0,J U 0 0,J U 0 0,J U 0 0,J U 0 0,Y7 Y6 0,I ⟨#[]⟩,Y7 Y6 0] 33)));clear h;go_enter Tryz.func21,Tryz.ntmps21;go_wp2_with fail;refine (rm E i _ HE.out hi).mono ?_;rintro e w' ⟨rfl,rfl⟩;rw[<-hcc];clear hcc;go_wp2;exact bodyPost_ret (v:=Zc #[J U 0 0,J U 0 0,J U 0 0,J U 0 0,J U 0 0,Y7 Y6 0,I ⟨#[]⟩,Y7 Y6 cc]) (by simp[results,Tryz.results21,go_sem]) rfl ⟨rfl,ak _ _⟩
end Rc
theorem uW(s:ByteArray) (w:World):
  Calls Tryz.prog 49 #[I s] w λe w'=>e=Za (Y9 (decide (8000<s.size)))/\w=w':=by
 go_enter Tryz.func49,Tryz.ntmps49;go_wp2;go_ret;exact⟨by simp;omega,rfl⟩
theorem QW(s:ByteArray) (w:World) (h:8000<s.size):
  Calls Tryz.prog 49 #[I s] w λe w'=>e=Za (Y9 Zb)/\w=w':=by
 have:=uW s w;rw[decide_eq_true h] at this;exact this
theorem agw(s:ByteArray) (w:World) (h:¬8000<s.size):
  Calls Tryz.prog 49 #[I s] w λe w'=>e=Za (Y9 Y_)/\w=w':=by
 have:=uW s w;rw[decide_eq_false h] at this;exact this
namespace Gi
section
variable {R:Rs} {sp:Tmp} {ex:Ex} {P:Program} {ops:Array Oper} {Q:Exit->Act->World->Prop} {W:World} {a0:Act} {back:Option Oper}
end
def Bel(w w':World):Prop:=Below w.heap.size w w'
theorem Bel.rel(sp:Tmp):Rel (λ_=>Bel) sp:=⟨λ_=>Yh _ _,λh k=>Below.trans h (Below.mono k (Below.size h)),λh=>Below.size h,λ_=>(Yh _ _).drew,λ_ _ _ h=>h,λ_ _ _ _ _ h=>h⟩
end Gi
namespace Rc
section
variable {w:World} {a:Option Addr} {len cap m:Nat} {rs:List (List Fv)}
end
theorem xY {o:Oper} {a:Act} {K:Act->World->Prop} {Q:Exit->Act->World->Prop} (s x:Operand) (t T:TypeId) (ho:o.op=.call { callee:=.builtin .append,args:=#[s,x],argTypes:=#[t,t] }) (i:TypeInfo) (z:Value) (m bytes:Nat) (ht:Tryz.prog.underlying t=Y5 (.slice T)) (hi:Tryz.prog.info? T=Y5 i) (hz:i.zero=Y5 z)
  (hsize:i.size=m) (hby:i.bytes=bytes) (hzs:z.cells.size=m) (hsz:0<m) (hT:¬T=9) (base:Nat) (v0:Value) (hs:a.eval s=v0) (hown:w.ownsRow base T m v0 0 []) (hbw:base<=w.heap.size) {ad:Addr} {len cap:Nat} {rs:List (List Fv)} (hx:a.eval x=J (Y5 ad) len cap) (hr:aT w (Y5 ad) len cap m rs) (hm:∀(j:Nat) r,rs[j]?=Y5 r->r.length=m/\ic r) (hl:len<=8) (hb8:bytes<=1000)
  (h:∀a' c' w',aw w' a' len c' m T rs (λk=>base<=k/\k<w'.heap.size)->w.grownBy w' v0.ownBlock->K (a.put o.dst (J a' len c')) w'):o.wp Tryz.prog a w K Q:=by
 have hlen:((rs.map ey).flatten).length=len*m:=by rw[eV (j8 λj r hj=>(hm j r hj).1),Yo,hr.1]
 have hne:rs=[]\/∃b o,ad=(⟨b,o,U⟩:Addr):=by
  rcases hr.2.2.2 with h1|⟨b,o,e,_⟩
  ·exact Ze h1
  ·cases e;exact Zd ⟨b,o,rfl⟩
 have hnews:∀(j:Nat) u,((rs.map ey).flatten)[j]?=Y5 u->w.cell? (ad.add j)=Y5 u:=by
  rcases hne with rfl|⟨b,o,rfl⟩
  ·intro j u hu;simp at hu
  ·exact pg hr hm
 refine wp_append_own w s x t ho base T i z m bytes ht hi hz hsize hby hzs hsz v0 0 [] hs hown ad len cap (rs.map ey).flatten hx hlen hnews (iE hr hm w (λ_=>True)).one bj (by have:(0+len)*bytes<=8*1000:=Nat.mul_le_mul af hb8;omega) hbw ?_;intro v' w' ho' hg' _;rw[Yq,List.nil_append] at ho';obtain⟨a',c',rfl,hR⟩:=(iE hr hm w' (λk=>base<=k/\k<w'.heap.size)).own ho' hr.1.symm hT (λg hg=>ho'.lt g hg);rw[hr.1] at hR ⊢;exact h a' c' w' hR hg'
def lp(B:Nat) (len m:Nat) (T:TypeId) (rs:List (List Fv)):Gi.Fact:=λv w l h=> ∃a c,v=J a len c/\aw w a len c m T rs (λk=>l<=k/\k<h)/\B<=l
theorem lp.mono(ex:Gi.Ex) (s:Option Tmp) (B len m:Nat) (T:TypeId) (rs:List (List Fv)):Gi.Fact.cA (λ_=>Gi.Bel) ex s (lp B len m T rs):=by
 rintro s' _ _ _ v w w' l h ⟨a,c,h1,h2,h3⟩ hb;exact⟨a,c,h1,h2.below hb,h3⟩
def ClF(B:Nat) (c:Cl):Gi.Fact:=λv w _ _=> ∃d:Ad,v=Zc #[J d.a1 d.l1 d.c1,J d.a2 d.l2 d.c2,J d.a3 d.l3 d.c3,J d.a4 d.l4 d.c4,J d.a5 d.l5 d.c5,Y7 Y6 c.now]/\dK w d c.raw (λk=>B<=k)
theorem ClF.mono(ex:Gi.Ex) (s:Option Tmp) (B:Nat) (c:Cl):Gi.Fact.cA (λ_=>Gi.Bel) ex s (ClF B c):=by
 rintro s' _ _ _ v w w' l h ⟨d,h1,h2⟩ hb;exact⟨d,h1,h2.below hb⟩
theorem Bu(d:Ad) (c:Cl) (w:World) (hr:aB w d c.raw) (hs:Sm c):
  Calls Tryz.prog 22 #[Zc #[J d.a1 d.l1 d.c1,J d.a2 d.l2 d.c2,J d.a3 d.l3 d.c3,J d.a4 d.l4 d.c4,J d.a5 d.l5 d.c5,Y7 Y6 c.now]] w λe w'=> ∃d',e=Za (Zc #[J d'.a1 d'.l1 d'.c1,J d'.a2 d'.l2 d'.c2,J d'.a3 d'.l3 d'.c3,J d'.a4 d'.l4 d'.c4,J d'.a5 d'.l5 d'.c5,Y7 Y6 c.now])/\dK w' d' c.raw (λk=>w.heap.size<=k)/\Below w.heap.size w w':=by
 have HR:=aa hr;have HS:=aa hs;have hl1:c.ns.length=d.l1:=by simpa using (show (c.ns.map ndF).length=d.l1 from hr.n.1)
 have hl2:c.ks.length=d.l2:=by simpa using (show (c.ks.map kdF).length=d.l2 from hr.k.1)
 have hl3:c.vs.length=d.l3:=by simpa using (show (c.vs.map vdF).length=d.l3 from hr.v.1)
 have hl4:c.xs.length=d.l4:=by simpa using (show (c.xs.map xdF).length=d.l4 from hr.x.1)
 have hl5:c.ps.length=d.l5:=by simpa using (show (c.ps.map pdF).length=d.l5 from hr.p.1)
 clear hr hs;obtain⟨i2,hi2⟩:=YB.1 Rb;obtain⟨i4,hi4⟩:=YB.1 nL;have HI2:=aa hi2;have HI4:=aa hi4;clear hi2 hi4;obtain⟨W,hW0⟩:∃W,W=(w.alloc (Y8 (clv d c.now) 29)).alloc (Y8 (clo6 U 0 0 U 0 0 U 0 0 U 0 0 U 0 0 0) 29):=⟨_,rfl⟩;have HB:Hid (Below w.heap.size w W):=by rw[hW0];exact aS _ _ _
 have Bk:Hid (W.heap[w.heap.size]?=Y5 (Y8 (clv d c.now) 29 (0,0))):=by rw[hW0];exact eG _ _ _
 obtain⟨Br,hWs⟩:=Oj;go_enter Tryz.func22,Tryz.ntmps22;go_wp2_with fail;rw[<-hW0];clear hW0;rename_i K0 hK0;refine Gi.bF (ex:=λ_=>U) (Gi.Bel.rel 0) bf rfl rfl bf bf ?_;refine' Gi.Grow.stepC _ rfl ?_ ?_;rotate_left 1
 ·exact kG
 refine' Gi.Grow.stepC _ rfl ?_ ?_;rotate_left 1
 ·have z599z:=@aa _ @XC;exact fT
 refine Gi.Grow.step (lp W.heap.size d.l1 7 83 (c.ns.map ndF)) rfl (lp.mono _ _ _ _ _ _ _) ?_ ?_
 ·have z799z:=@aa _ @UM;exact jx
 refine' Gi.Grow.stepC _ rfl ?_ ?_;rotate_left 1
 ·exact kG
 refine' Gi.Grow.stepC _ rfl ?_ ?_;rotate_left 1
 ·have z599z:=@aa _ @XB;exact fT
 refine Gi.Grow.step (lp W.heap.size d.l2 4 74 (c.ks.map kdF)) rfl (lp.mono _ _ _ _ _ _ _) ?_ ?_
 ·have z799z:=@aa _ @UL;exact jx
 refine' Gi.Grow.stepC _ rfl ?_ ?_;rotate_left 1
 ·exact kG
 refine' Gi.Grow.stepC _ rfl ?_ ?_;rotate_left 1
 ·have z599z:=@aa _ @XA;exact fT
 refine Gi.Grow.step (lp W.heap.size d.l3 8 38 (c.vs.map vdF)) rfl (lp.mono _ _ _ _ _ _ _) ?_ ?_
 ·have z799z:=@aa _ @UK;exact jx
 refine' Gi.Grow.stepC _ rfl ?_ ?_;rotate_left 1
 ·exact kG
 refine' Gi.Grow.stepC _ rfl ?_ ?_;rotate_left 1
 ·have z599z:=@aa _ @Xz;exact fT
 refine Gi.Grow.step (lp W.heap.size d.l4 5 50 (c.xs.map xdF)) rfl (lp.mono _ _ _ _ _ _ _) ?_ ?_
 ·have z799z:=@aa _ @UJ;exact jx
 refine' Gi.Grow.stepC _ rfl ?_ ?_;rotate_left 1
 ·exact kG
 refine' Gi.Grow.stepC _ rfl ?_ ?_;rotate_left 1
 ·have z599z:=@aa _ @Xy;exact fT
 refine Gi.Grow.step (lp W.heap.size d.l5 6 40 (c.ps.map pdF)) rfl (lp.mono _ _ _ _ _ _ _) ?_ ?_
 ·have z799z:=@aa _ @UI;exact jx
 refine' Gi.Grow.stepC _ rfl ?_ ?_;rotate_left 1
 ·exact kG
 refine' Gi.Grow.stepC _ rfl ?_ ?_;rotate_left 1
 ·have z599z:=@aa _ @Xx;exact fT
 refine Gi.Grow.step (ClF W.heap.size c) rfl (ClF.mono _ _ _ _) ?_ ?_
 ·refine Gi.Obl.plain rfl ?_;intro ac wg K lo hi hsz hW hpr hf hap hK;clear hsz hpr;have e5:=hf 5 ag;simp[Gi.aj,Yf] at e5;have e8:=hf 8 ag;simp[Gi.aj,Yf] at e8;have e11:=hf 11 ag;simp[Gi.aj,Yf] at e11;have e14:=hf 14 ag;simp[Gi.aj,Yf] at e14;have e17:=hf 17 ag;simp[Gi.aj,Yf] at e17;have e19:=hf 19 ag;simp[Gi.aj,Yf] at e19;clear hf;obtain⟨a1,c1,e5,ho1,hB1⟩:=e5;obtain⟨a2,c2,e8,ho2,hB2⟩:=e8;obtain⟨a3,c3,e11,ho3,hB3⟩:=e11;obtain⟨a4,c4,e14,ho4,hB4⟩:=e14;obtain⟨a5,c5,e17,ho5,hB5⟩:=e17;have hap2:∀t∈[5,8,11,14,17],∀t'∈[5,8,11,14,17],¬t=t'->hi t<=lo t'\/hi t'<=lo t:=by
   intro t ht t' ht' hne;refine hap t ?_ t' ?_ ?_ ?_ hne
   ·simp only[YO,List.not_mem_nil,or_false] at ht;rcases ht with rfl|rfl|rfl|rfl|rfl <;> decide
   ·simp only[YO,List.not_mem_nil,or_false] at ht';rcases ht' with rfl|rfl|rfl|rfl|rfl <;> decide
   ·simp only[YO,List.not_mem_nil,or_false] at ht;rcases ht with rfl|rfl|rfl|rfl|rfl <;> rfl
   ·simp only[YO,List.not_mem_nil,or_false] at ht';rcases ht' with rfl|rfl|rfl|rfl|rfl <;> rfl
  clear hap;have q01:=hap2 5 ag 8 ag ag;have q02:=hap2 5 ag 11 ag ag;have q03:=hap2 5 ag 14 ag ag;have q04:=hap2 5 ag 17 ag ag;have q12:=hap2 8 ag 11 ag ag;have q13:=hap2 8 ag 14 ag ag;have q14:=hap2 8 ag 17 ag ag;have q23:=hap2 11 ag 14 ag ag;have q24:=hap2 11 ag 17 ag ag;have q34:=hap2 14 ag 17 ag ag;clear hap2;have hC:dK wg ⟨a1,d.l1,c1,a2,d.l2,c2,a3,d.l3,c3,a4,d.l4,c4,a5,d.l5,c5⟩ c.raw (λk=>W.heap.size<=k):=by
   refine⟨λk=>if lo 5<=k/\k<hi 5 then 1 else if lo 8<=k/\k<hi 8 then 2 else if lo 11<=k/\k<hi 11 then 3 else if lo 14<=k/\k<hi 14 then 4 else 5,?_,?_,?_,?_,?_⟩
   ·exact ho1.bm (λk _ s=>⟨by have s1:lo 5<=k:=s.1;show W.heap.size<=k;omega,by have s1:lo 5<=k:=s.1;have s2:k<hi 5:=s.2;show (if lo 5<=k/\k<hi 5 then 1 else if lo 8<=k/\k<hi 8 then 2 else if lo 11<=k/\k<hi 11 then 3 else if lo 14<=k/\k<hi 14 then 4 else 5)=1;rw[if_pos ⟨s1,s2⟩]⟩)
   ·exact ho2.bm (λk _ s=>⟨by have s1:lo 8<=k:=s.1;show W.heap.size<=k;omega,by have s1:lo 8<=k:=s.1;have s2:k<hi 8:=s.2;show (if lo 5<=k/\k<hi 5 then 1 else if lo 8<=k/\k<hi 8 then 2 else if lo 11<=k/\k<hi 11 then 3 else if lo 14<=k/\k<hi 14 then 4 else 5)=2;rw[if_neg af];rw[if_pos ⟨s1,s2⟩]⟩)
   ·exact ho3.bm (λk _ s=>⟨by have s1:lo 11<=k:=s.1;show W.heap.size<=k;omega,by have s1:lo 11<=k:=s.1;have s2:k<hi 11:=s.2;show (if lo 5<=k/\k<hi 5 then 1 else if lo 8<=k/\k<hi 8 then 2 else if lo 11<=k/\k<hi 11 then 3 else if lo 14<=k/\k<hi 14 then 4 else 5)=3;rw[if_neg af];rw[if_neg af];rw[if_pos ⟨s1,s2⟩]⟩)
   ·exact ho4.bm (λk _ s=>⟨by have s1:lo 14<=k:=s.1;show W.heap.size<=k;omega,by have s1:lo 14<=k:=s.1;have s2:k<hi 14:=s.2;show (if lo 5<=k/\k<hi 5 then 1 else if lo 8<=k/\k<hi 8 then 2 else if lo 11<=k/\k<hi 11 then 3 else if lo 14<=k/\k<hi 14 then 4 else 5)=4;rw[if_neg af];rw[if_neg af];rw[if_neg af];rw[if_pos ⟨s1,s2⟩]⟩)
   ·exact ho5.bm (λk _ s=>⟨by have s1:lo 17<=k:=s.1;show W.heap.size<=k;omega,by have s1:lo 17<=k:=s.1;have s2:k<hi 17:=s.2;show (if lo 5<=k/\k<hi 5 then 1 else if lo 8<=k/\k<hi 8 then 2 else if lo 11<=k/\k<hi 11 then 3 else if lo 14<=k/\k<hi 14 then 4 else 5)=5;rw[if_neg af];rw[if_neg af];rw[if_neg af];rw[if_neg af]⟩)
  have HC:=aa hC;clear hC ho1 ho2 ho3 ho4 ho5 q01 q02 q03 q04 q12 q13 q14 q23 q24 q34 hB1 hB2 hB3 hB4 hB5;go_simp;exact hK _ _ (Yh _ _) ⟨_,rfl,HC.out⟩
 refine Gi.Grow.done ?_;intro q wz lo hi hW hf hap;clear hap;simp only[YI] at hf;obtain⟨hf20,-⟩:=hf;obtain⟨d',h20,ho⟩:=hf20 bM;have HO:=aa ho;have HBz:=aa (HB.trans (Below.mono hW HB.size));have gr:=(Below.block hW _ (ae Br.out)).trans Br.out;obtain⟨r0,r1,r2,r3,r4,r5⟩:=cs6 gr;have f0:=al gr 0;have f1:=al gr 1;have f2:=al gr 2;have f3:=al gr 3;have f4:=al gr 4;have f5:=al gr 5;clear gr ho hW;intro K hK;rw[if_pos (by rfl)];simp only[Gi.aM,YT,Act.put,Yt,YC,YE,h20];have z243z:=@aa _ @aed;exact lJ
def ak6(Is:Co->Prop) (w:World) (e:Ending) (w':World):Prop:=∃g o,e=Za (Zc #[J g.a1 g.l1 g.c1,J g.a2 g.l2 g.c2,J g.a3 g.l3 g.c3,J g.a4 g.l4 g.c4,J g.a5 g.l5 g.c5,Y7 Y6 o.c.now,I o.n,Y7 Y6 o.p])/\Is o/\dK w' g o.c.raw (λk=>w.heap.size<=k)/\Below w.heap.size w w'
theorem rk(nm:α->ByteArray) (t:ByteArray) (xs:List α):(wo nm t xs).length<=xs.length:=List.length_filter_le _ _
structure Sel {α β:Type} (xs ys:List α) (vss ws:List β) (k:Nat) (f:Nat->Nat):Prop where
 len:ws.length=ys.length
 y:∀j,j<ys.length->ys[j]?=xs[f j]?
 v:∀j,j<ys.length->ws[j]?=vss[f j]?
 lt:∀j,j<ys.length->f j<k
 inj:∀i j,i<ys.length->j<ys.length->f i=f j->i=j
theorem Sel.nil(xs:List α) (vss:List β) (k:Nat) (f:Nat->Nat):Sel xs [] vss [] k f:=⟨rfl,λj h=>by simp at h,λj h=>by simp at h,λj h=>by simp at h,λi j h=>by simp at h⟩
theorem Sel.up {vss ws:List β} (h:Sel xs ys vss ws k f):Sel xs ys vss ws (k+1) f:=⟨h.len,h.y,h.v,λj hj=>Nat.lt_succ_of_lt (h.lt j hj),h.inj⟩
theorem Sel.push {vss ws:List β} (h:Sel xs ys vss ws k f) {x:α} {u:β} (hx:xs[k]?=Y5 x) (hu:vss[k]?=Y5 u):Sel xs (ys++[x]) vss (ws++[u]) (k+1) (λj=>if j=ys.length then k else f j):=by
 have hl:=h.len;refine⟨by simp[hl],λj hj=>?_,λj hj=>?_,λj hj=>?_,λi j hi hj e=>?_⟩
 ·by_cases e:j=ys.length
  ·subst e;simp[hx]
  ·have hj':j<ys.length:=by simp at hj;omega
   rw[Yu hj',if_neg e];exact h.y j hj'
 ·by_cases e:j=ys.length
  ·subst e;rw[if_pos rfl,hu,List.getElem?_append_right af,hl,Nat.sub_self];rfl
  ·have hj':j<ys.length:=by simp at hj;omega
   rw[Yu af,if_neg e];exact h.v j hj'
 ·by_cases e:j=ys.length
  ·simp only[if_pos e];omega
  ·have hj':j<ys.length:=by simp at hj;omega
   simp only[if_neg e];have:=h.lt j hj';omega
 ·by_cases e1:i=ys.length <;> by_cases e2:j=ys.length
  ·omega
  ·have hj':j<ys.length:=by simp at hj;omega
   simp only[if_pos e1,if_neg e2] at e;have:=h.lt j hj';omega
  ·have hi':i<ys.length:=by simp at hi;omega
   simp only[if_pos e2,if_neg e1] at e;have:=h.lt i hi';omega
  ·simp only[if_neg e1,if_neg e2] at e;exact h.inj i j (by simp at hi;omega) (by simp at hj;omega) e
theorem Sel.ju {m:Nat} {F:α->List Fv} {ws:List (List Value)} (h:Sel xs ys vss ws k f) (hv:aQ w S m (xs.map F) vss H):aQ w S m (ys.map F) ws (λj=>H (f j)):=
 hv.sel f (by rw[h.len,Yo]) (λj hj=>by rw[Yo] at hj;rw[Yv,Yv,h.y j hj]) (λj hj=>by rw[Yo] at hj;exact h.v j hj) (λi j hi hj e=>h.inj i j (by simpa using hi) (by simpa using hj) e)
theorem BS {a0 a1 a2 a3 a4:Value} (hl:vs.length=5) (h0:vs[0]?=Y5 a0) (h1:vs[1]?=Y5 a1) (h2:vs[2]?=Y5 a2) (h3:vs[3]?=Y5 a3) (h4:vs[4]?=Y5 a4):vs=[a0,a1,a2,a3,a4]:=by
 apply List.ext_getElem?;intro i;rcases i with _|_|_|_|_|i
 ·exact h0
 ·exact h1
 ·exact h2
 ·exact h3
 ·exact h4
 ·exact wG
theorem BQ {a0 a1 a2 a3 a4 a5 a6 a7:Value} (hl:vs.length=8) (h0:vs[0]?=Y5 a0) (h1:vs[1]?=Y5 a1) (h2:vs[2]?=Y5 a2) (h3:vs[3]?=Y5 a3) (h4:vs[4]?=Y5 a4) (h5:vs[5]?=Y5 a5) (h6:vs[6]?=Y5 a6) (h7:vs[7]?=Y5 a7):vs=[a0,a1,a2,a3,a4,a5,a6,a7]:=by
 apply List.ext_getElem?;intro i;rcases i with _|_|_|_|_|_|_|_|i
 ·exact h0
 ·exact h1
 ·exact h2
 ·exact h3
 ·exact h4
 ·exact h5
 ·exact h6
 ·exact h7
 ·exact wG
theorem bT {m g:Nat} {rs:List (List Fv)} (hV:aQ w S m rs vss H) (hc:∀(k:Nat) u,vss.flatten[k]?=Y5 u->w.cell? ⟨g,k,U⟩=Y5 u) {k:Nat} {vs:List Value} (hk:vss[k]?=Y5 vs) {i:Nat} {u:Value} (hi:i<m) (hu:w.cell? ⟨g,k*m+i,U⟩=Y5 u):vs[i]?=Y5 u:=by
 have hl:=hV.all k vs hk;have h1:vs[i]?=Y5 (vs[i]'(by omega)):=Yi _;have h2:=hc _ _ (gi hV.all hk h1);rw[hu] at h2;rw[h1];exact h2.symm
theorem Bh(a:Option Addr) (len cap:Nat) (xs:List Xd) (t:ByteArray) (Q:Nat->Prop) (w:World) (ho:aw w a len cap 5 50 (xs.map xdF) Q) (hl:len<=8):
  Calls Tryz.prog 23 #[J a len cap,I t] w λe w'=> ∃a' l' c',e=Za (J a' l' c')/\aw w' a' l' c' 5 50 ((wo Xd.n t xs).map xdF) (λk=>Q k\/w.heap.size<=k)/\Below w.heap.size w w':=by
 have z986z:=@aa _ @Sa;exact pE
theorem pb(a:Option Addr) (len cap:Nat) (xs:List Vd) (t:ByteArray) (Q:Nat->Prop) (w:World) (ho:aw w a len cap 8 38 (xs.map vdF) Q) (hl:len<=8):
  Calls Tryz.prog 27 #[J a len cap,I t] w λe w'=> ∃a' l' c',e=Za (J a' l' c')/\aw w' a' l' c' 8 38 ((wo Vd.n t xs).map vdF) (λk=>Q k\/w.heap.size<=k)/\Below w.heap.size w w':=by
 have z986z:=@aa _ @R_;exact pE
def DwWhy(c:Cl) (t:ByteArray) (St:Nat->Prop):Nat->Prop
 | 0=>8000<t.size
 | 1=>¬8000<t.size/\¬aq c
 | i+2=>¬8000<t.size/\aq c/\St (i+2)
def qQ(E:Nat->Addr) (Why:Nat->Prop) (ok:Prop) (w:World) (e:Ending) (w':World):Prop:=Below w.heap.size w w'/\((∃i,i<9/\Why i/\e=Za (.iface 199 (Zf (Y5 (E i)))))\/(ok/\e=Za .nilIface))
def ak_(c:Cl) (t:ByteArray) (ok:Prop):Prop:=¬8000<t.size/\aq c/\ok
theorem Re(d:Ad) (c:Cl) (t:ByteArray) (E:Nat->Addr) (St:Nat->Prop) (ok:Prop) (w:World) (hr:aB w d c.raw) (hG:Ers w E) (hst:∀W,aB W d c.raw->aq c->Ers W E->¬8000<t.size->Calls Tryz.prog 20 #[Zc #[J d.a1 d.l1 d.c1,J d.a2 d.l2 d.c2,J d.a3 d.l3 d.c3,J d.a4 d.l4 d.c4,J d.a5 d.l5 d.c5,Y7 Y6 c.now],I t] W (qQ E (λi=>2<=i/\St i) ok W)):
  Calls Tryz.prog 19 #[Zc #[J d.a1 d.l1 d.c1,J d.a2 d.l2 d.c2,J d.a3 d.l3 d.c3,J d.a4 d.l4 d.c4,J d.a5 d.l5 d.c5,Y7 Y6 c.now],I t,.func (.func 20) #[] #[]] w (qQ E (DwWhy c t St) (ak_ c t ok) w):=by
 exact QJ
end Rc
end Go.Proofs.YtfhdfmdaiookjaaGreatDoor
