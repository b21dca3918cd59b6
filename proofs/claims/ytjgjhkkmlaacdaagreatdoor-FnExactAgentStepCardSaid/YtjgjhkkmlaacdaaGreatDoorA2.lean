import Derived.Test.YtjgjhkkmlaacdaaGreatDoorA1
import Derived.Deep.RegionWith
/-
 VolumeRight of the program.
-/
set_option maxRecDepth 100000
set_option maxHeartbeats 12800000
open And renaming intro→vA
open Array renaming getD_eq_getD_getElem?→vJ, getElem?_push_size→vP, getElem?_eq_some_iff→vT, getElem?_setIfInBounds→vY
open Bool renaming and_eq_true→vZ, eq_false_or_eq_true→wY
open Go.Addr renaming add_lit→wv
open Go.Calls renaming quiet_of_same→vW
open Go.Op renaming bytesLess→vM
open Go.RowKit.Below renaming heap_setCell→vB, refl→vG, heap_alloc→vS, alloc→xn
open Go.Value renaming string→vU
open Go.World renaming setCell→wm
open Int renaming le_trans→wi, add_assoc→wO
open List renaming getElem?_eq_some_iff→vz, getElem?_eq_getElem→vF, lookup→vH, take_of_length_le→vK, getElem?_map→vL, length_take→vX, getElem?_take→wb, length_map→wj, length_append→wk, getElem?_append_right→wu, take_add_one→wA, mem_of_getElem?→wD, all_eq_true→wE, getElem?_eq_none→wG, mem_cons→wH, length_drop→wI, range→wN
open Nat renaming le_refl→vD, le_trans→vI, lt_of_lt_of_le→vN, le_succ→vV, zero_add→we
open Option renaming map_eq_some_iff→vO
open Option.some renaming inj→vC, injEq→wJ
namespace Go.Proofs.YtjgjhkkmlaacdaaGreatDoor
theorem ak {p:Prop} (h:p:=by decide):p:=h
theorem cd {p:Prop} (h:p:=by have:=(vz.1 hz).1;omega):p:=h
theorem bM {p:Prop} (h:p:=by first|trivial|rfl):p:=h
theorem jt {p:Prop} (h:p:=by simpa using (show (c.vs.map vdF).length=l3 from hr.v.1)):p:=h
theorem jr {p:Prop} (h:p:=by have:=(vz.1 ht).1;omega):p:=h
theorem jq {p:Prop} (h:p:=by have:=(vz.1 hj).1;omega):p:=h
theorem mr {p:Prop} (h:p:=by simpa using (show (c.ns.map ndF).length=l1 from hr.n.1)):p:=h
theorem jo {p:Prop} (h:p:=by rw[Nat.sub_add_cancel hk0];exact HXx.out):p:=h
theorem mo {p:Prop} (h:p:=by have:=(vz.1 hy).1;omega):p:=h
theorem gV {p:Prop} (h:p:=by simp[wm];omega):p:=h
theorem ox {p:Prop} (h:p:=by simpa using (show (c.xs.map xdF).length=l4 from hr.x.1)):p:=h
theorem ow {p:Prop} (h:p:=by have:=(vz.1 hi).1;omega):p:=h
theorem ov {p:Prop} (h:p:=by simp[results,Tryz.results122,go_sem, *]):p:=h
end Go.Proofs.YtjgjhkkmlaacdaaGreatDoor
namespace Go.Proofs.YtjgjhkkmlaacdaaGreatDoor
theorem uq {p:Prop} (h:p:=by
 obtain⟨k0,k1,k2,k3,k4,k5⟩:=cs6 Bk;obtain⟨p0,p1,p2,p3,p4,p5⟩:=cs6 Bp;have ltp_1:=ae Bp.out;go_wp2;go_loopw [35] (fun i wr=> ∃k:Nat,k<=pl/\i=.int .i64 k/\Hid (∀(j:Nat) t,j<k->p.zs[j]?=some t->∃v,a_ c t v/\v.z=n.z)/\Hid (Below w.heap.size w wr)/\Hid (wr.heap[w.heap.size]?=some (.cells (clv d c.now) 36 (0,0)))/\Hid (wr.heap[w1.heap.size]?=some (.cells (nov n va vl vc) 56 (0,0)))) (fun i _=>pl - (intOf i).toNat);case atStart=>exact⟨0,by omega,rfl,fun _ _ h=>absurd h af,HB.alloc HB.size _,(vS _ _ _ (ae Bk.out)).trans Bk.out,vP⟩
 case round=>
  obtain⟨k,hk,rfl,HQ,HB,Bk,Bn⟩:=hrel;by_cases hlt:k<pl
  ·obtain⟨b,o,t,rfl,hb,hx,hc,hsz⟩:=(HP.below HB.out).at hlt;have HXt:=aa hx;clear hx hsz;obtain⟨k0,k1,k2,k3,k4,k5⟩:=cs6 Bk;obtain⟨n0,n1,n2,n3,n4,n5,n6⟩:=cs7 Bn;go_wp2_with fail;refine (iG d c t w _ HR.out HB.out HX.out HV.out HNE.out).mono ?_;rintro e w2 ⟨hb2,hf⟩;clear k0 k1 k2 k3 k4 k5 n0 n1 n2 n3 n4 n5 n6;replace Bk:=upK Bk hb2;replace Bn:=upK Bn hb2;replace HB:=upB HB hb2;clear hb2;clear hb hc;rcases hf with ⟨v,xa,xl,xc,hbd,rfl,z0,z2,hxr⟩|⟨hbd,rfl⟩;rotate_left
   ·exact pE
   have HD:=aa hbd;clear hbd hxr z0 z2;by_cases hz2:v.z=n.z
   ·have q3:=aP hz2;have HZ2:=aa hz2;clear hz2;obtain⟨k0,k1,k2,k3,k4,k5⟩:=cs6 Bk;obtain⟨n0,n1,n2,n3,n4,n5,n6⟩:=cs7 Bn;have ltn_1:=ae Bn.out;go_wp2_with fail;refine⟨⟨k+1,by omega,by go_num,fun j s hj hs=>?_,(HB.alloc HB.size _),(vS _ _ _ (ae Bk.out)).trans Bk.out,(vS _ _ _ (ae Bn.out)).trans Bn.out⟩,by simp[intOf];omega⟩;by_cases e:j=k
    ·subst e;rw[HXt.out] at hs;obtain rfl:=vC hs;exact⟨v,HD.out,HZ2.out⟩
    ·exact HQ.out j s af hs
   ·have q3:=bk hz2;have HZ2:=aa hz2;clear hz2;obtain⟨k0,k1,k2,k3,k4,k5⟩:=cs6 Bk;obtain⟨n0,n1,n2,n3,n4,n5,n6⟩:=cs7 Bn;have ltn_1:=ae Bn.out;go_wp2;go_ret;refine al.f (fun ⟨i,m,e1,e2,e3,e4⟩=>?_) (HB.alloc HB.size _);obtain⟨_,rfl⟩:=HN.inj e1 HX1.out (e2.trans HN1.symm);obtain⟨v',e5,e6⟩:=e4 k t HXt.out;obtain rfl:=a_.inj HX.out HV.out HD.out e5;exact HZ2.out e6
  ·exact pz):p:=h
theorem oU {p:Prop} (h:p:=by
 go_wp2_with fail;refine⟨⟨k+1,x.n,by omega,rfl,by go_num,fun h=>absurd h af,fun z _ hz=>?_,fun j z hj hz=>?_,fun j z u hj hz hu=>?_,HB4.out⟩,by simp[intOf];omega⟩
 ·rw[Nat.add_sub_cancel,HX.out] at hz;rw[vC hz]
 ·by_cases e:j=k
  ·subst e;rw[HX.out] at hz;obtain rfl:=vC hz;exact HOK.out
  ·exact HE.out j z af hz
 ·by_cases e:j+1=k
  ·subst e;rw[HX.out] at hz;obtain rfl:=vC hz;have:=H1.out u af (by rw[Nat.add_sub_cancel];exact hu);rw[this];exact hless
  ·exact HO.out j z u af hz hu):p:=h
theorem oR {p:Prop} (h:p:=by
 have HB:=HB1;clear HB1;have Bk:=Ck;clear Ck;clear ek;go_wp2_with fail;refine⟨⟨k+1,by omega,by go_num,fun j z hj hz=>?_,fun j z y hj hz hy=>?_,HB.out,Bk.out⟩,by simp[intOf];omega⟩
 ·exact ph
 ·by_cases e:j+1=k
  ·have hj:j=k - 1:=af
   subst hj;rw[Nat.sub_add_cancel hk0,HXx.out] at hz;obtain rfl:=vC hz;rw[HXy.out] at hy;obtain rfl:=vC hy;exact hless
  ·exact HO.out j z y af hz hy):p:=h
theorem oN {p:Prop} (h:p:=by
 have HB:=HB1;clear HB1;have Bk:=Ck;clear Ck;clear hd;go_wp2_with fail;refine⟨⟨k+1,by omega,by go_num,fun j z hj hz=>?_,fun j z y hj hz hy=>?_,HB.out,Bk.out⟩,by simp[intOf];omega⟩
 ·exact ph
 ·by_cases e:j+1=k
  ·exact absurd hk0 af
  ·exact HO.out j z y af hz hy):p:=h
theorem oL {p:Prop} (h:p:=by
 rw[hless] at htri;go_wp2;go_ret;refine al.f (fun h=>?_) HB3.out;by_cases hk0:0<k
 ·have hz:xs[k - 1]?=some (xs[k - 1]'(by omega)):=vF _;have h2:=H1.out _ hk0 hz;have h3:=h.2.2 (k - 1) x _ (by rw[Nat.sub_add_cancel hk0];exact HX.out) hz;rw[h2,hless] at h3;cases h3
 ·have:=H0.out af;subst this;have hnm:=HOK.1.1;rw[ka hnm] at hless;cases hless):p:=h
theorem mM {p:Prop} (h:p:=by
 by_cases hn:x.n=t
 ·have hq:=aP hn;have HN:=aa hn;clear hn;go_wp2;go_ret;exact⟨ai _ _,.inl ⟨k,x,HX.out,HN.out,rfl⟩⟩
 ·have hq:=bk hn;have HN:=aa hn;clear hn;go_wp2;refine⟨⟨k+1,by omega,by go_num,by rw[ha],fun j z hj hz=>?_⟩,by simp[intOf];omega⟩;exact pg):p:=h
theorem jU {p:Prop} (h:p:=by
 obtain rfl:k=len:=af
 go_wp2;go_ret;refine al.t ⟨by omega,fun j z hz=>HE.out j z cd hz,fun j z u hz hu=>HO.out j z u cd hz hu⟩ HB.out):p:=h
theorem o6 {p:Prop} (h:p:=by
 rw[hs] at c4;clear hs;obtain⟨k0,k1,k2,k3,k4,k5⟩:=cs6 Bk;have ltk_0:=ae Bk.out;go_wp2;refine⟨⟨k+1,by omega,by go_num,fun j z hj hz=>?_,(HB.alloc HB.size _),(vS _ _ _ (ae Bk.out)).trans Bk.out⟩,by simp[intOf];omega⟩;by_cases e:j=k
 ·subst e;rw[HXv.out] at hz;obtain rfl:=vC hz;exact fun h1 h2=>by rcases HCs.out with h|h;(rw[h] at h1;cases h1);exact absurd h h2
 ·exact HQ.out j z af hz):p:=h
theorem tt {p:Prop} (h:p:=by
 have F3:Hid (∀w,Calls Tryz.prog 190 #[.string k] w fun e w'=>e=.returned (.bool false)/\w'=w):=fun w=>(aR k w hk).mono fun _ _ h=>h.no p3;have HP:=aa p3;clear p3;go_enter Tryz.func196,Tryz.ntmps196;go_wp2_with fail;go_quiet ((first|(go_at_call_of 190 (vU n);exact vW (F0.out _))|(go_at_call_of 133 (Value.int .i64 c);exact vW (F1.out _))|(go_at_call_of 190 (vU z);exact vW (F2.out _))|(go_at_call_of 190 (vU k);exact vW (F3.out _))));go_wp2_with fail;go_ret;exact⟨false,rfl,⟨fun h=>bw,fun h=>(HP.out (h.2.2.2.1)).elim⟩,below_drewN (ai _ _) _⟩):p:=h
theorem mL {p:Prop} (h:p:=by
 go_wp2_with fail;refine⟨⟨k+1,by omega,by go_num,fun j y hj hy=>?_,HB2.out⟩,by simp[intOf];omega⟩;by_cases e:j=k
 ·subst e;rw[HX.out] at hy;obtain rfl:=vC hy;exact hless
 ·exact HE.out j y af hy):p:=h
theorem tr {p:Prop} (h:p:=by
 have F2:Hid (∀w,Calls Tryz.prog 190 #[.string z] w fun e w'=>e=.returned (.bool false)/\w'=w):=fun w=>(aR z w hz).mono fun _ _ h=>h.no p2;have HP:=aa p2;clear p2;go_enter Tryz.func196,Tryz.ntmps196;go_wp2_with fail;go_quiet ((first|(go_at_call_of 190 (vU n);exact vW (F0.out _))|(go_at_call_of 133 (Value.int .i64 c);exact vW (F1.out _))|(go_at_call_of 190 (vU z);exact vW (F2.out _))));go_wp2_with fail;go_ret;exact⟨false,rfl,⟨fun h=>bw,fun h=>(HP.out (h.2.2.1)).elim⟩,below_drewN (ai _ _) _⟩):p:=h
theorem tq {p:Prop} (h:p:=by
 have F1:Hid (∀w,Calls Tryz.prog 133 #[.int .i64 c,.int .i64 1,.int .i64 1048576] w fun e w'=>e=.returned (.bool false)/\w'=w):=fun w=>(bp c 1 1048576 w).mono fun _ _ h=>h.no p1;have HP:=aa p1;clear p1;go_enter Tryz.func196,Tryz.ntmps196;go_wp2_with fail;go_quiet ((first|(go_at_call_of 190 (vU n);exact vW (F0.out _))|(go_at_call_of 133 (Value.int .i64 c);exact vW (F1.out _))));go_wp2_with fail;go_ret;exact⟨false,rfl,⟨fun h=>bw,fun h=>(HP.out (h.2.1)).elim⟩,below_drewN (ai _ _) _⟩):p:=h
theorem jP {p:Prop} (h:p:=by
 rintro e w1 ⟨r,rfl,hr1,hb⟩;have HB:=aa (bZ hb).2.1;have HI:=aa hr1;clear hb hr1;go_wp2;go_ret;exact⟨r,rfl,HI.out,HB.out⟩):p:=h
theorem mK {p:Prop} (h:p:=by
 rintro e w' ⟨hb,h⟩;rcases h with ⟨i,y,h1,h2,rfl⟩|⟨h1,rfl⟩
 ·obtain⟨rfl,_⟩:=hs.inj h1 hx (h2.trans hn.symm);exact⟨rfl,hb⟩
 ·exact absurd hn (h1 j x hx)):p:=h
theorem tj {p:Prop} (h:p:=by
 have F0:Hid (∀w,Calls Tryz.prog 190 #[.string n] w fun e w'=>e=.returned (.bool false)/\w'=w):=fun w=>(aR n w hn).mono fun _ _ h=>h.no p0;have HP:=aa p0;clear p0;go_enter Tryz.func196,Tryz.ntmps196;go_wp2_with fail;go_quiet ((first|(go_at_call_of 190 (vU n);exact vW (F0.out _))));go_wp2_with fail;go_ret;exact⟨false,rfl,⟨fun h=>bw,fun h=>(HP.out (h.1)).elim⟩,below_drewN (ai _ _) _⟩):p:=h
theorem mI {p:Prop} (h:p:=by
 go_wp2;go_ret;exact⟨ai _ _,.inr ⟨fun j z hz=>HE.out j z cd hz,rfl⟩⟩):p:=h
theorem tg {p:Prop} (h:p:=by
 obtain rfl:vl=kq:=af
 go_wp2_with fail;refine⟨⟨k+1,by omega,by go_num,fun j z hj hz=>?_,HB.out,Bk.out⟩,by simp[intOf];omega⟩;by_cases e:j=k
 ·subst e;rw[HXv.out] at hz;exact pn
 ·exact HQ.out j z af hz):p:=h
theorem mG {p:Prop} (h:p:=by
 rintro e w' ⟨hb,h⟩;rcases h with ⟨i,y,h1,h2,rfl⟩|⟨h1,rfl⟩
 ·exact absurd h2 (hn i y h1)
 ·exact⟨rfl,hb⟩):p:=h
theorem jL {p:Prop} (h:p:=by
 go_wp2;go_ret;exact al.f (fun h=>by have:=HI.2 (h.2.1 k x HX.out);cases this) HB2.out):p:=h
theorem sY {p:Prop} (h:p:=by
 have HH:=aa hh;clear hh;obtain⟨k0,k1,k2,k3,k4,k5⟩:=cs6 Bk;obtain⟨p0,p1,p2,p3,p4,p5⟩:=cs6 Bp;have ltp_1:=ae Bp.out;go_wp2;go_ret;refine al.f (fun ⟨i,n,e1,e2,_⟩=>?_) (HB.alloc HB.size _);have:=(cq HN.out e1 e2).2;rw[HH.out] at this;cases this):p:=h
theorem oT {p:Prop} (h:p:=by
 go_wp2;go_ret;exact⟨congrArg (fun z=>Ending.returned (.int .i64 z)) (HS.trans (by rw[vK af])),HB.out⟩):p:=h
theorem jI {p:Prop} (h:p:=by
 go_wp2;go_ret;exact al.f (fun h=>by have:=h.1;omega) (vG _ _)):p:=h
theorem oQ {p:Prop} (h:p:=by
 obtain⟨k0,k1,k2,k3,k4,k5⟩:=cs6 Bk;go_wp2;go_ret;exact al.f (fun h=>by have:=HI2.2 h.2.1;cases this) HB.out):p:=h
theorem jG {p:Prop} (h:p:=by
 obtain⟨q,h1,h2⟩:=haty 0 _ rfl;obtain⟨rfl,-⟩:=h2;exact h1):p:=h
theorem sS {p:Prop} (h:p:=by
 go_wp2_with fail;refine⟨⟨k+1,by omega,by go_num,fun j z hj hz=>?_,HB.out,Bk.out⟩,by simp[intOf];omega⟩;by_cases e:j=k
 ·subst e;rw[HXn.out] at hz;obtain rfl:=vC hz;exact hq
 ·exact HQ.out j z af hz):p:=h
theorem oO {p:Prop} (h:p:=by
 obtain⟨k0,k1,k2,k3,k4,k5⟩:=cs6 Bk;go_wp2;go_ret;exact al.f (fun h=>by have:=HI1.2 h.1;cases this) HB.out):p:=h
theorem sR {p:Prop} (h:p:=by
 obtain⟨x0,x1,x2,x3,x4⟩:=cs5 Bx;have ltx_2:=ae Bx.out;go_wp2;go_ret;refine al.f (fun ⟨i,j,x',v',e1,e2,e3,e4,_⟩=>?_) (HB.alloc HB.size _);have:=(cq HX.out e1 e2).2;rw[HH1.out] at this;cases this):p:=h
theorem sQ {p:Prop} (h:p:=by
 by_cases h:∃v,a_ c t v
 ·exact .inl h
 ·exact .inr (fun v hv=>h ⟨v,hv⟩)):p:=h
theorem sP {p:Prop} (h:p:=by
 exact ah (vV _) (ah (vV _) (ah (vV _) (ah (vV _) (ah (vV _) (ah (vV _) (ah (vV _) (ah (vV _) (HB.out))))))))):p:=h
theorem sK {p:Prop} (h:p:=by
 exact ah (vV _) (ah (vV _) (ah (vV _) (ah (vV _) (ah (vV _) (ah (vV _) (ah (vV _) (HB.out)))))))):p:=h
theorem mC {p:Prop} (h:p:=by
 clear HQ;go_wp2;go_ret;exact al.t ⟨HQ1.out,HQ2.out⟩ HB.out):p:=h
theorem oJ {p:Prop} (h:p:=by
 obtain rfl:=vC hz;exact⟨HH.out,.inr (HI.1 bM)⟩):p:=h
theorem qe {p:Prop} (h:p:=by
 exact ah (vV _) (ah (vV _) (ah (vV _) (ah (vV _) (ah (vV _) (HB.out)))))):p:=h
theorem qd {p:Prop} (h:p:=by
 obtain rfl:pl=k:=af
 go_wp2;go_ret;exact al.t (fun j t ht=>HQ.out j t jr ht) HB.out):p:=h
theorem qb {p:Prop} (h:p:=by
 by_cases e:j=k
 ·subst e;rw[HXp.out] at hz;obtain rfl:=vC hz;exact fun h=>absurd h HP2.out
 ·exact HQ.out j z af hz):p:=h
theorem p_ {p:Prop} (h:p:=by
 go_wp2_with fail;go_ret;exact⟨false,rfl,⟨fun h=>bw,fun h=>(HP.out (h.2.2.2.2.1)).elim⟩,below_drewN (ai _ _) _⟩):p:=h
theorem pY {p:Prop} (h:p:=by
 obtain⟨k0,k1,k2,k3,k4,k5⟩:=cs6 Bk;go_wp2;go_ret;exact al.f (fun h=>by have:=HI5.2 h.2.2.2.2.1;cases this) HB.out):p:=h
theorem pX {p:Prop} (h:p:=by
 obtain⟨k0,k1,k2,k3,k4,k5⟩:=cs6 Bk;go_wp2;go_ret;exact al.f (fun h=>by have:=HI6.2 h.2.2.2.2.2;cases this) HB.out):p:=h
theorem pW {p:Prop} (h:p:=by
 obtain⟨k0,k1,k2,k3,k4,k5⟩:=cs6 Bk;go_wp2;go_ret;exact al.f (fun h=>by have:=HI4.2 h.2.2.2.1;cases this) HB.out):p:=h
theorem pU {p:Prop} (h:p:=by
 obtain⟨k0,k1,k2,k3,k4,k5⟩:=cs6 Bk;go_wp2;go_ret;exact al.f (fun h=>by have:=HI3.2 h.2.2.1;cases this) HB.out):p:=h
theorem pT {p:Prop} (h:p:=by
 exact ah (vV _) (ah (vV _) (ah (vV _) (ah (vV _) (HB.out))))):p:=h
theorem kR {p:Prop} (h:p:=by
 obtain rfl:=vC hz;exact⟨HH.out,.inl HEm.out⟩):p:=h
theorem pO {p:Prop} (h:p:=by
 show _=_;rw[fv HX.out,if_neg (fun h=>by have:=HI.2 h;cases this),<-HS.out,Int.add_zero]):p:=h
theorem pE {p:Prop} (h:p:=by
 have HD:=aa hbd;clear hbd;obtain⟨k0,k1,k2,k3,k4,k5⟩:=cs6 Bk;obtain⟨n0,n1,n2,n3,n4,n5,n6⟩:=cs7 Bn;have ltn_1:=ae Bn.out;go_wp2;go_ret;refine al.f (fun ⟨i,m,e1,e2,e3,e4⟩=>?_) (HB.alloc HB.size _);obtain⟨v,e5,_⟩:=e4 k t HXt.out;exact HD.out v e5):p:=h
theorem pz {p:Prop} (h:p:=by
 obtain rfl:pl=k:=af
 go_wp2;go_ret;exact al.t ⟨_,n,HX1.out,HN1.out,HC.out,fun j t ht=>HQ.out j t jr ht⟩ HB.out):p:=h
theorem pn {p:Prop} (h:p:=by
 obtain rfl:=vC hz;exact fun j s hs=>HQ2.out j s (by have h1:=(vz.1 hs).1;have h2:=HVL.out;omega) hs):p:=h
theorem ph {p:Prop} (h:p:=by
 by_cases e:j=k
 ·subst e;rw[HXx.out] at hz;obtain rfl:=vC hz;exact HOK.out
 ·exact HQ.out j z af hz):p:=h
theorem pg {p:Prop} (h:p:=by
 by_cases e:j=k
 ·subst e;rw[HX.out] at hz;obtain rfl:=vC hz;exact HN.out
 ·exact HE.out j z af hz):p:=h
theorem kM {p:Prop} (h:p:=by
 have HR:=aa hr;have hl1:c.ns.length=l1:=mr
 have hm1:l1<=9223372036854775807:=vI hr.n.2.1 hr.n.2.2.1;have hl2:c.ks.length=l2:=by simpa using (show (c.ks.map kdF).length=l2 from hr.k.1)
 have hm2:l2<=9223372036854775807:=vI hr.k.2.1 hr.k.2.2.1;have hl3:c.vs.length=l3:=jt
 have hm3:l3<=9223372036854775807:=vI hr.v.2.1 hr.v.2.2.1;have hl4:c.xs.length=l4:=ox
 have hm4:l4<=9223372036854775807:=vI hr.x.2.1 hr.x.2.2.1;have hl5:c.ps.length=l5:=by simpa using (show (c.ps.map pdF).length=l5 from hr.p.1)
 have hm5:l5<=9223372036854775807:=vI hr.p.2.1 hr.p.2.2.1;exact vA HR (vA hl1 (vA hm1 (vA hl2 (vA hm2 (vA hl3 (vA hm3 (vA hl4 (vA hm4 (vA hl5 hm5)))))))))):p:=h
theorem ed {p:Prop} (h:p:=by
 have x0:=fun q:Wd wr=>(q.cell hb).trans c0;have x1:=fun q:Wd wr=>(q.cell hb).trans c1;have x2:=fun q:Wd wr=>(q.cell hb).trans c2;have x3:=fun q:Wd wr=>(q.cell hb).trans c3;have x4:=fun q:Wd wr=>(q.cell hb).trans c4;exact vA x0 (vA x1 (vA x2 (vA x3 x4)))):p:=h
theorem oA {p:Prop} (h:p:=by
 have HR:=aa hr;have hl1:c.ns.length=l1:=mr
 have hm1:l1<=9223372036854775807:=vI hr.n.2.1 hr.n.2.2.1;have hl3:c.vs.length=l3:=jt
 exact vA HR (vA hl1 (vA hm1 hl3))):p:=h
theorem rr {p:Prop} (h:p:=by
 have hbw:=vN hbl HRW.size;have e0:=(aj hb1 hbw).trans ((aj HRW.out hbl).trans c0);have e1:=(aj hb1 hbw).trans ((aj HRW.out hbl).trans c1);have e2:=(aj hb1 hbw).trans ((aj HRW.out hbl).trans c2);have e3:=(aj hb1 hbw).trans ((aj HRW.out hbl).trans c3);exact vA hbw (vA e0 (vA e1 (vA e2 e3)))):p:=h
theorem jE {p:Prop} (h:p:=by
 have HB3:=aa (HB2.trans (hb2.mono (vI HB.size (vI (vV _) hs1))));have g2:=(hb2.block wr.heap.size af).trans HG.out;have hs2:=hb2.size;have htri:=eU y.toList x.n.toList;exact vA HB3 (vA g2 (vA hs2 htri))):p:=h
theorem fI {p:Prop} (h:p:=by
 have d0:=ck0 g1;have f0:=ar g1 0;have d1:=ck1 g1;have f1:=ar g1 1;have d2:=ck2 g1;have f2:=ar g1 2;have d3:=ck3 g1;have f3:=ar g1 3;exact vA d0 (vA f0 (vA d1 (vA f1 (vA d2 (vA f2 (vA d3 f3))))))):p:=h
theorem mA {p:Prop} (h:p:=by
 have HW:=HB;have k1:=fun q:Wd wr=>q.slot (o:=1) Gk.out rfl;have x0:=fun q:Wd wr=>(q.cell hb).trans c0;have x1:=fun q:Wd wr=>(q.cell hb).trans c1;have x2:=fun q:Wd wr=>(q.cell hb).trans c2;have x3:=fun q:Wd wr=>(q.cell hb).trans c3;exact vA HW (vA k1 (vA x0 (vA x1 (vA x2 x3))))):p:=h
theorem eJ {p:Prop} (h:p:=by
 have HR:=aa hr;have hxl:xs.length=len:=dJ
 have hlc:=vI hr.2.1 hr.2.2.1;exact vA HR (vA hxl hlc)):p:=h
theorem jC {p:Prop} (h:p:=by
 have hl5:c.ps.length=l5:=by simpa using (show (c.ps.map pdF).length=l5 from hr.p.1)
 have hm5:l5<=9223372036854775807:=vI hr.p.2.1 hr.p.2.2.1;exact vA hl5 hm5):p:=h
theorem oH {p:Prop} (h:p:=by
 have Gk:=Bk;have Gx:=Bx;have Gy:=By;have HW:=HB;have k2:=fun q:Wd q1.w=>q.slot (o:=2) Gk.out rfl;have x3:=fun q:Wd q1.w=>q.slot (o:=3) Gx.out rfl;have y3:=fun q:Wd q1.w=>q.slot (o:=3) Gy.out rfl;have tw:=fun q:Wd q1.w=>(q.cell hbw1).trans hcw1;have vw:=fun q:Wd q1.w=>(q.cell hbv1).trans hcv1;have hne0:=Wd.ne q1.w;exact vA Gk (vA Gx (vA Gy (vA HW (vA k2 (vA x3 (vA y3 (vA tw (vA vw hne0))))))))):p:=h
theorem fH {p:Prop} (h:p:=by
 have x5:=fun q:Wd wr=>(q.cell hb).trans c5;have x6:=fun q:Wd wr=>(q.cell hb).trans c6;exact vA x5 x6):p:=h
theorem eI {p:Prop} (h:p:=by
 have HB2:=upB HB1 hb1;have d0:=ck0 g1;have d1:=ck1 g1;have d2:=ck2 g1;have d3:=ck3 g1;exact vA HB2 (vA d0 (vA d1 (vA d2 d3)))):p:=h
theorem eh {p:Prop} (h:p:=by
 have yw:=fun q:Wd wr=>(q.cell hb).trans y0;have hne0:=Wd.ne wr;exact vA yw hne0):p:=h
theorem my {p:Prop} (h:p:=by
 have HB3:=aa (HB2.trans (hb2.mono (vI HB.size (vI (vV _) hs1))));have hp:=qh HE.out HX.out hless;exact vA HB3 hp):p:=h
theorem b_ {p:Prop} (h:p:=by
 have HB1:=upB HW q.b;have Ck:=upK Gk q.b;exact vA HB1 Ck):p:=h
theorem sx {p:Prop} (h:p:=by
 have GK:=aa ((vS wr (.cells (nov n va vl vc) 56) _ (ae Bk.out)).trans Bk.out);have GR:Hid ((wr.alloc (.cells (nov n va vl vc) 56)).heap[wr.heap.size]?=some (.cells (nov n va vl vc) 56 (0,0))):=vP;have HW:=aa (HB.trans ((ai wr (.cells (nov n va vl vc) 56)).mono HB.size));exact vA GK (vA GR HW)):p:=h
theorem cK {p:Prop} (h:p:=by
 have HB2:=upB HW q2.b;have Ck:=upK Gk q2.b;exact vA HB2 Ck):p:=h
theorem eH {p:Prop} (h:p:=by
 have HR:=aa hr;have HB:=aa (vG w.heap.size w);exact vA HR HB):p:=h
theorem oD {p:Prop} (h:p:=by
 have fr0:=ar Bs.out 0;have fr1:=ar Bs.out 1;have fr2:=ar Bs.out 2;have fr3:=ar Bs.out 3;have fr4:=ar Bs.out 4;have fr5:=ar Bs.out 5;have fr6:=ar Bs.out 6;have fr7:=ar Bs.out 7;exact vA fr0 (vA fr1 (vA fr2 (vA fr3 (vA fr4 (vA fr5 (vA fr6 fr7))))))):p:=h
theorem jx {p:Prop} (h:p:=by
 have HB:=aa (BV.trans (HBW.mono BV.size));have Bk:=upK KV HBW.out;exact vA HB Bk):p:=h
theorem gd {p:Prop} (h:p:=by
 have HE:=aa hG;have HB:=aa (vG w.heap.size w);exact vA HE HB):p:=h
theorem sh {p:Prop} (h:p:=by
 have GV:Hid ((wr.alloc (.cells (vov v va vl vc) 105)).heap[wr.heap.size]?=some (.cells (vov v va vl vc) 105 (0,0))):=vP;have BV:=aa (HB.trans ((ai wr (.cells (vov v va vl vc) 105)).mono HB.size));exact vA GV BV):p:=h
theorem mw {p:Prop} (h:p:=by
 have d4:=ck4 g1;have f4:=ar g1 4;have d5:=ck5 g1;have f5:=ar g1 5;have d6:=ck6 g1;have f6:=ar g1 6;exact vA d4 (vA f4 (vA d5 (vA f5 (vA d6 f6))))):p:=h
theorem sd {p:Prop} (h:p:=by
 have e4:=(aj hb1 hbw).trans ((aj HRW.out hbl).trans c4);have e5:=(aj hb1 hbw).trans ((aj HRW.out hbl).trans c5);have e6:=(aj hb1 hbw).trans ((aj HRW.out hbl).trans c6);exact vA e4 (vA e5 e6)):p:=h
theorem jw {p:Prop} (h:p:=by
 have hd:decide ((0:Int)<k)=false:=by simp;omega
 have Gk:=Bk;exact vA hd Gk):p:=h
theorem fF {p:Prop} (h:p:=by
 have HX:=aa hx;have HV:=aa hv;have HNE:=aa hne;exact vA HX (vA HV HNE)):p:=h
theorem sb {p:Prop} (h:p:=by
 have Gk:Hid (wr.heap[w.heap.size]?=some (.cells (clo6 (some ⟨b,o,none⟩) l1 y1 a2 l2 y2 a3 l3 y3 a4 l4 y4 a5 l5 y5 c.now) 36 (0,0))):=Bk.out;have HW:=HB;have k0:=fun q:Wd wr=>q.slot (o:=0) Gk.out rfl;exact vA Gk (vA HW k0)):p:=h
theorem r_ {p:Prop} (h:p:=by
 have Gk:Hid (wr.heap[w.heap.size]?=some (.cells (clo6 a1 l1 y1 a2 l2 y2 (some ⟨b,o,none⟩) l3 y3 a4 l4 y4 a5 l5 y5 c.now) 36 (0,0))):=Bk.out;have HW:=HB;have k2:=fun q:Wd wr=>q.slot (o:=2) Gk.out rfl;exact vA Gk (vA HW k2)):p:=h
theorem rZ {p:Prop} (h:p:=by
 have Gk:Hid (wr.heap[w.heap.size]?=some (.cells (clo6 a1 l1 y1 a2 l2 y2 a3 l3 y3 (some ⟨b,o,none⟩) l4 y4 a5 l5 y5 c.now) 36 (0,0))):=Bk.out;have HW:=HB;have k3:=fun q:Wd wr=>q.slot (o:=3) Gk.out rfl;exact vA Gk (vA HW k3)):p:=h
theorem rY {p:Prop} (h:p:=by
 have Gk:Hid (wr.heap[w.heap.size]?=some (.cells (clo6 a1 l1 y1 a2 l2 y2 a3 l3 y3 a4 l4 y4 (some ⟨b,o,none⟩) l5 y5 c.now) 36 (0,0))):=Bk.out;have HW:=HB;have k4:=fun q:Wd wr=>q.slot (o:=4) Gk.out rfl;exact vA Gk (vA HW k4)):p:=h
end Go.Proofs.YtjgjhkkmlaacdaaGreatDoor
namespace Go.Proofs.YtjgjhkkmlaacdaaGreatDoor
open Go.RowKit

theorem qE (n:ByteArray) (c:Int) (z k:ByteArray) (x:Bool) (m:ByteArray) (y:Bool) (a:Option Addr) (len cap:Nat) (zs:List ByteArray) (w:World) (hn:n.size<=9223372036854775807) (hz:z.size<=9223372036854775807) (hk:k.size<=9223372036854775807) (hm:m.size<=9223372036854775807) (hr:av w a len cap zs):
  Calls Tryz.prog 196 #[.agg #[.string n,.int .i64 c,.string z,.string k,.bool x,.string m,.bool y,.slice a len cap]] w (al (q_ n c z k x m y zs) w):=by
 have HR:Hid (av w a len cap zs):=hr;clear hr;cases y
 ·have HY:Hid (false=true->m=⟨#[]⟩):=fun h=>bw;by_cases p0:aT n;case neg=>
   exact tj
  have F0:Hid (∀w,Calls Tryz.prog 190 #[.string n] w fun e w'=>e=.returned (.bool true)/\w'=w):=fun w=>(aR n w hn).mono fun _ _ h=>h.yes p0;by_cases p1:Inn c 1 1048576;case neg=>
   exact tq
  have F1:Hid (∀w,Calls Tryz.prog 133 #[.int .i64 c,.int .i64 1,.int .i64 1048576] w fun e w'=>e=.returned (.bool true)/\w'=w):=fun w=>(bp c 1 1048576 w).mono fun _ _ h=>h.yes p1;by_cases p2:aT z;case neg=>
   exact tr
  have F2:Hid (∀w,Calls Tryz.prog 190 #[.string z] w fun e w'=>e=.returned (.bool true)/\w'=w):=fun w=>(aR z w hz).mono fun _ _ h=>h.yes p2;by_cases p3:aT k;case neg=>
   exact tt
  have F3:Hid (∀w,Calls Tryz.prog 190 #[.string k] w fun e w'=>e=.returned (.bool true)/\w'=w):=fun w=>(aR k w hk).mono fun _ _ h=>h.yes p3;by_cases p4:cJ m;case neg=>
   have F4:Hid (∀w,Calls Tryz.prog 197 #[.string m] w fun e w'=>e=.returned (.bool false)/\w'=w):=fun w=>(cB m w hm).mono fun _ _ h=>h.no p4;have HP:=aa p4;clear p4;go_enter Tryz.func196,Tryz.ntmps196;go_wp2_with fail;go_quiet ((first|(go_at_call_of 190 (vU n);exact vW (F0.out _))|(go_at_call_of 133 (Value.int .i64 c);exact vW (F1.out _))|(go_at_call_of 190 (vU z);exact vW (F2.out _))|(go_at_call_of 190 (vU k);exact vW (F3.out _))|(go_at_call_of 197 (vU m);exact vW (F4.out _))));exact p_
  have F4:Hid (∀w,Calls Tryz.prog 197 #[.string m] w fun e w'=>e=.returned (.bool true)/\w'=w):=fun w=>(cB m w hm).mono fun _ _ h=>h.yes p4;obtain⟨q,hq⟩:∃q:Int,q=if x=true then 1 else 6:=⟨_,rfl⟩;have HM:Hid (∀w,Calls Tryz.prog 198 #[.agg #[.string n,.int .i64 c,.string z,.string k,.bool x,.string m,.bool false,.slice a len cap]] w fun e w'=>e=.returned (.int .i64 q)/\Below w.heap.size w w'):=fun w=>by rw[hq];exact gy n c z k x m false a len cap w
  have HQ:Hid (q=if x=true then 1 else 6):=hq;clear hq;go_enter Tryz.func196,Tryz.ntmps196;go_wp2_with fail;go_region_with (first|(go_at_call_of 190 (vU n);refine (F0.out _).mono ?_;rintro e w1 ⟨rfl,rfl⟩)|(go_at_call_of 133 (Value.int .i64 c);refine (F1.out _).mono ?_;rintro e w1 ⟨rfl,rfl⟩)|(go_at_call_of 190 (vU z);refine (F2.out _).mono ?_;rintro e w1 ⟨rfl,rfl⟩)|(go_at_call_of 190 (vU k);refine (F3.out _).mono ?_;rintro e w1 ⟨rfl,rfl⟩)|(go_at_call_of 197 (vU m);refine (F4.out _).mono ?_;rintro e w1 ⟨rfl,rfl⟩)|(go_at_call 198;refine (HM.out _).mono ?_;rintro e w1 ⟨rfl,hb⟩;have hc7:=aB (fj hb).1 7;simp only[List.getElem?_toArray,List.getElem?_cons_succ,List.getElem?_cons_zero] at hc7)|(go_at_call 191;refine (dB a len cap zs _ _ (HR.below (fj hb).2.1)).mono ?_;rintro e w2 ⟨r,rfl,hr,rfl⟩));all_goals (
   go_wp2_with fail;go_ret
   exact⟨r,rfl,⟨fun h=>⟨p0,p1,p2,p3,p4,HY.out,HQ.out ▸ hr.1 h⟩,fun h=>hr.2 (HQ.out ▸ h.2.2.2.2.2.2)⟩,(fj hb).2.1⟩)
 by_cases hm0:m=⟨#[]⟩
 ·subst hm0;have HY:Hid True:=trivial;by_cases p0:aT n;case neg=>
   exact tj
  have F0:Hid (∀w,Calls Tryz.prog 190 #[.string n] w fun e w'=>e=.returned (.bool true)/\w'=w):=fun w=>(aR n w hn).mono fun _ _ h=>h.yes p0;by_cases p1:Inn c 1 1048576;case neg=>
   exact tq
  have F1:Hid (∀w,Calls Tryz.prog 133 #[.int .i64 c,.int .i64 1,.int .i64 1048576] w fun e w'=>e=.returned (.bool true)/\w'=w):=fun w=>(bp c 1 1048576 w).mono fun _ _ h=>h.yes p1;by_cases p2:aT z;case neg=>
   exact tr
  have F2:Hid (∀w,Calls Tryz.prog 190 #[.string z] w fun e w'=>e=.returned (.bool true)/\w'=w):=fun w=>(aR z w hz).mono fun _ _ h=>h.yes p2;by_cases p3:aT k;case neg=>
   exact tt
  have F3:Hid (∀w,Calls Tryz.prog 190 #[.string k] w fun e w'=>e=.returned (.bool true)/\w'=w):=fun w=>(aR k w hk).mono fun _ _ h=>h.yes p3;by_cases p4:cJ (⟨#[]⟩:ByteArray);case neg=>
   have F4:Hid (∀w,Calls Tryz.prog 197 #[.string (⟨#[]⟩:ByteArray)] w fun e w'=>e=.returned (.bool false)/\w'=w):=fun w=>(cB (⟨#[]⟩:ByteArray) w hm).mono fun _ _ h=>h.no p4;have HP:=aa p4;clear p4;go_enter Tryz.func196,Tryz.ntmps196;go_wp2_with fail;go_quiet ((first|(go_at_call_of 190 (vU n);exact vW (F0.out _))|(go_at_call_of 133 (Value.int .i64 c);exact vW (F1.out _))|(go_at_call_of 190 (vU z);exact vW (F2.out _))|(go_at_call_of 190 (vU k);exact vW (F3.out _))|(go_at_call_of 197 (vU (⟨#[]⟩:ByteArray));exact vW (F4.out _))));exact p_
  have F4:Hid (∀w,Calls Tryz.prog 197 #[.string (⟨#[]⟩:ByteArray)] w fun e w'=>e=.returned (.bool true)/\w'=w):=fun w=>(cB (⟨#[]⟩:ByteArray) w hm).mono fun _ _ h=>h.yes p4;obtain⟨q,hq⟩:∃q:Int,q=if x=true then 1 else 6:=⟨_,rfl⟩;have HM:Hid (∀w,Calls Tryz.prog 198 #[.agg #[.string n,.int .i64 c,.string z,.string k,.bool x,.string (⟨#[]⟩:ByteArray),.bool true,.slice a len cap]] w fun e w'=>e=.returned (.int .i64 q)/\Below w.heap.size w w'):=fun w=>by rw[hq];exact gy n c z k x (⟨#[]⟩:ByteArray) true a len cap w
  have HQ:Hid (q=if x=true then 1 else 6):=hq;clear hq;go_enter Tryz.func196,Tryz.ntmps196;go_wp2_with fail;go_region_with (first|(go_at_call_of 190 (vU n);refine (F0.out _).mono ?_;rintro e w1 ⟨rfl,rfl⟩)|(go_at_call_of 133 (Value.int .i64 c);refine (F1.out _).mono ?_;rintro e w1 ⟨rfl,rfl⟩)|(go_at_call_of 190 (vU z);refine (F2.out _).mono ?_;rintro e w1 ⟨rfl,rfl⟩)|(go_at_call_of 190 (vU k);refine (F3.out _).mono ?_;rintro e w1 ⟨rfl,rfl⟩)|(go_at_call_of 197 (vU (⟨#[]⟩:ByteArray));refine (F4.out _).mono ?_;rintro e w1 ⟨rfl,rfl⟩)|(go_at_call 198;refine (HM.out _).mono ?_;rintro e w1 ⟨rfl,hb⟩;have hc7:=aB (fj hb).1 7;simp only[List.getElem?_toArray,List.getElem?_cons_succ,List.getElem?_cons_zero] at hc7)|(go_at_call 191;refine (dB a len cap zs _ _ (HR.below (fj hb).2.1)).mono ?_;rintro e w2 ⟨r,rfl,hr,rfl⟩));all_goals (
   go_wp2_with fail;go_ret
   exact⟨r,rfl,⟨fun h=>⟨p0,p1,p2,p3,p4,(fun _=>rfl),HQ.out ▸ hr.1 h⟩,fun h=>hr.2 (HQ.out ▸ h.2.2.2.2.2.2)⟩,(fj hb).2.1⟩)
 have hq9:=bj hm0;go_enter Tryz.func196,Tryz.ntmps196;exact pf

end Go.Proofs.YtjgjhkkmlaacdaaGreatDoor

namespace Go.Proofs.YtjgjhkkmlaacdaaGreatDoor
open Go.RowKit
namespace Rc
open Mk

theorem cP (x:Nd) (va:Option Addr) (vl vc:Nat) (w:World):
  Calls Tryz.prog 187 #[.agg #[.string x.n,.string x.z,.int .i64 x.c,.int .i64 x.s,.int .i64 x.u,.bool x.d,.slice va vl vc]] w fun e w'=>e=.returned (.string x.n)/\Below w.heap.size w w':=by
 go_enter Tryz.func187,Tryz.ntmps187;go_wp2;go_ret;exact⟨rfl,ai _ _⟩

theorem ji (x:Nd) (va:Option Addr) (vl vc:Nat) (w:World) (hn:x.n.size<=9223372036854775807) (hz:x.z.size<=9223372036854775807) (hr:av w va vl vc x.zs):
  Calls Tryz.prog 188 #[.agg #[.string x.n,.string x.z,.int .i64 x.c,.int .i64 x.s,.int .i64 x.u,.bool x.d,.slice va vl vc]] w (al (lg x) w):=by
 have HR:=aa (hr.below (ai w (.cells (nov x va vl vc) 56)));clear hr;go_enter Tryz.func188,Tryz.ntmps188;go_wp2_with fail;refine (nK x.n x.z x.c x.s x.u x.d va vl vc x.zs _ hn hz HR.out).mono ?_;exact jP

theorem fJ (a:Option Addr) (len cap:Nat) (xs:List Nd) (t:ByteArray) (w:World) (hr:aE w a len cap 7 (xs.map ndF)):
  Calls Tryz.prog 118 #[.slice a len cap,.string t] w fun e w'=>e=.returned (.tuple #[.int .i64 (pl Nd.n xs t:Nat),.bool (hit Nd.n xs t)])/\Below w.heap.size w w':=by
 obtain⟨HR,hxl,hlc⟩:=eJ;clear hr;have hmcalled:∀(v:Value) (w:World),(method 356 56 v "loop.example/g00571/impl.called").run Tryz.prog w=.ok (187,v) w:=fun _ _=>by kernel_rfl
 go_enter Tryz.func118,Tryz.ntmps118;go_wp2;go_loopw [10] (fun i wr=> ∃k:Nat,k<=len/\i=.int .i64 k/\Hid (∀(j:Nat) y,j<k->xs[j]?=some y->vM y.n.toList t.toList=true)/\Hid (Below w.heap.size w wr)) (fun i _=>len - (intOf i).toNat);case atStart=>exact⟨0,by omega,rfl,fun j y hj=>by omega,vG _ _⟩
 case round=>
  obtain⟨k,hk,rfl,HE,HB⟩:=hrel;by_cases hlt:k<len
  ·obtain⟨b,o,x,rfl,hb,hx,hat⟩:=bJ (HR.below HB.out) hlt;obtain⟨va,vl,vc,hvr,z0,z1,c0,c1,c2,c3,c4,c5,c6⟩:=aO hat;have HX:=aa hx;clear hat hx z0 z1 hvr;have HC:=aa (fun v:World=>cP x va vl vc v);have HB1:=aa (HB.alloc HB.size (.cells (nov x va vl vc) 56));go_wp2_with fail;refine (HC.out _).mono ?_;rintro e w1 ⟨rfl,hb1⟩;obtain⟨g1,-,-⟩:=bZ hb1;have hs1:=hb1.size;rw[show (wr.alloc (.cells (nov x va vl vc) 56)).heap.size=wr.heap.size+1 from by simp] at hs1;obtain⟨HB2,d0,d1,d2,d3⟩:=eI;have d4:=ck4 g1;have d5:=ck5 g1;have d6:=ck6 g1;clear g1 hb1 c0 c1 c2 c3 c4 c5 c6 HB1;cases hless:vM x.n.toList t.toList
   ·go_wp2_with fail;refine (HC.out _).mono ?_;rintro e w2 ⟨rfl,hb2⟩;obtain⟨HB3,hp⟩:=my;clear hb2;go_wp2_with fail;refine bodyPost_ret (v:=.tuple #[.int .i64 k,.bool (x.n.toList==t.toList)]) (by simp[results,Tryz.results118,go_sem]) rfl ⟨?_,HB3.out⟩;unfold hit;rw[hp,HX.out]
   ·exact mL
  ·obtain rfl:k=len:=af
   have hp:pl Nd.n xs t=xs.length:=gv (fun j y hy=>HE.out j y mo hy);have hh:hit Nd.n xs t=false:=by unfold hit;rw[hp,wG (vD _)]
   have HP:=aa hp;have HH:=aa hh;clear hp hh;go_wp2;exact bodyPost_ret (v:=.tuple #[.int .i64 k,.bool false]) (by simp[results,Tryz.results118,go_sem]) rfl ⟨by rw[HP.out,HH.out,hxl],HB.out⟩

def nf (xs:List Nd) (t:ByteArray) (r w:World) (e:Ending) (w':World):Prop:=
 Below w.heap.size w w'/\((hit Nd.n xs t=true/\∃(x:Nd) (va:Option Addr) (vl vc:Nat),xs[pl Nd.n xs t]?=some x/\x.n=t/\e=.returned (.tuple #[.agg #[.string x.n,.string x.z,.int .i64 x.c,.int .i64 x.s,.int .i64 x.u,.bool x.d,.slice va vl vc],.bool true])/\x.n.size<=9223372036854775807/\x.z.size<=9223372036854775807/\av r va vl vc x.zs)\/(hit Nd.n xs t=false/\e=.returned (.tuple #[.agg #[.string ⟨#[]⟩,.string ⟨#[]⟩,.int .i64 0,.int .i64 0,.int .i64 0,.bool false,.slice none 0 0],.bool false])))

theorem lU (a:Option Addr) (len cap:Nat) (xs:List Nd) (t:ByteArray) (r w:World) (hr:aE r a len cap 7 (xs.map ndF)) (hrw:Below r.heap.size r w):
  Calls Tryz.prog 139 #[.slice a len cap,.string t] w (nf xs t r w):=by
 have HR:=aa hr;have HRW:=aa hrw;have hxl:xs.length=len:=dJ
 have HR1:=aa ((hr.below hrw).below (ai w (.cells #[.string ⟨#[]⟩,.string ⟨#[]⟩,.int .i64 0,.int .i64 0,.int .i64 0,.bool false,.slice none 0 0] 56)));clear hr hrw;go_enter Tryz.func139,Tryz.ntmps139;go_wp2_with fail;refine (fJ a len cap xs t _ HR1.out).mono ?_;rintro e w1 ⟨rfl,hb⟩;obtain⟨g1,hb1,-⟩:=bZ hb;obtain⟨d0,f0,d1,f1,d2,f2,d3,f3⟩:=fI;obtain⟨d4,f4,d5,f5,d6,f6⟩:=mw;have HB:=aa hb1;have hs1:=hb.size;rw[show (w.alloc (.cells #[.string ⟨#[]⟩,.string ⟨#[]⟩,.int .i64 0,.int .i64 0,.int .i64 0,.bool false,.slice none 0 0] 56)).heap.size=w.heap.size+1 from by simp] at hs1;have hlt1:w.heap.size<w1.heap.size:=af
 clear hb g1 HR1 hs1;cases hh:hit Nd.n xs t
 ·generalize pl Nd.n xs t=j;have HH:=aa hh;clear hh hb1 HR hxl;go_wp2;refine bodyPost_ret (v:=.tuple #[.agg #[.string ⟨#[]⟩,.string ⟨#[]⟩,.int .i64 0,.int .i64 0,.int .i64 0,.bool false,.slice none 0 0],.bool false]) (by simp[results,Tryz.results139,go_sem, *]) rfl ⟨?_,.inr ⟨HH.out,rfl⟩⟩;exact xn (ah (vD _) (ah (vD _) (ah (vD _) (ah (vD _) (ah (vD _) (ah (vD _) (ah (vD _) (HB.out)))))))) gV _
 ·obtain⟨x,hx,hn⟩:=eX hh;have hj:pl Nd.n xs t<len:=by have:=(vz.1 hx).1;omega
  obtain⟨b,o,y,rfl,hbl,hy,hat⟩:=bJ HR.out hj;rw[hx] at hy;obtain rfl:=vC hy;obtain⟨va,vl,vc,hvr,z0,z1,c0,c1,c2,c3,c4,c5,c6⟩:=aO hat;obtain⟨hbw,e0,e1,e2,e3⟩:=rr;obtain⟨e4,e5,e6⟩:=sd;have HI:Hid (nf xs t r w (.returned (.tuple #[.agg #[.string x.n,.string x.z,.int .i64 x.c,.int .i64 x.s,.int .i64 x.u,.bool x.d,.slice va vl vc],.bool true])) w):=⟨vG _ _,.inl ⟨hh,x,va,vl,vc,hx,hn,rfl,z0,z1,hvr⟩⟩;clear c0 c1 c2 c3 c4 c5 c6 hat hx hn hy hh z0 z1 hvr HR HRW hb1;obtain⟨j,hjj⟩:∃j,pl Nd.n xs t=j:=⟨_,rfl⟩;rw[hjj] at hj;simp only[hjj] at*;clear hjj;go_wp2;refine bodyPost_ret (v:=.tuple #[.agg #[.string x.n,.string x.z,.int .i64 x.c,.int .i64 x.s,.int .i64 x.u,.bool x.d,.slice va vl vc],.bool true]) (by simp[results,Tryz.results139,go_sem, *]) rfl ⟨?_,HI.2⟩;exact ah (vD _) (ah (vD _) (ah (vD _) (ah (vD _) (ah (vD _) (ah (vD _) (ah (vD _) (HB.out)))))))

theorem dU (d:Ad) (now:Int) (xs:List Nd) (t:ByteArray) (r w:World) (hr:aE r d.a1 d.l1 d.c1 7 (xs.map ndF)) (hrw:Below r.heap.size r w):
  Calls Tryz.prog 109 #[.agg #[.slice d.a1 d.l1 d.c1,.slice d.a2 d.l2 d.c2,.slice d.a3 d.l3 d.c3,.slice d.a4 d.l4 d.c4,.slice d.a5 d.l5 d.c5,.int .i64 now],.string t] w (nf xs t r w):=by
 have HR:=aa hr;have HRW:=aa (hrw.trans ((aD w (.cells (clv d now) 36) (.cells #[.string ⟨#[]⟩,.string ⟨#[]⟩,.int .i64 0,.int .i64 0,.int .i64 0,.bool false,.slice none 0 0] 56)).mono hrw.size));clear hr hrw;go_enter Tryz.func109,Tryz.ntmps109;go_wp2_with fail;refine (lU _ _ _ xs t r _ HR.out HRW.out).mono ?_;rintro e w1 ⟨hb,hf⟩;have g1:=(hb.block (w.heap.size+1) aW).trans (bV _ _ _);obtain⟨d0,f0,d1,f1,d2,f2,d3,f3⟩:=fI;obtain⟨d4,f4,d5,f5,d6,f6⟩:=mw;have HB:Hid (Below w.heap.size w w1):=(aD _ _ _).trans (hb.mono bU);clear g1 hb HR HRW;rcases hf with ⟨hh,x,va,vl,vc,hx,hn,rfl,z0,z1,hvr⟩|⟨hh,rfl⟩
 ·have HI:Hid (nf xs t r w (.returned (.tuple #[.agg #[.string x.n,.string x.z,.int .i64 x.c,.int .i64 x.s,.int .i64 x.u,.bool x.d,.slice va vl vc],.bool true])) w):=⟨vG _ _,.inl ⟨hh,x,va,vl,vc,hx,hn,rfl,z0,z1,hvr⟩⟩;clear hx hn hh z0 z1 hvr;go_wp2;refine bodyPost_ret (v:=.tuple #[.agg #[.string x.n,.string x.z,.int .i64 x.c,.int .i64 x.s,.int .i64 x.u,.bool x.d,.slice va vl vc],.bool true]) (by simp[results,Tryz.results109,go_sem, *]) rfl ⟨?_,HI.2⟩;exact sK
 ·have HH:=aa hh;clear hh;go_wp2;refine bodyPost_ret (v:=.tuple #[.agg #[.string ⟨#[]⟩,.string ⟨#[]⟩,.int .i64 0,.int .i64 0,.int .i64 0,.bool false,.slice none 0 0],.bool false]) (by simp[results,Tryz.results109,go_sem, *]) rfl ⟨?_,.inr ⟨HH.out,rfl⟩⟩;exact sK

theorem kK (a:Option Addr) (len cap:Nat) (xs:List Nd) (most:Int) (w:World) (hr:aE w a len cap 7 (xs.map ndF)):
  Calls Tryz.prog 149 #[.slice a len cap,.int .i64 most] w (al (c8 lg Nd.n xs most) w):=by
 obtain⟨HR,hxl,hlc⟩:=eJ;clear hr;have hmcalled:∀(v:Value) (w:World),(method 356 56 v "loop.example/g00571/impl.called").run Tryz.prog w=.ok (187,v) w:=fun _ _=>by kernel_rfl
 have hmright:∀(v:Value) (w:World),(method 356 56 v "loop.example/g00571/impl.right").run Tryz.prog w=.ok (188,v) w:=fun _ _=>by kernel_rfl
 by_cases hmo:most<(len:Int)
 ·go_enter Tryz.func149,Tryz.ntmps149;exact jI
 go_enter Tryz.func149,Tryz.ntmps149;go_wp2;go_loopw [5,14] (fun q i wr=> ∃(k:Nat) (y:ByteArray),k<=len/\q=.string y/\i=.int .i64 k/\Hid (k=0->y=⟨#[]⟩)/\Hid (∀z,0<k->xs[k - 1]?=some z->z.n=y)/\Hid (∀(j:Nat) z,j<k->xs[j]?=some z->lg z)/\Hid (∀(j:Nat) z u,j+1<k->xs[j+1]?=some z->xs[j]?=some u->vM u.n.toList z.n.toList=true)/\Hid (Below w.heap.size w wr)) (fun _ i _=>len - (intOf i).toNat);case atStart=>exact⟨0,_,by omega,rfl,rfl,fun _=>rfl,fun _ h=>absurd h af,fun _ _ h=>absurd h af,fun _ _ _ h=>absurd h af,vG _ _⟩
 case round=>
  obtain⟨k,y,hk,rfl,rfl,H0,H1,HE,HO,HB⟩:=hrel;by_cases hlt:k<len
  ·obtain⟨b,o,x,rfl,hb,hx,hat⟩:=bJ (HR.below HB.out) hlt;obtain⟨va,vl,vc,hvr,z0,z1,c0,c1,c2,c3,c4,c5,c6⟩:=aO hat;have HX:=aa hx;have HC:=aa (fun v:World=>cP x va vl vc v);have HB1:=aa (HB.alloc HB.size (.cells (nov x va vl vc) 56));have HRt:=aa (ji x va vl vc (wr.alloc (.cells (nov x va vl vc) 56)) z0 z1 (hvr.below (ai _ _)));clear hat hx z0 z1 hvr;go_wp2_with fail;refine HRt.mono ?_;rintro e w1 ⟨r,rfl,hrt,hb1⟩;obtain⟨g1,-,-⟩:=bZ hb1;have hs1:=hb1.size;rw[show (wr.alloc (.cells (nov x va vl vc) 56)).heap.size=wr.heap.size+1 from by simp] at hs1;obtain⟨HB2,d0,d1,d2,d3⟩:=eI;have d4:=ck4 g1;have d5:=ck5 g1;have d6:=ck6 g1;have HG:=aa g1;have HI:=aa hrt;clear g1 hb1 HB1 HRt hrt c0 c1 c2 c3 c4 c5 c6;cases r
   ·exact jL
   have HOK:=aa (HI.1 rfl);clear HI;go_wp2_with fail;refine (HC.out _).mono ?_;rintro e w2 ⟨rfl,hb2⟩;obtain⟨HB3,g2,hs2,htri⟩:=jE;clear HG hb2 HB2 d0 d1 d2 d3 d4 d5 d6;have d0:=ck0 g2;have d1:=ck1 g2;have d2:=ck2 g2;have d3:=ck3 g2;have d4:=ck4 g2;have d5:=ck5 g2;have d6:=ck6 g2;clear g2;cases hless:vM y.toList x.n.toList
   ·exact oL
   ·rw[hless] at htri;go_wp2_with fail;refine (HC.out _).mono ?_;rintro e w3 ⟨rfl,hb3⟩;have HB4:=aa (HB3.trans (hb3.mono (vI HB.size af)));clear hb3 d0 d1 d2 d3 d4 d5 d6;exact oU
  ·exact jU

def vf (xs:List Nd) (t:ByteArray) (w:World) (e:Ending) (w':World):Prop:=
 Below w.heap.size w w'/\((∃(j:Nat) (x:Nd),xs[j]?=some x/\x.n=t/\e=.returned (.int .i64 j))\/((∀(j:Nat) x,xs[j]?=some x->¬x.n=t)/\e=.returned (.int .i64 (-1))))

theorem eD (d:Ad) (now:Int) (xs:List Nd) (t:ByteArray) (w:World) (hr:aE w d.a1 d.l1 d.c1 7 (xs.map ndF)):
  Calls Tryz.prog 51 #[.agg #[.slice d.a1 d.l1 d.c1,.slice d.a2 d.l2 d.c2,.slice d.a3 d.l3 d.c3,.slice d.a4 d.l4 d.c4,.slice d.a5 d.l5 d.c5,.int .i64 now],.string t] w (vf xs t w):=by
 have HR:=aa hr;have hxl:xs.length=d.l1:=dJ
 have hlc:=vI hr.2.1 hr.2.2.1;clear hr;go_enter Tryz.func51,Tryz.ntmps51;go_wp2;go_loopw [5] (fun i wr=> ∃k:Nat,k<=d.l1/\i=.int .i64 k/\wr=w.alloc (.cells #[.slice d.a1 d.l1 d.c1,.slice d.a2 d.l2 d.c2,.slice d.a3 d.l3 d.c3,.slice d.a4 d.l4 d.c4,.slice d.a5 d.l5 d.c5,.int .i64 now] 36)/\Hid (∀(j:Nat) z,j<k->xs[j]?=some z->¬z.n=t)) (fun i _=>d.l1 - (intOf i).toNat);case atStart=>exact⟨0,by omega,rfl,rfl,fun _ _ h=>absurd h af⟩
 case round=>
  obtain⟨k,hk,rfl,rfl,HE⟩:=hrel;by_cases hlt:k<d.l1
  ·obtain⟨b,o,x,ha,hb,hx,hat⟩:=bJ HR.out hlt;obtain⟨va,vl,vc,hvr,-,-,c0,-,-,-,-,-,-⟩:=aO hat;have HX:=aa hx;clear hat hx hvr;exact mM
  ·obtain rfl:k=d.l1:=af
   exact mI

theorem fg (x:Kd)  (w:World):
  Calls Tryz.prog 203 #[.agg #[.string x.n,.bool x.x,.bool x.y,.string x.z]] w fun e w'=>e=.returned (.string x.n)/\Below w.heap.size w w':=by
 go_enter Tryz.func203,Tryz.ntmps203;go_wp2;go_ret;exact⟨rfl,ai _ _⟩

theorem jj (x:Kd)  (w:World) (hn:x.n.size<=9223372036854775807) (hz:x.z.size<=9223372036854775807):
  Calls Tryz.prog 204 #[.agg #[.string x.n,.bool x.x,.bool x.y,.string x.z]] w (al (lx x) w):=by
 skip;skip;go_enter Tryz.func204,Tryz.ntmps204;go_wp2_with fail;refine (lJ x.n x.z x.x x.y _ hn hz).mono ?_;exact jP

theorem jY (a:Option Addr) (len cap:Nat) (xs:List Kd) (t:ByteArray) (w:World) (hr:aE w a len cap 4 (xs.map kdF)):
  Calls Tryz.prog 171 #[.slice a len cap,.string t] w fun e w'=>e=.returned (.tuple #[.int .i64 (pl Kd.n xs t:Nat),.bool (hit Kd.n xs t)])/\Below w.heap.size w w':=by
 obtain⟨HR,hxl,hlc⟩:=eJ;clear hr;have hmcalled:∀(v:Value) (w:World),(method 356 115 v "loop.example/g00571/impl.called").run Tryz.prog w=.ok (203,v) w:=fun _ _=>by kernel_rfl
 go_enter Tryz.func171,Tryz.ntmps171;go_wp2;go_loopw [10] (fun i wr=> ∃k:Nat,k<=len/\i=.int .i64 k/\Hid (∀(j:Nat) y,j<k->xs[j]?=some y->vM y.n.toList t.toList=true)/\Hid (Below w.heap.size w wr)) (fun i _=>len - (intOf i).toNat);case atStart=>exact⟨0,by omega,rfl,fun j y hj=>by omega,vG _ _⟩
 case round=>
  obtain⟨k,hk,rfl,HE,HB⟩:=hrel;by_cases hlt:k<len
  ·obtain⟨b,o,x,rfl,hb,hx,hat⟩:=eo (HR.below HB.out) hlt;obtain⟨z0,z3,c0,c1,c2,c3⟩:=bC hat;have HX:=aa hx;clear hat hx z0 z3;have HC:=aa (fun v:World=>fg x v);have HB1:=aa (HB.alloc HB.size (.cells #[.string x.n,.bool x.x,.bool x.y,.string x.z] 115));go_wp2_with fail;refine (HC.out _).mono ?_;rintro e w1 ⟨rfl,hb1⟩;obtain⟨g1,-,-⟩:=bZ hb1;have hs1:=hb1.size;rw[show (wr.alloc (.cells #[.string x.n,.bool x.x,.bool x.y,.string x.z] 115)).heap.size=wr.heap.size+1 from by simp] at hs1;obtain⟨HB2,d0,d1,d2,d3⟩:=eI;clear g1 hb1 c0 c1 c2 c3 HB1;cases hless:vM x.n.toList t.toList
   ·go_wp2_with fail;refine (HC.out _).mono ?_;rintro e w2 ⟨rfl,hb2⟩;obtain⟨HB3,hp⟩:=my;clear hb2;go_wp2_with fail;refine bodyPost_ret (v:=.tuple #[.int .i64 k,.bool (x.n.toList==t.toList)]) (by simp[results,Tryz.results171,go_sem]) rfl ⟨?_,HB3.out⟩;unfold hit;rw[hp,HX.out]
   ·exact mL
  ·obtain rfl:k=len:=af
   have hp:pl Kd.n xs t=xs.length:=gv (fun j y hy=>HE.out j y mo hy);have hh:hit Kd.n xs t=false:=by unfold hit;rw[hp,wG (vD _)]
   have HP:=aa hp;have HH:=aa hh;clear hp hh;go_wp2;exact bodyPost_ret (v:=.tuple #[.int .i64 k,.bool false]) (by simp[results,Tryz.results171,go_sem]) rfl ⟨by rw[HP.out,HH.out,hxl],HB.out⟩

def ng (xs:List Kd) (t:ByteArray) (_r w:World) (e:Ending) (w':World):Prop:=
 Below w.heap.size w w'/\((hit Kd.n xs t=true/\∃(x:Kd),xs[pl Kd.n xs t]?=some x/\x.n=t/\e=.returned (.tuple #[.agg #[.string x.n,.bool x.x,.bool x.y,.string x.z],.bool true])/\x.n.size<=9223372036854775807/\x.z.size<=9223372036854775807)\/(hit Kd.n xs t=false/\e=.returned (.tuple #[.agg #[.string ⟨#[]⟩,.bool false,.bool false,.string ⟨#[]⟩],.bool false])))

theorem lV (a:Option Addr) (len cap:Nat) (xs:List Kd) (t:ByteArray) (r w:World) (hr:aE r a len cap 4 (xs.map kdF)) (hrw:Below r.heap.size r w):
  Calls Tryz.prog 170 #[.slice a len cap,.string t] w (ng xs t r w):=by
 have HR:=aa hr;have HRW:=aa hrw;have hxl:xs.length=len:=dJ
 have HR1:=aa ((hr.below hrw).below (ai w (.cells #[.string ⟨#[]⟩,.bool false,.bool false,.string ⟨#[]⟩] 115)));clear hr hrw;go_enter Tryz.func170,Tryz.ntmps170;go_wp2_with fail;refine (jY a len cap xs t _ HR1.out).mono ?_;rintro e w1 ⟨rfl,hb⟩;obtain⟨g1,hb1,-⟩:=bZ hb;obtain⟨d0,f0,d1,f1,d2,f2,d3,f3⟩:=fI;have HB:=aa hb1;have hs1:=hb.size;rw[show (w.alloc (.cells #[.string ⟨#[]⟩,.bool false,.bool false,.string ⟨#[]⟩] 115)).heap.size=w.heap.size+1 from by simp] at hs1;have hlt1:w.heap.size<w1.heap.size:=af
 clear hb g1 HR1 hs1;cases hh:hit Kd.n xs t
 ·generalize pl Kd.n xs t=j;have HH:=aa hh;clear hh hb1 HR hxl;go_wp2;refine bodyPost_ret (v:=.tuple #[.agg #[.string ⟨#[]⟩,.bool false,.bool false,.string ⟨#[]⟩],.bool false]) (by simp[results,Tryz.results170,go_sem, *]) rfl ⟨?_,.inr ⟨HH.out,rfl⟩⟩;exact xn (ah (vD _) (ah (vD _) (ah (vD _) (ah (vD _) (HB.out))))) gV _
 ·obtain⟨x,hx,hn⟩:=eX hh;have hj:pl Kd.n xs t<len:=by have:=(vz.1 hx).1;omega
  obtain⟨b,o,y,rfl,hbl,hy,hat⟩:=eo HR.out hj;rw[hx] at hy;obtain rfl:=vC hy;obtain⟨z0,z3,c0,c1,c2,c3⟩:=bC hat;obtain⟨hbw,e0,e1,e2,e3⟩:=rr;have HI:Hid (ng xs t r w (.returned (.tuple #[.agg #[.string x.n,.bool x.x,.bool x.y,.string x.z],.bool true])) w):=⟨vG _ _,.inl ⟨hh,x,hx,hn,rfl,z0,z3⟩⟩;clear c0 c1 c2 c3 hat hx hn hy hh z0 z3 HR HRW hb1;obtain⟨j,hjj⟩:∃j,pl Kd.n xs t=j:=⟨_,rfl⟩;rw[hjj] at hj;simp only[hjj] at*;clear hjj;go_wp2;refine bodyPost_ret (v:=.tuple #[.agg #[.string x.n,.bool x.x,.bool x.y,.string x.z],.bool true]) (by simp[results,Tryz.results170,go_sem, *]) rfl ⟨?_,HI.2⟩;exact ah (vD _) (ah (vD _) (ah (vD _) (ah (vD _) (HB.out))))

theorem nk (d:Ad) (now:Int) (xs:List Kd) (t:ByteArray) (r w:World) (hr:aE r d.a2 d.l2 d.c2 4 (xs.map kdF)) (hrw:Below r.heap.size r w):
  Calls Tryz.prog 166 #[.agg #[.slice d.a1 d.l1 d.c1,.slice d.a2 d.l2 d.c2,.slice d.a3 d.l3 d.c3,.slice d.a4 d.l4 d.c4,.slice d.a5 d.l5 d.c5,.int .i64 now],.string t] w (ng xs t r w):=by
 have HR:=aa hr;have HRW:=aa (hrw.trans ((aD w (.cells (clv d now) 36) (.cells #[.string ⟨#[]⟩,.bool false,.bool false,.string ⟨#[]⟩] 115)).mono hrw.size));clear hr hrw;go_enter Tryz.func166,Tryz.ntmps166;go_wp2_with fail;refine (lV _ _ _ xs t r _ HR.out HRW.out).mono ?_;rintro e w1 ⟨hb,hf⟩;have g1:=(hb.block (w.heap.size+1) aW).trans (bV _ _ _);obtain⟨d0,f0,d1,f1,d2,f2,d3,f3⟩:=fI;have HB:Hid (Below w.heap.size w w1):=(aD _ _ _).trans (hb.mono bU);clear g1 hb HR HRW;rcases hf with ⟨hh,x,hx,hn,rfl,z0,z3⟩|⟨hh,rfl⟩
 ·have HI:Hid (ng xs t r w (.returned (.tuple #[.agg #[.string x.n,.bool x.x,.bool x.y,.string x.z],.bool true])) w):=⟨vG _ _,.inl ⟨hh,x,hx,hn,rfl,z0,z3⟩⟩;clear hx hn hh z0 z3;go_wp2;refine bodyPost_ret (v:=.tuple #[.agg #[.string x.n,.bool x.x,.bool x.y,.string x.z],.bool true]) (by simp[results,Tryz.results166,go_sem, *]) rfl ⟨?_,HI.2⟩;exact pT
 ·have HH:=aa hh;clear hh;go_wp2;refine bodyPost_ret (v:=.tuple #[.agg #[.string ⟨#[]⟩,.bool false,.bool false,.string ⟨#[]⟩],.bool false]) (by simp[results,Tryz.results166,go_sem, *]) rfl ⟨?_,.inr ⟨HH.out,rfl⟩⟩;exact pT

theorem kL (a:Option Addr) (len cap:Nat) (xs:List Kd) (most:Int) (w:World) (hr:aE w a len cap 4 (xs.map kdF)):
  Calls Tryz.prog 150 #[.slice a len cap,.int .i64 most] w (al (c8 lx Kd.n xs most) w):=by
 obtain⟨HR,hxl,hlc⟩:=eJ;clear hr;have hmcalled:∀(v:Value) (w:World),(method 356 115 v "loop.example/g00571/impl.called").run Tryz.prog w=.ok (203,v) w:=fun _ _=>by kernel_rfl
 have hmright:∀(v:Value) (w:World),(method 356 115 v "loop.example/g00571/impl.right").run Tryz.prog w=.ok (204,v) w:=fun _ _=>by kernel_rfl
 by_cases hmo:most<(len:Int)
 ·go_enter Tryz.func150,Tryz.ntmps150;exact jI
 go_enter Tryz.func150,Tryz.ntmps150;go_wp2;go_loopw [5,14] (fun q i wr=> ∃(k:Nat) (y:ByteArray),k<=len/\q=.string y/\i=.int .i64 k/\Hid (k=0->y=⟨#[]⟩)/\Hid (∀z,0<k->xs[k - 1]?=some z->z.n=y)/\Hid (∀(j:Nat) z,j<k->xs[j]?=some z->lx z)/\Hid (∀(j:Nat) z u,j+1<k->xs[j+1]?=some z->xs[j]?=some u->vM u.n.toList z.n.toList=true)/\Hid (Below w.heap.size w wr)) (fun _ i _=>len - (intOf i).toNat);case atStart=>exact⟨0,_,by omega,rfl,rfl,fun _=>rfl,fun _ h=>absurd h af,fun _ _ h=>absurd h af,fun _ _ _ h=>absurd h af,vG _ _⟩
 case round=>
  obtain⟨k,y,hk,rfl,rfl,H0,H1,HE,HO,HB⟩:=hrel;by_cases hlt:k<len
  ·obtain⟨b,o,x,rfl,hb,hx,hat⟩:=eo (HR.below HB.out) hlt;obtain⟨z0,z3,c0,c1,c2,c3⟩:=bC hat;have HX:=aa hx;have HC:=aa (fun v:World=>fg x v);have HB1:=aa (HB.alloc HB.size (.cells #[.string x.n,.bool x.x,.bool x.y,.string x.z] 115));have HRt:=aa (jj x (wr.alloc (.cells #[.string x.n,.bool x.x,.bool x.y,.string x.z] 115)) z0 z3);clear hat hx z0 z3;go_wp2_with fail;refine HRt.mono ?_;rintro e w1 ⟨r,rfl,hrt,hb1⟩;obtain⟨g1,-,-⟩:=bZ hb1;have hs1:=hb1.size;rw[show (wr.alloc (.cells #[.string x.n,.bool x.x,.bool x.y,.string x.z] 115)).heap.size=wr.heap.size+1 from by simp] at hs1;obtain⟨HB2,d0,d1,d2,d3⟩:=eI;have HG:=aa g1;have HI:=aa hrt;clear g1 hb1 HB1 HRt hrt c0 c1 c2 c3;cases r
   ·exact jL
   have HOK:=aa (HI.1 rfl);clear HI;go_wp2_with fail;refine (HC.out _).mono ?_;rintro e w2 ⟨rfl,hb2⟩;obtain⟨HB3,g2,hs2,htri⟩:=jE;clear HG hb2 HB2 d0 d1 d2 d3;have d0:=ck0 g2;have d1:=ck1 g2;have d2:=ck2 g2;have d3:=ck3 g2;clear g2;cases hless:vM y.toList x.n.toList
   ·exact oL
   ·rw[hless] at htri;go_wp2_with fail;refine (HC.out _).mono ?_;rintro e w3 ⟨rfl,hb3⟩;have HB4:=aa (HB3.trans (hb3.mono (vI HB.size af)));clear hb3 d0 d1 d2 d3;exact oU
  ·exact jU

def vg (xs:List Kd) (t:ByteArray) (w:World) (e:Ending) (w':World):Prop:=
 Below w.heap.size w w'/\((∃(j:Nat) (x:Kd),xs[j]?=some x/\x.n=t/\e=.returned (.int .i64 j))\/((∀(j:Nat) x,xs[j]?=some x->¬x.n=t)/\e=.returned (.int .i64 (-1))))

theorem i_ (d:Ad) (now:Int) (xs:List Kd) (t:ByteArray) (w:World) (hr:aE w d.a2 d.l2 d.c2 4 (xs.map kdF)):
  Calls Tryz.prog 129 #[.agg #[.slice d.a1 d.l1 d.c1,.slice d.a2 d.l2 d.c2,.slice d.a3 d.l3 d.c3,.slice d.a4 d.l4 d.c4,.slice d.a5 d.l5 d.c5,.int .i64 now],.string t] w (vg xs t w):=by
 have HR:=aa hr;have hxl:xs.length=d.l2:=dJ
 have hlc:=vI hr.2.1 hr.2.2.1;clear hr;go_enter Tryz.func129,Tryz.ntmps129;go_wp2;go_loopw [5] (fun i wr=> ∃k:Nat,k<=d.l2/\i=.int .i64 k/\wr=w.alloc (.cells #[.slice d.a1 d.l1 d.c1,.slice d.a2 d.l2 d.c2,.slice d.a3 d.l3 d.c3,.slice d.a4 d.l4 d.c4,.slice d.a5 d.l5 d.c5,.int .i64 now] 36)/\Hid (∀(j:Nat) z,j<k->xs[j]?=some z->¬z.n=t)) (fun i _=>d.l2 - (intOf i).toNat);case atStart=>exact⟨0,by omega,rfl,rfl,fun _ _ h=>absurd h af⟩
 case round=>
  obtain⟨k,hk,rfl,rfl,HE⟩:=hrel;by_cases hlt:k<d.l2
  ·obtain⟨b,o,x,ha,hb,hx,hat⟩:=eo HR.out hlt;obtain⟨-,-,c0,-,-,-⟩:=bC hat;have HX:=aa hx;clear hat hx;exact mM
  ·obtain rfl:k=d.l2:=af
   exact mI

theorem ff (x:Vd) (va:Option Addr) (vl vc:Nat) (w:World):
  Calls Tryz.prog 194 #[.agg #[.string x.n,.int .i64 x.c,.string x.z,.string x.k,.bool x.x,.string x.m,.bool x.y,.slice va vl vc]] w fun e w'=>e=.returned (.string x.n)/\Below w.heap.size w w':=by
 go_enter Tryz.func194,Tryz.ntmps194;go_wp2;go_ret;exact⟨rfl,ai _ _⟩

theorem jg (x:Vd) (va:Option Addr) (vl vc:Nat) (w:World) (hn:x.n.size<=9223372036854775807) (hz:x.z.size<=9223372036854775807) (hk:x.k.size<=9223372036854775807) (hm:x.m.size<=9223372036854775807) (hr:av w va vl vc x.zs):
  Calls Tryz.prog 195 #[.agg #[.string x.n,.int .i64 x.c,.string x.z,.string x.k,.bool x.x,.string x.m,.bool x.y,.slice va vl vc]] w (al (kt x) w):=by
 have HR:=aa (hr.below (ai w (.cells (vov x va vl vc) 105)));clear hr;go_enter Tryz.func195,Tryz.ntmps195;go_wp2_with fail;refine (qE x.n x.c x.z x.k x.x x.m x.y va vl vc x.zs _ hn hz hk hm HR.out).mono ?_;exact jP

theorem jX (a:Option Addr) (len cap:Nat) (xs:List Vd) (t:ByteArray) (w:World) (hr:aE w a len cap 8 (xs.map vdF)):
  Calls Tryz.prog 169 #[.slice a len cap,.string t] w fun e w'=>e=.returned (.tuple #[.int .i64 (pl Vd.n xs t:Nat),.bool (hit Vd.n xs t)])/\Below w.heap.size w w':=by
 obtain⟨HR,hxl,hlc⟩:=eJ;clear hr;have hmcalled:∀(v:Value) (w:World),(method 356 105 v "loop.example/g00571/impl.called").run Tryz.prog w=.ok (194,v) w:=fun _ _=>by kernel_rfl
 go_enter Tryz.func169,Tryz.ntmps169;go_wp2;go_loopw [10] (fun i wr=> ∃k:Nat,k<=len/\i=.int .i64 k/\Hid (∀(j:Nat) y,j<k->xs[j]?=some y->vM y.n.toList t.toList=true)/\Hid (Below w.heap.size w wr)) (fun i _=>len - (intOf i).toNat);case atStart=>exact⟨0,by omega,rfl,fun j y hj=>by omega,vG _ _⟩
 case round=>
  obtain⟨k,hk,rfl,HE,HB⟩:=hrel;by_cases hlt:k<len
  ·obtain⟨b,o,x,rfl,hb,hx,hat⟩:=bo (HR.below HB.out) hlt;obtain⟨va,vl,vc,hvr,z0,z2,z3,z5,c0,c1,c2,c3,c4,c5,c6,c7⟩:=aF hat;have HX:=aa hx;clear hat hx z0 z2 z3 z5 hvr;have HC:=aa (fun v:World=>ff x va vl vc v);have HB1:=aa (HB.alloc HB.size (.cells (vov x va vl vc) 105));go_wp2_with fail;refine (HC.out _).mono ?_;rintro e w1 ⟨rfl,hb1⟩;obtain⟨g1,-,-⟩:=bZ hb1;have hs1:=hb1.size;rw[show (wr.alloc (.cells (vov x va vl vc) 105)).heap.size=wr.heap.size+1 from by simp] at hs1;obtain⟨HB2,d0,d1,d2,d3⟩:=eI;have d4:=ck4 g1;have d5:=ck5 g1;have d6:=ck6 g1;have d7:=ck7 g1;clear g1 hb1 c0 c1 c2 c3 c4 c5 c6 c7 HB1;cases hless:vM x.n.toList t.toList
   ·go_wp2_with fail;refine (HC.out _).mono ?_;rintro e w2 ⟨rfl,hb2⟩;obtain⟨HB3,hp⟩:=my;clear hb2;go_wp2_with fail;refine bodyPost_ret (v:=.tuple #[.int .i64 k,.bool (x.n.toList==t.toList)]) (by simp[results,Tryz.results169,go_sem]) rfl ⟨?_,HB3.out⟩;unfold hit;rw[hp,HX.out]
   ·exact mL
  ·obtain rfl:k=len:=af
   have hp:pl Vd.n xs t=xs.length:=gv (fun j y hy=>HE.out j y mo hy);have hh:hit Vd.n xs t=false:=by unfold hit;rw[hp,wG (vD _)]
   have HP:=aa hp;have HH:=aa hh;clear hp hh;go_wp2;exact bodyPost_ret (v:=.tuple #[.int .i64 k,.bool false]) (by simp[results,Tryz.results169,go_sem]) rfl ⟨by rw[HP.out,HH.out,hxl],HB.out⟩

def nd (xs:List Vd) (t:ByteArray) (r w:World) (e:Ending) (w':World):Prop:=
 Below w.heap.size w w'/\((hit Vd.n xs t=true/\∃(x:Vd) (va:Option Addr) (vl vc:Nat),xs[pl Vd.n xs t]?=some x/\x.n=t/\e=.returned (.tuple #[.agg #[.string x.n,.int .i64 x.c,.string x.z,.string x.k,.bool x.x,.string x.m,.bool x.y,.slice va vl vc],.bool true])/\x.n.size<=9223372036854775807/\x.z.size<=9223372036854775807/\x.k.size<=9223372036854775807/\x.m.size<=9223372036854775807/\av r va vl vc x.zs)\/(hit Vd.n xs t=false/\e=.returned (.tuple #[.agg #[.string ⟨#[]⟩,.int .i64 0,.string ⟨#[]⟩,.string ⟨#[]⟩,.bool false,.string ⟨#[]⟩,.bool false,.slice none 0 0],.bool false])))

theorem lT (a:Option Addr) (len cap:Nat) (xs:List Vd) (t:ByteArray) (r w:World) (hr:aE r a len cap 8 (xs.map vdF)) (hrw:Below r.heap.size r w):
  Calls Tryz.prog 165 #[.slice a len cap,.string t] w (nd xs t r w):=by
 have HR:=aa hr;have HRW:=aa hrw;have hxl:xs.length=len:=dJ
 have HR1:=aa ((hr.below hrw).below (ai w (.cells #[.string ⟨#[]⟩,.int .i64 0,.string ⟨#[]⟩,.string ⟨#[]⟩,.bool false,.string ⟨#[]⟩,.bool false,.slice none 0 0] 105)));clear hr hrw;go_enter Tryz.func165,Tryz.ntmps165;go_wp2_with fail;refine (jX a len cap xs t _ HR1.out).mono ?_;rintro e w1 ⟨rfl,hb⟩;obtain⟨g1,hb1,-⟩:=bZ hb;obtain⟨d0,f0,d1,f1,d2,f2,d3,f3⟩:=fI;obtain⟨d4,f4,d5,f5,d6,f6⟩:=mw;have d7:=ck7 g1;have f7:=ar g1 7;have HB:=aa hb1;have hs1:=hb.size;rw[show (w.alloc (.cells #[.string ⟨#[]⟩,.int .i64 0,.string ⟨#[]⟩,.string ⟨#[]⟩,.bool false,.string ⟨#[]⟩,.bool false,.slice none 0 0] 105)).heap.size=w.heap.size+1 from by simp] at hs1;have hlt1:w.heap.size<w1.heap.size:=af
 clear hb g1 HR1 hs1;cases hh:hit Vd.n xs t
 ·generalize pl Vd.n xs t=j;have HH:=aa hh;clear hh hb1 HR hxl;go_wp2;refine bodyPost_ret (v:=.tuple #[.agg #[.string ⟨#[]⟩,.int .i64 0,.string ⟨#[]⟩,.string ⟨#[]⟩,.bool false,.string ⟨#[]⟩,.bool false,.slice none 0 0],.bool false]) (by simp[results,Tryz.results165,go_sem, *]) rfl ⟨?_,.inr ⟨HH.out,rfl⟩⟩;exact xn (ah (vD _) (ah (vD _) (ah (vD _) (ah (vD _) (ah (vD _) (ah (vD _) (ah (vD _) (ah (vD _) (HB.out))))))))) gV _
 ·obtain⟨x,hx,hn⟩:=eX hh;have hj:pl Vd.n xs t<len:=by have:=(vz.1 hx).1;omega
  obtain⟨b,o,y,rfl,hbl,hy,hat⟩:=bo HR.out hj;rw[hx] at hy;obtain rfl:=vC hy;obtain⟨va,vl,vc,hvr,z0,z2,z3,z5,c0,c1,c2,c3,c4,c5,c6,c7⟩:=aF hat;obtain⟨hbw,e0,e1,e2,e3⟩:=rr;obtain⟨e4,e5,e6⟩:=sd;have e7:=(aj hb1 hbw).trans ((aj HRW.out hbl).trans c7);have HI:Hid (nd xs t r w (.returned (.tuple #[.agg #[.string x.n,.int .i64 x.c,.string x.z,.string x.k,.bool x.x,.string x.m,.bool x.y,.slice va vl vc],.bool true])) w):=⟨vG _ _,.inl ⟨hh,x,va,vl,vc,hx,hn,rfl,z0,z2,z3,z5,hvr⟩⟩;clear c0 c1 c2 c3 c4 c5 c6 c7 hat hx hn hy hh z0 z2 z3 z5 hvr HR HRW hb1;obtain⟨j,hjj⟩:∃j,pl Vd.n xs t=j:=⟨_,rfl⟩;rw[hjj] at hj;simp only[hjj] at*;clear hjj;go_wp2;refine bodyPost_ret (v:=.tuple #[.agg #[.string x.n,.int .i64 x.c,.string x.z,.string x.k,.bool x.x,.string x.m,.bool x.y,.slice va vl vc],.bool true]) (by simp[results,Tryz.results165,go_sem, *]) rfl ⟨?_,HI.2⟩;exact ah (vD _) (ah (vD _) (ah (vD _) (ah (vD _) (ah (vD _) (ah (vD _) (ah (vD _) (ah (vD _) (HB.out))))))))

theorem dp (d:Ad) (now:Int) (xs:List Vd) (t:ByteArray) (r w:World) (hr:aE r d.a3 d.l3 d.c3 8 (xs.map vdF)) (hrw:Below r.heap.size r w):
  Calls Tryz.prog 143 #[.agg #[.slice d.a1 d.l1 d.c1,.slice d.a2 d.l2 d.c2,.slice d.a3 d.l3 d.c3,.slice d.a4 d.l4 d.c4,.slice d.a5 d.l5 d.c5,.int .i64 now],.string t] w (nd xs t r w):=by
 have HR:=aa hr;have HRW:=aa (hrw.trans ((aD w (.cells (clv d now) 36) (.cells #[.string ⟨#[]⟩,.int .i64 0,.string ⟨#[]⟩,.string ⟨#[]⟩,.bool false,.string ⟨#[]⟩,.bool false,.slice none 0 0] 105)).mono hrw.size));clear hr hrw;go_enter Tryz.func143,Tryz.ntmps143;go_wp2_with fail;refine (lT _ _ _ xs t r _ HR.out HRW.out).mono ?_;rintro e w1 ⟨hb,hf⟩;have g1:=(hb.block (w.heap.size+1) aW).trans (bV _ _ _);obtain⟨d0,f0,d1,f1,d2,f2,d3,f3⟩:=fI;obtain⟨d4,f4,d5,f5,d6,f6⟩:=mw;have d7:=ck7 g1;have f7:=ar g1 7;have HB:Hid (Below w.heap.size w w1):=(aD _ _ _).trans (hb.mono bU);clear g1 hb HR HRW;rcases hf with ⟨hh,x,va,vl,vc,hx,hn,rfl,z0,z2,z3,z5,hvr⟩|⟨hh,rfl⟩
 ·have HI:Hid (nd xs t r w (.returned (.tuple #[.agg #[.string x.n,.int .i64 x.c,.string x.z,.string x.k,.bool x.x,.string x.m,.bool x.y,.slice va vl vc],.bool true])) w):=⟨vG _ _,.inl ⟨hh,x,va,vl,vc,hx,hn,rfl,z0,z2,z3,z5,hvr⟩⟩;clear hx hn hh z0 z2 z3 z5 hvr;go_wp2;refine bodyPost_ret (v:=.tuple #[.agg #[.string x.n,.int .i64 x.c,.string x.z,.string x.k,.bool x.x,.string x.m,.bool x.y,.slice va vl vc],.bool true]) (by simp[results,Tryz.results143,go_sem, *]) rfl ⟨?_,HI.2⟩;exact sP
 ·have HH:=aa hh;clear hh;go_wp2;refine bodyPost_ret (v:=.tuple #[.agg #[.string ⟨#[]⟩,.int .i64 0,.string ⟨#[]⟩,.string ⟨#[]⟩,.bool false,.string ⟨#[]⟩,.bool false,.slice none 0 0],.bool false]) (by simp[results,Tryz.results143,go_sem, *]) rfl ⟨?_,.inr ⟨HH.out,rfl⟩⟩;exact sP

theorem kI (a:Option Addr) (len cap:Nat) (xs:List Vd) (most:Int) (w:World) (hr:aE w a len cap 8 (xs.map vdF)):
  Calls Tryz.prog 151 #[.slice a len cap,.int .i64 most] w (al (c8 kt Vd.n xs most) w):=by
 obtain⟨HR,hxl,hlc⟩:=eJ;clear hr;have hmcalled:∀(v:Value) (w:World),(method 356 105 v "loop.example/g00571/impl.called").run Tryz.prog w=.ok (194,v) w:=fun _ _=>by kernel_rfl
 have hmright:∀(v:Value) (w:World),(method 356 105 v "loop.example/g00571/impl.right").run Tryz.prog w=.ok (195,v) w:=fun _ _=>by kernel_rfl
 by_cases hmo:most<(len:Int)
 ·go_enter Tryz.func151,Tryz.ntmps151;exact jI
 go_enter Tryz.func151,Tryz.ntmps151;go_wp2;go_loopw [5,14] (fun q i wr=> ∃(k:Nat) (y:ByteArray),k<=len/\q=.string y/\i=.int .i64 k/\Hid (k=0->y=⟨#[]⟩)/\Hid (∀z,0<k->xs[k - 1]?=some z->z.n=y)/\Hid (∀(j:Nat) z,j<k->xs[j]?=some z->kt z)/\Hid (∀(j:Nat) z u,j+1<k->xs[j+1]?=some z->xs[j]?=some u->vM u.n.toList z.n.toList=true)/\Hid (Below w.heap.size w wr)) (fun _ i _=>len - (intOf i).toNat);case atStart=>exact⟨0,_,by omega,rfl,rfl,fun _=>rfl,fun _ h=>absurd h af,fun _ _ h=>absurd h af,fun _ _ _ h=>absurd h af,vG _ _⟩
 case round=>
  obtain⟨k,y,hk,rfl,rfl,H0,H1,HE,HO,HB⟩:=hrel;by_cases hlt:k<len
  ·obtain⟨b,o,x,rfl,hb,hx,hat⟩:=bo (HR.below HB.out) hlt;obtain⟨va,vl,vc,hvr,z0,z2,z3,z5,c0,c1,c2,c3,c4,c5,c6,c7⟩:=aF hat;have HX:=aa hx;have HC:=aa (fun v:World=>ff x va vl vc v);have HB1:=aa (HB.alloc HB.size (.cells (vov x va vl vc) 105));have HRt:=aa (jg x va vl vc (wr.alloc (.cells (vov x va vl vc) 105)) z0 z2 z3 z5 (hvr.below (ai _ _)));clear hat hx z0 z2 z3 z5 hvr;go_wp2_with fail;refine HRt.mono ?_;rintro e w1 ⟨r,rfl,hrt,hb1⟩;obtain⟨g1,-,-⟩:=bZ hb1;have hs1:=hb1.size;rw[show (wr.alloc (.cells (vov x va vl vc) 105)).heap.size=wr.heap.size+1 from by simp] at hs1;obtain⟨HB2,d0,d1,d2,d3⟩:=eI;have d4:=ck4 g1;have d5:=ck5 g1;have d6:=ck6 g1;have d7:=ck7 g1;have HG:=aa g1;have HI:=aa hrt;clear g1 hb1 HB1 HRt hrt c0 c1 c2 c3 c4 c5 c6 c7;cases r
   ·exact jL
   have HOK:=aa (HI.1 rfl);clear HI;go_wp2_with fail;refine (HC.out _).mono ?_;rintro e w2 ⟨rfl,hb2⟩;obtain⟨HB3,g2,hs2,htri⟩:=jE;clear HG hb2 HB2 d0 d1 d2 d3 d4 d5 d6 d7;have d0:=ck0 g2;have d1:=ck1 g2;have d2:=ck2 g2;have d3:=ck3 g2;have d4:=ck4 g2;have d5:=ck5 g2;have d6:=ck6 g2;have d7:=ck7 g2;clear g2;cases hless:vM y.toList x.n.toList
   ·exact oL
   ·rw[hless] at htri;go_wp2_with fail;refine (HC.out _).mono ?_;rintro e w3 ⟨rfl,hb3⟩;have HB4:=aa (HB3.trans (hb3.mono (vI HB.size af)));clear hb3 d0 d1 d2 d3 d4 d5 d6 d7;exact oU
  ·exact jU

def ve (xs:List Vd) (t:ByteArray) (w:World) (e:Ending) (w':World):Prop:=
 Below w.heap.size w w'/\((∃(j:Nat) (x:Vd),xs[j]?=some x/\x.n=t/\e=.returned (.int .i64 j))\/((∀(j:Nat) x,xs[j]?=some x->¬x.n=t)/\e=.returned (.int .i64 (-1))))

theorem fY (d:Ad) (now:Int) (xs:List Vd) (t:ByteArray) (w:World) (hr:aE w d.a3 d.l3 d.c3 8 (xs.map vdF)):
  Calls Tryz.prog 56 #[.agg #[.slice d.a1 d.l1 d.c1,.slice d.a2 d.l2 d.c2,.slice d.a3 d.l3 d.c3,.slice d.a4 d.l4 d.c4,.slice d.a5 d.l5 d.c5,.int .i64 now],.string t] w (ve xs t w):=by
 have HR:=aa hr;have hxl:xs.length=d.l3:=dJ
 have hlc:=vI hr.2.1 hr.2.2.1;clear hr;go_enter Tryz.func56,Tryz.ntmps56;go_wp2;go_loopw [5] (fun i wr=> ∃k:Nat,k<=d.l3/\i=.int .i64 k/\wr=w.alloc (.cells #[.slice d.a1 d.l1 d.c1,.slice d.a2 d.l2 d.c2,.slice d.a3 d.l3 d.c3,.slice d.a4 d.l4 d.c4,.slice d.a5 d.l5 d.c5,.int .i64 now] 36)/\Hid (∀(j:Nat) z,j<k->xs[j]?=some z->¬z.n=t)) (fun i _=>d.l3 - (intOf i).toNat);case atStart=>exact⟨0,by omega,rfl,rfl,fun _ _ h=>absurd h af⟩
 case round=>
  obtain⟨k,hk,rfl,rfl,HE⟩:=hrel;by_cases hlt:k<d.l3
  ·obtain⟨b,o,x,ha,hb,hx,hat⟩:=bo HR.out hlt;obtain⟨va,vl,vc,hvr,-,-,-,-,c0,-,-,-,-,-,-,-⟩:=aF hat;have HX:=aa hx;clear hat hx hvr;exact mM
  ·obtain rfl:k=d.l3:=af
   exact mI

theorem fe (x:Xd)  (w:World):
  Calls Tryz.prog 206 #[.agg #[.string x.n,.int .i64 x.z,.string x.k,.bool x.x,.string x.v]] w fun e w'=>e=.returned (.string x.n)/\Below w.heap.size w w':=by
 go_enter Tryz.func206,Tryz.ntmps206;go_wp2;go_ret;exact⟨rfl,ai _ _⟩

theorem jf (x:Xd)  (w:World) (hn:x.n.size<=9223372036854775807) (hk:x.k.size<=9223372036854775807) (hv:x.v.size<=9223372036854775807):
  Calls Tryz.prog 207 #[.agg #[.string x.n,.int .i64 x.z,.string x.k,.bool x.x,.string x.v]] w (al (km x) w):=by
 skip;skip;go_enter Tryz.func207,Tryz.ntmps207;go_wp2_with fail;refine (lK x.n x.z x.k x.x x.v _ hn hk hv).mono ?_;exact jP

theorem jW (a:Option Addr) (len cap:Nat) (xs:List Xd) (t:ByteArray) (w:World) (hr:aE w a len cap 5 (xs.map xdF)):
  Calls Tryz.prog 168 #[.slice a len cap,.string t] w fun e w'=>e=.returned (.tuple #[.int .i64 (pl Xd.n xs t:Nat),.bool (hit Xd.n xs t)])/\Below w.heap.size w w':=by
 obtain⟨HR,hxl,hlc⟩:=eJ;clear hr;have hmcalled:∀(v:Value) (w:World),(method 356 118 v "loop.example/g00571/impl.called").run Tryz.prog w=.ok (206,v) w:=fun _ _=>by kernel_rfl
 go_enter Tryz.func168,Tryz.ntmps168;go_wp2;go_loopw [10] (fun i wr=> ∃k:Nat,k<=len/\i=.int .i64 k/\Hid (∀(j:Nat) y,j<k->xs[j]?=some y->vM y.n.toList t.toList=true)/\Hid (Below w.heap.size w wr)) (fun i _=>len - (intOf i).toNat);case atStart=>exact⟨0,by omega,rfl,fun j y hj=>by omega,vG _ _⟩
 case round=>
  obtain⟨k,hk,rfl,HE,HB⟩:=hrel;by_cases hlt:k<len
  ·obtain⟨b,o,x,rfl,hb,hx,hat⟩:=da (HR.below HB.out) hlt;obtain⟨z0,z2,z4,c0,c1,c2,c3,c4⟩:=ba hat;have HX:=aa hx;clear hat hx z0 z2 z4;have HC:=aa (fun v:World=>fe x v);have HB1:=aa (HB.alloc HB.size (.cells (xov x) 118));go_wp2_with fail;refine (HC.out _).mono ?_;rintro e w1 ⟨rfl,hb1⟩;obtain⟨g1,-,-⟩:=bZ hb1;have hs1:=hb1.size;rw[show (wr.alloc (.cells (xov x) 118)).heap.size=wr.heap.size+1 from by simp] at hs1;obtain⟨HB2,d0,d1,d2,d3⟩:=eI;have d4:=ck4 g1;clear g1 hb1 c0 c1 c2 c3 c4 HB1;cases hless:vM x.n.toList t.toList
   ·go_wp2_with fail;refine (HC.out _).mono ?_;rintro e w2 ⟨rfl,hb2⟩;obtain⟨HB3,hp⟩:=my;clear hb2;go_wp2_with fail;refine bodyPost_ret (v:=.tuple #[.int .i64 k,.bool (x.n.toList==t.toList)]) (by simp[results,Tryz.results168,go_sem]) rfl ⟨?_,HB3.out⟩;unfold hit;rw[hp,HX.out]
   ·exact mL
  ·obtain rfl:k=len:=af
   have hp:pl Xd.n xs t=xs.length:=gv (fun j y hy=>HE.out j y mo hy);have hh:hit Xd.n xs t=false:=by unfold hit;rw[hp,wG (vD _)]
   have HP:=aa hp;have HH:=aa hh;clear hp hh;go_wp2;exact bodyPost_ret (v:=.tuple #[.int .i64 k,.bool false]) (by simp[results,Tryz.results168,go_sem]) rfl ⟨by rw[HP.out,HH.out,hxl],HB.out⟩

def m_ (xs:List Xd) (t:ByteArray) (_r w:World) (e:Ending) (w':World):Prop:=
 Below w.heap.size w w'/\((hit Xd.n xs t=true/\∃(x:Xd),xs[pl Xd.n xs t]?=some x/\x.n=t/\e=.returned (.tuple #[.agg #[.string x.n,.int .i64 x.z,.string x.k,.bool x.x,.string x.v],.bool true])/\x.n.size<=9223372036854775807/\x.k.size<=9223372036854775807/\x.v.size<=9223372036854775807)\/(hit Xd.n xs t=false/\e=.returned (.tuple #[.agg #[.string ⟨#[]⟩,.int .i64 0,.string ⟨#[]⟩,.bool false,.string ⟨#[]⟩],.bool false])))

theorem lS (a:Option Addr) (len cap:Nat) (xs:List Xd) (t:ByteArray) (r w:World) (hr:aE r a len cap 5 (xs.map xdF)) (hrw:Below r.heap.size r w):
  Calls Tryz.prog 164 #[.slice a len cap,.string t] w (m_ xs t r w):=by
 have HR:=aa hr;have HRW:=aa hrw;have hxl:xs.length=len:=dJ
 have HR1:=aa ((hr.below hrw).below (ai w (.cells #[.string ⟨#[]⟩,.int .i64 0,.string ⟨#[]⟩,.bool false,.string ⟨#[]⟩] 118)));clear hr hrw;go_enter Tryz.func164,Tryz.ntmps164;go_wp2_with fail;refine (jW a len cap xs t _ HR1.out).mono ?_;rintro e w1 ⟨rfl,hb⟩;obtain⟨g1,hb1,-⟩:=bZ hb;obtain⟨d0,f0,d1,f1,d2,f2,d3,f3⟩:=fI;have d4:=ck4 g1;have f4:=ar g1 4;have HB:=aa hb1;have hs1:=hb.size;rw[show (w.alloc (.cells #[.string ⟨#[]⟩,.int .i64 0,.string ⟨#[]⟩,.bool false,.string ⟨#[]⟩] 118)).heap.size=w.heap.size+1 from by simp] at hs1;have hlt1:w.heap.size<w1.heap.size:=af
 clear hb g1 HR1 hs1;cases hh:hit Xd.n xs t
 ·generalize pl Xd.n xs t=j;have HH:=aa hh;clear hh hb1 HR hxl;go_wp2;refine bodyPost_ret (v:=.tuple #[.agg #[.string ⟨#[]⟩,.int .i64 0,.string ⟨#[]⟩,.bool false,.string ⟨#[]⟩],.bool false]) (by simp[results,Tryz.results164,go_sem, *]) rfl ⟨?_,.inr ⟨HH.out,rfl⟩⟩;exact xn (ah (vD _) (ah (vD _) (ah (vD _) (ah (vD _) (ah (vD _) (HB.out)))))) gV _
 ·obtain⟨x,hx,hn⟩:=eX hh;have hj:pl Xd.n xs t<len:=by have:=(vz.1 hx).1;omega
  obtain⟨b,o,y,rfl,hbl,hy,hat⟩:=da HR.out hj;rw[hx] at hy;obtain rfl:=vC hy;obtain⟨z0,z2,z4,c0,c1,c2,c3,c4⟩:=ba hat;obtain⟨hbw,e0,e1,e2,e3⟩:=rr;have e4:=(aj hb1 hbw).trans ((aj HRW.out hbl).trans c4);have HI:Hid (m_ xs t r w (.returned (.tuple #[.agg #[.string x.n,.int .i64 x.z,.string x.k,.bool x.x,.string x.v],.bool true])) w):=⟨vG _ _,.inl ⟨hh,x,hx,hn,rfl,z0,z2,z4⟩⟩;clear c0 c1 c2 c3 c4 hat hx hn hy hh z0 z2 z4 HR HRW hb1;obtain⟨j,hjj⟩:∃j,pl Xd.n xs t=j:=⟨_,rfl⟩;rw[hjj] at hj;simp only[hjj] at*;clear hjj;go_wp2;refine bodyPost_ret (v:=.tuple #[.agg #[.string x.n,.int .i64 x.z,.string x.k,.bool x.x,.string x.v],.bool true]) (by simp[results,Tryz.results164,go_sem, *]) rfl ⟨?_,HI.2⟩;exact ah (vD _) (ah (vD _) (ah (vD _) (ah (vD _) (ah (vD _) (HB.out)))))

theorem fi (d:Ad) (now:Int) (xs:List Xd) (t:ByteArray) (r w:World) (hr:aE r d.a4 d.l4 d.c4 5 (xs.map xdF)) (hrw:Below r.heap.size r w):
  Calls Tryz.prog 142 #[.agg #[.slice d.a1 d.l1 d.c1,.slice d.a2 d.l2 d.c2,.slice d.a3 d.l3 d.c3,.slice d.a4 d.l4 d.c4,.slice d.a5 d.l5 d.c5,.int .i64 now],.string t] w (m_ xs t r w):=by
 have HR:=aa hr;have HRW:=aa (hrw.trans ((aD w (.cells (clv d now) 36) (.cells #[.string ⟨#[]⟩,.int .i64 0,.string ⟨#[]⟩,.bool false,.string ⟨#[]⟩] 118)).mono hrw.size));clear hr hrw;go_enter Tryz.func142,Tryz.ntmps142;go_wp2_with fail;refine (lS _ _ _ xs t r _ HR.out HRW.out).mono ?_;rintro e w1 ⟨hb,hf⟩;have g1:=(hb.block (w.heap.size+1) aW).trans (bV _ _ _);obtain⟨d0,f0,d1,f1,d2,f2,d3,f3⟩:=fI;have d4:=ck4 g1;have f4:=ar g1 4;have HB:Hid (Below w.heap.size w w1):=(aD _ _ _).trans (hb.mono bU);clear g1 hb HR HRW;rcases hf with ⟨hh,x,hx,hn,rfl,z0,z2,z4⟩|⟨hh,rfl⟩
 ·have HI:Hid (m_ xs t r w (.returned (.tuple #[.agg #[.string x.n,.int .i64 x.z,.string x.k,.bool x.x,.string x.v],.bool true])) w):=⟨vG _ _,.inl ⟨hh,x,hx,hn,rfl,z0,z2,z4⟩⟩;clear hx hn hh z0 z2 z4;go_wp2;refine bodyPost_ret (v:=.tuple #[.agg #[.string x.n,.int .i64 x.z,.string x.k,.bool x.x,.string x.v],.bool true]) (by simp[results,Tryz.results142,go_sem, *]) rfl ⟨?_,HI.2⟩;exact qe
 ·have HH:=aa hh;clear hh;go_wp2;refine bodyPost_ret (v:=.tuple #[.agg #[.string ⟨#[]⟩,.int .i64 0,.string ⟨#[]⟩,.bool false,.string ⟨#[]⟩],.bool false]) (by simp[results,Tryz.results142,go_sem, *]) rfl ⟨?_,.inr ⟨HH.out,rfl⟩⟩;exact qe

theorem kH (a:Option Addr) (len cap:Nat) (xs:List Xd) (most:Int) (w:World) (hr:aE w a len cap 5 (xs.map xdF)):
  Calls Tryz.prog 152 #[.slice a len cap,.int .i64 most] w (al (c8 km Xd.n xs most) w):=by
 obtain⟨HR,hxl,hlc⟩:=eJ;clear hr;have hmcalled:∀(v:Value) (w:World),(method 356 118 v "loop.example/g00571/impl.called").run Tryz.prog w=.ok (206,v) w:=fun _ _=>by kernel_rfl
 have hmright:∀(v:Value) (w:World),(method 356 118 v "loop.example/g00571/impl.right").run Tryz.prog w=.ok (207,v) w:=fun _ _=>by kernel_rfl
 by_cases hmo:most<(len:Int)
 ·go_enter Tryz.func152,Tryz.ntmps152;exact jI
 go_enter Tryz.func152,Tryz.ntmps152;go_wp2;go_loopw [5,14] (fun q i wr=> ∃(k:Nat) (y:ByteArray),k<=len/\q=.string y/\i=.int .i64 k/\Hid (k=0->y=⟨#[]⟩)/\Hid (∀z,0<k->xs[k - 1]?=some z->z.n=y)/\Hid (∀(j:Nat) z,j<k->xs[j]?=some z->km z)/\Hid (∀(j:Nat) z u,j+1<k->xs[j+1]?=some z->xs[j]?=some u->vM u.n.toList z.n.toList=true)/\Hid (Below w.heap.size w wr)) (fun _ i _=>len - (intOf i).toNat);case atStart=>exact⟨0,_,by omega,rfl,rfl,fun _=>rfl,fun _ h=>absurd h af,fun _ _ h=>absurd h af,fun _ _ _ h=>absurd h af,vG _ _⟩
 case round=>
  obtain⟨k,y,hk,rfl,rfl,H0,H1,HE,HO,HB⟩:=hrel;by_cases hlt:k<len
  ·obtain⟨b,o,x,rfl,hb,hx,hat⟩:=da (HR.below HB.out) hlt;obtain⟨z0,z2,z4,c0,c1,c2,c3,c4⟩:=ba hat;have HX:=aa hx;have HC:=aa (fun v:World=>fe x v);have HB1:=aa (HB.alloc HB.size (.cells (xov x) 118));have HRt:=aa (jf x (wr.alloc (.cells (xov x) 118)) z0 z2 z4);clear hat hx z0 z2 z4;go_wp2_with fail;refine HRt.mono ?_;rintro e w1 ⟨r,rfl,hrt,hb1⟩;obtain⟨g1,-,-⟩:=bZ hb1;have hs1:=hb1.size;rw[show (wr.alloc (.cells (xov x) 118)).heap.size=wr.heap.size+1 from by simp] at hs1;obtain⟨HB2,d0,d1,d2,d3⟩:=eI;have d4:=ck4 g1;have HG:=aa g1;have HI:=aa hrt;clear g1 hb1 HB1 HRt hrt c0 c1 c2 c3 c4;cases r
   ·exact jL
   have HOK:=aa (HI.1 rfl);clear HI;go_wp2_with fail;refine (HC.out _).mono ?_;rintro e w2 ⟨rfl,hb2⟩;obtain⟨HB3,g2,hs2,htri⟩:=jE;clear HG hb2 HB2 d0 d1 d2 d3 d4;have d0:=ck0 g2;have d1:=ck1 g2;have d2:=ck2 g2;have d3:=ck3 g2;have d4:=ck4 g2;clear g2;cases hless:vM y.toList x.n.toList
   ·exact oL
   ·rw[hless] at htri;go_wp2_with fail;refine (HC.out _).mono ?_;rintro e w3 ⟨rfl,hb3⟩;have HB4:=aa (HB3.trans (hb3.mono (vI HB.size af)));clear hb3 d0 d1 d2 d3 d4;exact oU
  ·exact jU

def vd (xs:List Xd) (t:ByteArray) (w:World) (e:Ending) (w':World):Prop:=
 Below w.heap.size w w'/\((∃(j:Nat) (x:Xd),xs[j]?=some x/\x.n=t/\e=.returned (.int .i64 j))\/((∀(j:Nat) x,xs[j]?=some x->¬x.n=t)/\e=.returned (.int .i64 (-1))))

theorem eC (d:Ad) (now:Int) (xs:List Xd) (t:ByteArray) (w:World) (hr:aE w d.a4 d.l4 d.c4 5 (xs.map xdF)):
  Calls Tryz.prog 105 #[.agg #[.slice d.a1 d.l1 d.c1,.slice d.a2 d.l2 d.c2,.slice d.a3 d.l3 d.c3,.slice d.a4 d.l4 d.c4,.slice d.a5 d.l5 d.c5,.int .i64 now],.string t] w (vd xs t w):=by
 have HR:=aa hr;have hxl:xs.length=d.l4:=dJ
 have hlc:=vI hr.2.1 hr.2.2.1;clear hr;go_enter Tryz.func105,Tryz.ntmps105;go_wp2;go_loopw [5] (fun i wr=> ∃k:Nat,k<=d.l4/\i=.int .i64 k/\wr=w.alloc (.cells #[.slice d.a1 d.l1 d.c1,.slice d.a2 d.l2 d.c2,.slice d.a3 d.l3 d.c3,.slice d.a4 d.l4 d.c4,.slice d.a5 d.l5 d.c5,.int .i64 now] 36)/\Hid (∀(j:Nat) z,j<k->xs[j]?=some z->¬z.n=t)) (fun i _=>d.l4 - (intOf i).toNat);case atStart=>exact⟨0,by omega,rfl,rfl,fun _ _ h=>absurd h af⟩
 case round=>
  obtain⟨k,hk,rfl,rfl,HE⟩:=hrel;by_cases hlt:k<d.l4
  ·obtain⟨b,o,x,ha,hb,hx,hat⟩:=da HR.out hlt;obtain⟨-,-,-,c0,-,-,-,-⟩:=ba hat;have HX:=aa hx;clear hat hx;exact mM
  ·obtain rfl:k=d.l4:=af
   exact mI

theorem iK (x:Pd) (va:Option Addr) (vl vc:Nat) (w:World):
  Calls Tryz.prog 199 #[.agg #[.string x.n,.int .i64 x.c,.string x.z,.slice va vl vc,.string x.d,.int .i64 x.p]] w fun e w'=>e=.returned (.string x.n)/\Below w.heap.size w w':=by
 go_enter Tryz.func199,Tryz.ntmps199;go_wp2;go_ret;exact⟨rfl,ai _ _⟩

theorem jh (x:Pd) (va:Option Addr) (vl vc:Nat) (w:World) (hn:x.n.size<=9223372036854775807) (hz:x.z.size<=9223372036854775807) (hd:x.d.size<=9223372036854775807) (hr:av w va vl vc x.zs):
  Calls Tryz.prog 200 #[.agg #[.string x.n,.int .i64 x.c,.string x.z,.slice va vl vc,.string x.d,.int .i64 x.p]] w (al (kY x) w):=by
 have HR:=aa (hr.below (ai w (.cells (pov x va vl vc) 107)));clear hr;go_enter Tryz.func200,Tryz.ntmps200;go_wp2_with fail;refine (qL x.n x.c x.z va vl vc x.zs x.d x.p _ hn hz hd HR.out).mono ?_;exact jP

theorem kJ (a:Option Addr) (len cap:Nat) (xs:List Pd) (most:Int) (w:World) (hr:aE w a len cap 6 (xs.map pdF)):
  Calls Tryz.prog 153 #[.slice a len cap,.int .i64 most] w (al (c8 kY Pd.n xs most) w):=by
 obtain⟨HR,hxl,hlc⟩:=eJ;clear hr;have hmcalled:∀(v:Value) (w:World),(method 356 107 v "loop.example/g00571/impl.called").run Tryz.prog w=.ok (199,v) w:=fun _ _=>by kernel_rfl
 have hmright:∀(v:Value) (w:World),(method 356 107 v "loop.example/g00571/impl.right").run Tryz.prog w=.ok (200,v) w:=fun _ _=>by kernel_rfl
 by_cases hmo:most<(len:Int)
 ·go_enter Tryz.func153,Tryz.ntmps153;exact jI
 go_enter Tryz.func153,Tryz.ntmps153;go_wp2;go_loopw [5,14] (fun q i wr=> ∃(k:Nat) (y:ByteArray),k<=len/\q=.string y/\i=.int .i64 k/\Hid (k=0->y=⟨#[]⟩)/\Hid (∀z,0<k->xs[k - 1]?=some z->z.n=y)/\Hid (∀(j:Nat) z,j<k->xs[j]?=some z->kY z)/\Hid (∀(j:Nat) z u,j+1<k->xs[j+1]?=some z->xs[j]?=some u->vM u.n.toList z.n.toList=true)/\Hid (Below w.heap.size w wr)) (fun _ i _=>len - (intOf i).toNat);case atStart=>exact⟨0,_,by omega,rfl,rfl,fun _=>rfl,fun _ h=>absurd h af,fun _ _ h=>absurd h af,fun _ _ _ h=>absurd h af,vG _ _⟩
 case round=>
  obtain⟨k,y,hk,rfl,rfl,H0,H1,HE,HO,HB⟩:=hrel;by_cases hlt:k<len
  ·obtain⟨b,o,x,rfl,hb,hx,hat⟩:=bB (HR.below HB.out) hlt;obtain⟨va,vl,vc,hvr,z0,z2,z4,c0,c1,c2,c3,c4,c5⟩:=aL hat;have HX:=aa hx;have HC:=aa (fun v:World=>iK x va vl vc v);have HB1:=aa (HB.alloc HB.size (.cells (pov x va vl vc) 107));have HRt:=aa (jh x va vl vc (wr.alloc (.cells (pov x va vl vc) 107)) z0 z2 z4 (hvr.below (ai _ _)));clear hat hx z0 z2 z4 hvr;go_wp2_with fail;refine HRt.mono ?_;rintro e w1 ⟨r,rfl,hrt,hb1⟩;obtain⟨g1,-,-⟩:=bZ hb1;have hs1:=hb1.size;rw[show (wr.alloc (.cells (pov x va vl vc) 107)).heap.size=wr.heap.size+1 from by simp] at hs1;obtain⟨HB2,d0,d1,d2,d3⟩:=eI;have d4:=ck4 g1;have d5:=ck5 g1;have HG:=aa g1;have HI:=aa hrt;clear g1 hb1 HB1 HRt hrt c0 c1 c2 c3 c4 c5;cases r
   ·exact jL
   have HOK:=aa (HI.1 rfl);clear HI;go_wp2_with fail;refine (HC.out _).mono ?_;rintro e w2 ⟨rfl,hb2⟩;obtain⟨HB3,g2,hs2,htri⟩:=jE;clear HG hb2 HB2 d0 d1 d2 d3 d4 d5;have d0:=ck0 g2;have d1:=ck1 g2;have d2:=ck2 g2;have d3:=ck3 g2;have d4:=ck4 g2;have d5:=ck5 g2;clear g2;cases hless:vM y.toList x.n.toList
   ·exact oL
   ·rw[hless] at htri;go_wp2_with fail;refine (HC.out _).mono ?_;rintro e w3 ⟨rfl,hb3⟩;have HB4:=aa (HB3.trans (hb3.mono (vI HB.size af)));clear hb3 d0 d1 d2 d3 d4 d5;exact oU
  ·exact jU

def ens (w:World):Prop:=∃T v,w.cell? ⟨3,0,none⟩=some (.iface T v)
theorem ens.lt {w:World} (h:ens w):3<w.heap.size:=by
 obtain⟨T,v,h⟩:=h;rcases Nat.lt_or_ge (3) w.heap.size with h1|h1
 ·exact h1
 ·simp[World.cell?,Array.getElem?_eq_none h1] at h
theorem ens.below {w w':World} (h:ens w) (hb:Below w.heap.size w w'):ens w':=by
 have hl:=h.lt;obtain⟨T,v,h⟩:=h;exact⟨T,v,(aj hb hl).trans h⟩
theorem cW {s:ByteArray} (h:s=⟨#[]⟩):s.toList.isEmpty=true:=by rw[h];exact mU
def uB (p:Prop) (w:World) (e:Ending) (w':World):Prop:=Below w.heap.size w w'/\((p/\e=.returned .nilIface)\/(¬p/\∃T v,e=.returned (.iface T v)))

theorem ep (d:Ad) (now:Int) (xs:List Kd) (t:ByteArray) (w:World) (hr:aE w d.a2 d.l2 d.c2 4 (xs.map kdF)) (hG:ens w):
  Calls Tryz.prog 154 #[.agg #[.slice d.a1 d.l1 d.c1,.slice d.a2 d.l2 d.c2,.slice d.a3 d.l3 d.c3,.slice d.a4 d.l4 d.c4,.slice d.a5 d.l5 d.c5,.int .i64 now],.string t] w (uB (hit Kd.n xs t=true) w):=by
 have HR:=aa hr;obtain⟨HE,HB⟩:=gd;clear hr hG;go_enter Tryz.func154,Tryz.ntmps154;go_wp2_with fail;refine (nk d now xs t w _ HR.out (ai _ _)).mono ?_;rintro e w1 ⟨hb,hf⟩;obtain⟨HA0,hbx⟩:=aJ hb;replace HB:=upB HB hbx;clear hb hbx HA0;obtain⟨T,v,hv⟩:=HE.below HB.out;have hl:=(HE.below HB.out).lt;clear HE HR;rcases hf with ⟨hh,x,hx,hn,rfl,z0,z3⟩|⟨hh,rfl⟩
 ·have HH:=aa hh;clear hh hx hn z0 z3;go_wp2;go_ret;exact⟨(HB.alloc HB.size _),.inl ⟨HH.out,rfl⟩⟩
 ·have HH:=aa hh;clear hh;go_wp2;go_ret;exact⟨(HB.alloc HB.size _),.inr ⟨by rw[HH.out];decide,T,v,rfl⟩⟩

def ud (c:Cl) (t s:ByteArray):Prop:=∃(i j:Nat) (x:Xd) (v:Vd),c.xs[i]?=some x/\x.n=t/\c.vs[j]?=some v/\v.n=s/\x.v=s/\v.m=t/\x.z<=v.c/\v.k=x.k/\v.x=x.x

theorem h_ (d:Ad) (c:Cl) (t s:ByteArray) (w:World) (hr:aI w d c.raw) (hx:aC Xd.n c.xs) (hv:aC Vd.n c.vs):
  Calls Tryz.prog 155 #[.agg #[.slice d.a1 d.l1 d.c1,.slice d.a2 d.l2 d.c2,.slice d.a3 d.l3 d.c3,.slice d.a4 d.l4 d.c4,.slice d.a5 d.l5 d.c5,.int .i64 c.now],.string t,.string s] w (al (ud c t s) w):=by
 obtain⟨HR,HB⟩:=eH;have HX:=aa hx;have HV:=aa hv;clear hr hx hv;go_enter Tryz.func155,Tryz.ntmps155;go_wp2_with fail;refine (fi d c.now c.xs t w _ HR.x (ai _ _)).mono ?_;rintro e w1 ⟨hb,hf⟩;obtain⟨HA0,hbx⟩:=aJ hb;have Bk:=aa HA0;replace HB:=upB HB hbx;clear hb hbx HA0;rcases hf with ⟨hh,x,hx,hn,rfl,z0,z2,z4⟩|⟨hh,rfl⟩
 ·have HX1:=aa hx;have HN1:=aa hn;clear hx hn hh z0 z2 z4;obtain⟨k0,k1,k2,k3,k4,k5⟩:=cs6 Bk;have ltk_1:=ae Bk.out;go_wp2_with fail;refine (dp d c.now c.vs s w _ HR.v (HB.trans ((ai _ _).mono HB.size))).mono ?_;rintro e w2 ⟨hb,hf⟩;clear k0 k1 k2 k3 k4 k5 ltk_1;obtain⟨HA0,hbx⟩:=aJ hb;replace Bk:=upK Bk hbx;have Bx:=aa HA0;replace HB:=upB HB hbx;clear hb hbx HA0;rcases hf with ⟨hh,v,va,vl,vc,hx,hn,rfl,z0,z2,z3,z5,hvr⟩|⟨hh,rfl⟩
  ·have HX2:=aa hx;have HN2:=aa hn;clear hx hn hh z0 z2 z3 z5 hvr;obtain⟨x0,x1,x2,x3,x4⟩:=cs5 Bx;have ltx_2:=ae Bx.out;cases q1:(x.v.toList==s.toList)
   ·go_wp2;go_ret;refine al.f (fun ⟨i,j,x',v',e1,e2,e3,e4,e5,_⟩=>?_) (HB.alloc HB.size _);obtain⟨_,rfl⟩:=HX.inj e1 HX1.out (e2.trans HN1.symm);rw[aP e5] at q1;cases q1
   cases q2:(v.m.toList==t.toList)
   ·go_wp2;go_ret;refine al.f (fun ⟨i,j,x',v',e1,e2,e3,e4,e5,e6,_⟩=>?_) (HB.alloc HB.size _);obtain⟨_,rfl⟩:=HV.inj e3 HX2.out (e4.trans HN2.symm);rw[aP e6] at q2;cases q2
   by_cases q3:x.z<=v.c;rotate_left
   ·go_wp2;go_ret;refine al.f (fun ⟨i,j,x',v',e1,e2,e3,e4,e5,e6,e7,_⟩=>?_) (HB.alloc HB.size _);obtain⟨_,rfl⟩:=HX.inj e1 HX1.out (e2.trans HN1.symm);obtain⟨_,rfl⟩:=HV.inj e3 HX2.out (e4.trans HN2.symm);omega
   cases q4:(v.k.toList==x.k.toList)
   ·go_wp2;go_ret;refine al.f (fun ⟨i,j,x',v',e1,e2,e3,e4,e5,e6,e7,e8,_⟩=>?_) (HB.alloc HB.size _);obtain⟨_,rfl⟩:=HX.inj e1 HX1.out (e2.trans HN1.symm);obtain⟨_,rfl⟩:=HV.inj e3 HX2.out (e4.trans HN2.symm);rw[aP e8] at q4;cases q4
   cases q5:(v.x==x.x)
   ·go_wp2;go_ret;refine al.f (fun ⟨i,j,x',v',e1,e2,e3,e4,e5,e6,e7,e8,e9⟩=>?_) (HB.alloc HB.size _);obtain⟨_,rfl⟩:=HX.inj e1 HX1.out (e2.trans HN1.symm);obtain⟨_,rfl⟩:=HV.inj e3 HX2.out (e4.trans HN2.symm);rw[e9] at q5;simp at q5
   ·go_wp2;go_ret;exact al.t ⟨_,_,x,v,HX1.out,HN1.out,HX2.out,HN2.out,cj q1,cj q2,q3,cj q4,by simpa using q5⟩ (HB.alloc HB.size _)
  ·have HH2:=aa hh;clear hh;obtain⟨x0,x1,x2,x3,x4⟩:=cs5 Bx;have ltx_2:=ae Bx.out;go_wp2;go_ret;refine al.f (fun ⟨i,j,x',v',e1,e2,e3,e4,_⟩=>?_) (HB.alloc HB.size _);have:=(cq HV.out e3 e4).2;rw[HH2.out] at this;cases this
 ·have HH1:=aa hh;clear hh;obtain⟨k0,k1,k2,k3,k4,k5⟩:=cs6 Bk;have ltk_1:=ae Bk.out;go_wp2_with fail;refine (dp d c.now c.vs s w _ HR.v (HB.trans ((ai _ _).mono HB.size))).mono ?_;rintro e w2 ⟨hb,hf⟩;clear k0 k1 k2 k3 k4 k5 ltk_1;obtain⟨HA0,hbx⟩:=aJ hb;replace Bk:=upK Bk hbx;have Bx:=aa HA0;replace HB:=upB HB hbx;clear hb hbx HA0;rcases hf with ⟨hh,v,va,vl,vc,hx,hn,rfl,z0,z2,z3,z5,hvr⟩|⟨hh,rfl⟩
  ·have HX2:=aa hx;have HN2:=aa hn;clear hx hn hh z0 z2 z3 z5 hvr;exact sR
  ·have HH2:=aa hh;clear hh;exact sR

def QV (c:Cl) (v:Vd):Prop:=hit Kd.n c.ks v.k=true/\(v.m=⟨#[]⟩\/ud c v.m v.n)
def QX (c:Cl) (x:Xd):Prop:=hit Kd.n c.ks x.k=true/\(x.v=⟨#[]⟩\/ud c x.n x.v)
def l9 (c:Cl):Prop:=(∀(j:Nat) v,c.vs[j]?=some v->QV c v)/\(∀(j:Nat) x,c.xs[j]?=some x->QX c x)

theorem lL (d:Ad) (c:Cl) (w:World) (hr:aI w d c.raw) (hxr:aC Xd.n c.xs) (hvr:aC Vd.n c.vs) (hG:ens w):
  Calls Tryz.prog 135 #[.agg #[.slice d.a1 d.l1 d.c1,.slice d.a2 d.l2 d.c2,.slice d.a3 d.l3 d.c3,.slice d.a4 d.l4 d.c4,.slice d.a5 d.l5 d.c5,.int .i64 c.now]] w (al (l9 c) w):=by
 obtain⟨a1,l1,y1,a2,l2,y2,a3,l3,y3,a4,l4,y4,a5,l5,y5⟩:=d;dsimp only;have HR:=aa hr;have hl3:c.vs.length=l3:=jt
 have hm3:l3<=9223372036854775807:=vI hr.v.2.1 hr.v.2.2.1;have hl4:c.xs.length=l4:=ox
 have hm4:l4<=9223372036854775807:=vI hr.x.2.1 hr.x.2.2.1;clear hr;have HE:=aa hG;have HXR:=aa hxr;have HVR:=aa hvr;clear hG hxr hvr;go_enter Tryz.func135,Tryz.ntmps135;go_wp2;go_loopw [10] (fun i wr=> ∃k:Nat,k<=l3/\i=.int .i64 k/\Hid (∀(j:Nat) z,j<k->c.vs[j]?=some z->QV c z)/\Hid (Below w.heap.size w wr)/\Hid (wr.heap[w.heap.size]?=some (.cells (clo6 a1 l1 y1 a2 l2 y2 a3 l3 y3 a4 l4 y4 a5 l5 y5 c.now) 36 (0,0)))) (fun i _=>l3 - (intOf i).toNat);case atStart=>exact⟨0,by omega,rfl,fun _ _ h=>absurd h af,ai _ _,vP⟩
 case round=>
  obtain⟨k,hk,rfl,HQ,HB,Bk⟩:=hrel;by_cases hlt:k<l3
  ·obtain⟨b,o,v,rfl,hb,hx,hat⟩:=bo (HR.v.below HB.out) hlt;obtain⟨va,vl,vc,hvr,z0,z2,z3,z5,c0,c1,c2,c3,c4,c5,c6,c7⟩:=aF hat;have HXv:=aa hx;clear hat hx z0 z2 z3 z5 hvr;obtain⟨k0,k1,k2,k3,k4,k5⟩:=cs6 Bk;have ltk_0:=ae Bk.out;go_wp2_with fail;refine (ep ⟨a1,l1,y1,a2,l2,y2,(some ⟨b,o,none⟩),l3,y3,a4,l4,y4,a5,l5,y5⟩ c.now c.ks v.k _ (HR.k.below (HB.trans ((ai _ _).mono HB.size))) (HE.below (HB.trans ((ai _ _).mono HB.size)))).mono ?_;rintro e w1 ⟨hb2,hf⟩;clear k0 k1 k2 k3 k4 k5 ltk_0;obtain⟨HA0,hbx⟩:=aJ hb2;replace Bk:=upK Bk hbx;have Br:=aa HA0;replace HB:=upB HB hbx;clear hb2 hbx HA0;clear hb c0 c1 c2 c3 c4 c5 c6 c7;rcases hf with ⟨hh,rfl⟩|⟨hh,T,q,rfl⟩;rotate_left
   ·have HH:=aa hh;clear hh;obtain⟨k0,k1,k2,k3,k4,k5⟩:=cs6 Bk;obtain⟨r0,r1,r2,r3,r4,r5,r6,r7⟩:=cs8 Br;go_wp2;go_ret;exact al.f (fun h=>HH.out (h.1 k v HXv.out).1) HB.out
   have HH:=aa hh;clear hh;by_cases he:v.m=⟨#[]⟩
   ·have hq:=cW he;have HEm:=aa he;clear he;obtain⟨k0,k1,k2,k3,k4,k5⟩:=cs6 Bk;obtain⟨r0,r1,r2,r3,r4,r5,r6,r7⟩:=cs8 Br;go_wp2_with fail;refine⟨⟨k+1,by omega,by go_num,fun j z hj hz=>?_,HB.out,Bk.out⟩,by simp[intOf];omega⟩;by_cases e:j=k
    ·subst e;rw[HXv.out] at hz;exact kR
    ·exact HQ.out j z af hz
   ·have hq:=bj he;have HEm:=aa he;clear he;obtain⟨k0,k1,k2,k3,k4,k5⟩:=cs6 Bk;obtain⟨r0,r1,r2,r3,r4,r5,r6,r7⟩:=cs8 Br;go_wp2_with fail;refine (h_ ⟨a1,l1,y1,a2,l2,y2,(some ⟨b,o,none⟩),l3,y3,a4,l4,y4,a5,l5,y5⟩ c v.m v.n _ (HR.below HB.out) HXR.out HVR.out).mono ?_;rintro e w2 ⟨r,rfl,hi,hb3⟩;clear k0 k1 k2 k3 k4 k5 r0 r1 r2 r3 r4 r5 r6 r7;replace Bk:=upK Bk hb3;replace Br:=upK Br hb3;replace HB:=upB HB hb3;clear hb3;have HI:=aa hi;clear hi;cases r
    ·go_wp2;go_ret;refine al.f (fun h=>?_) HB.out;rcases (h.1 k v HXv.out).2 with h2|h2
     ·exact HEm.out h2
     ·have:=HI.2 h2;cases this
    ·go_wp2_with fail;refine⟨⟨k+1,by omega,by go_num,fun j z hj hz=>?_,HB.out,Bk.out⟩,by simp[intOf];omega⟩;by_cases e:j=k
     ·subst e;rw[HXv.out] at hz;exact oJ
     ·exact HQ.out j z af hz
  ·obtain rfl:l3=k:=af
   have HQ1:Hid (∀(j:Nat) z,c.vs[j]?=some z->QV c z):=fun j z hz=>HQ.out j z cd hz;clear HQ;have k3:=ck3 Bk;go_wp2;go_loopw [37] (fun i wr=> ∃k:Nat,k<=l4/\i=.int .i64 k/\Hid (∀(j:Nat) z,j<k->c.xs[j]?=some z->QX c z)/\Hid (Below w.heap.size w wr)/\Hid (wr.heap[w.heap.size]?=some (.cells (clo6 a1 l1 y1 a2 l2 y2 a3 l3 y3 a4 l4 y4 a5 l5 y5 c.now) 36 (0,0)))) (fun i _=>l4 - (intOf i).toNat);case atStart=>exact⟨0,by omega,rfl,fun _ _ h=>absurd h af,HB.out,Bk.out⟩
   case round=>
    obtain⟨k,hk,rfl,HQ,HB,Bk⟩:=hrel;by_cases hlt:k<l4
    ·obtain⟨b,o,x,rfl,hb,hx,hat⟩:=da (HR.x.below HB.out) hlt;obtain⟨z0,z2,z4,c0,c1,c2,c3,c4⟩:=ba hat;have HXx:=aa hx;clear hat hx z0 z2 z4;obtain⟨k0,k1,k2,k3,k4,k5⟩:=cs6 Bk;have ltk_0:=ae Bk.out;go_wp2_with fail;refine (ep ⟨a1,l1,y1,a2,l2,y2,a3,l3,y3,(some ⟨b,o,none⟩),l4,y4,a5,l5,y5⟩ c.now c.ks x.k _ (HR.k.below (HB.trans ((ai _ _).mono HB.size))) (HE.below (HB.trans ((ai _ _).mono HB.size)))).mono ?_;rintro e w1 ⟨hb2,hf⟩;clear k0 k1 k2 k3 k4 k5 ltk_0;obtain⟨HA0,hbx⟩:=aJ hb2;replace Bk:=upK Bk hbx;have Br:=aa HA0;replace HB:=upB HB hbx;clear hb2 hbx HA0;clear hb c0 c1 c2 c3 c4;rcases hf with ⟨hh,rfl⟩|⟨hh,T,q,rfl⟩;rotate_left
     ·have HH:=aa hh;clear hh;obtain⟨k0,k1,k2,k3,k4,k5⟩:=cs6 Bk;obtain⟨r0,r1,r2,r3,r4⟩:=cs5 Br;go_wp2;go_ret;exact al.f (fun h=>HH.out (h.2 k x HXx.out).1) HB.out
     have HH:=aa hh;clear hh;by_cases he:x.v=⟨#[]⟩
     ·have hq:=cW he;have HEm:=aa he;clear he;obtain⟨k0,k1,k2,k3,k4,k5⟩:=cs6 Bk;obtain⟨r0,r1,r2,r3,r4⟩:=cs5 Br;go_wp2_with fail;refine⟨⟨k+1,by omega,by go_num,fun j z hj hz=>?_,HB.out,Bk.out⟩,by simp[intOf];omega⟩;by_cases e:j=k
      ·subst e;rw[HXx.out] at hz;exact kR
      ·exact HQ.out j z af hz
     ·have hq:=bj he;have HEm:=aa he;clear he;obtain⟨k0,k1,k2,k3,k4,k5⟩:=cs6 Bk;obtain⟨r0,r1,r2,r3,r4⟩:=cs5 Br;go_wp2_with fail;refine (h_ ⟨a1,l1,y1,a2,l2,y2,a3,l3,y3,(some ⟨b,o,none⟩),l4,y4,a5,l5,y5⟩ c x.n x.v _ (HR.below HB.out) HXR.out HVR.out).mono ?_;rintro e w2 ⟨r,rfl,hi,hb3⟩;clear k0 k1 k2 k3 k4 k5 r0 r1 r2 r3 r4;replace Bk:=upK Bk hb3;replace Br:=upK Br hb3;replace HB:=upB HB hb3;clear hb3;have HI:=aa hi;clear hi;cases r
      ·go_wp2;go_ret;refine al.f (fun h=>?_) HB.out;rcases (h.2 k x HXx.out).2 with h2|h2
       ·exact HEm.out h2
       ·have:=HI.2 h2;cases this
      ·go_wp2_with fail;refine⟨⟨k+1,by omega,by go_num,fun j z hj hz=>?_,HB.out,Bk.out⟩,by simp[intOf];omega⟩;by_cases e:j=k
       ·subst e;rw[HXx.out] at hz;exact oJ
       ·exact HQ.out j z af hz
    ·obtain rfl:l4=k:=af
     have HQ2:Hid (∀(j:Nat) z,c.xs[j]?=some z->QX c z):=fun j z hz=>HQ.out j z cd hz;exact mC

def InL (zs:List ByteArray) (t:ByteArray):Prop:=∃j:Nat,zs[j]?=some t

theorem lI (a:Option Addr) (len cap:Nat) (zs:List ByteArray) (t:ByteArray) (w:World) (hr:av w a len cap zs):
  Calls Tryz.prog 89 #[.slice a len cap,.string t] w fun e w'=>(∃r:Int,e=.returned (.int .i64 r)/\((0<=r/\InL zs t)\/(r= -1/\¬InL zs t)))/\w'=w:=by
 have HR:=aa hr;have hlc:=vI hr.2.1 hr.2.2.1;have hzl:=hr.1;clear hr;go_enter Tryz.func89,Tryz.ntmps89;go_wp2;go_loop [8] (fun i=> ∃k:Nat,k<=len/\i=.int .i64 k/\Hid (∀(j:Nat) x,j<k->zs[j]?=some x->¬x=t)) (fun i=>len - (intOf i).toNat);case atStart=>exact⟨0,by omega,rfl,fun _ _ h=>absurd h af⟩
 case round=>
  obtain⟨k,hk,rfl,HE⟩:=hrel;by_cases hlt:k<len
  ·obtain⟨b,o,x,rfl,hb,hx,hc,hsz⟩:=HR.at hlt;have HX:=aa hx;clear hx;by_cases hn:t=x
   ·have hq:=aP hn;have HN:=aa hn;clear hn;go_wp2;go_ret;exact⟨⟨k,rfl,.inl ⟨by omega,k,by rw[HX.out,HN.out]⟩⟩,rfl⟩
   ·have hq:=bk hn;have HN:=aa hn;clear hn;go_wp2;refine⟨⟨k+1,by omega,by go_num,fun j z hj hz=>?_⟩,by simp[intOf];omega⟩;by_cases e:j=k
    ·subst e;rw[HX.out] at hz;obtain rfl:=vC hz;exact fun q=>HN.out q.symm
    ·exact HE.out j z af hz
  ·obtain rfl:len=k:=af
   go_wp2;go_ret;exact⟨⟨-1,rfl,.inr ⟨rfl,fun ⟨j,hj⟩=>HE.out j t jq hj rfl⟩⟩,rfl⟩

theorem bI (a:Option Addr) (len cap:Nat) (zs:List ByteArray) (t:ByteArray) (w:World) (hr:av w a len cap zs):
  Calls Tryz.prog 65 #[.slice a len cap,.string t] w (al (InL zs t) w):=by
 have HR:=aa hr;clear hr;go_enter Tryz.func65,Tryz.ntmps65;go_wp2_with fail;refine (lI a len cap zs t _ HR.out).mono ?_;rintro e w1 ⟨⟨r,rfl,hr⟩,rfl⟩;rcases hr with ⟨h0,hi⟩|⟨rfl,hi⟩
 ·go_wp2;go_ret;exact al.t hi (vG _ _)
 ·go_wp2;go_ret;exact al.f hi (vG _ _)

theorem gF (d:Ad) (now:Int) (xs:List Xd) (a:Option Addr) (len cap:Nat) (zs:List ByteArray) (w:World) (hr:aE w d.a4 d.l4 d.c4 5 (xs.map xdF)) (hz:av w a len cap zs) (hG:ens w):
  Calls Tryz.prog 156 #[.agg #[.slice d.a1 d.l1 d.c1,.slice d.a2 d.l2 d.c2,.slice d.a3 d.l3 d.c3,.slice d.a4 d.l4 d.c4,.slice d.a5 d.l5 d.c5,.int .i64 now],.slice a len cap] w (uB (∀(j:Nat) t,zs[j]?=some t->hit Xd.n xs t=true) w):=by
 have HR:=aa hr;have HE:=aa hG;have HZ:=aa hz;have hlc:=vI hz.2.1 hz.2.2.1;have hzl:=hz.1;clear hr hG hz;go_enter Tryz.func156,Tryz.ntmps156;go_wp2;go_loopw [11] (fun i wr=> ∃k:Nat,k<=len/\i=.int .i64 k/\Hid (∀(j:Nat) t,j<k->zs[j]?=some t->hit Xd.n xs t=true)/\Hid (Below w.heap.size w wr)/\Hid (wr.heap[w.heap.size]?=some (.cells (clv d now) 36 (0,0)))) (fun i _=>len - (intOf i).toNat);case atStart=>exact⟨0,by omega,rfl,fun _ _ h=>absurd h af,ai _ _,vP⟩
 case round=>
  obtain⟨k,hk,rfl,HQ,HB,Bk⟩:=hrel;by_cases hlt:k<len
  ·obtain⟨b,o,t,rfl,hb,hx,hc,hsz⟩:=(HZ.below HB.out).at hlt;have HX:=aa hx;clear hx;obtain⟨k0,k1,k2,k3,k4,k5⟩:=cs6 Bk;go_wp2_with fail;refine (fi d now xs t w _ HR.out HB.out).mono ?_;rintro e w1 ⟨hb2,hf⟩;clear k0 k1 k2 k3 k4 k5;replace Bk:=upK Bk hb2;replace HB:=upB HB hb2;clear hb2;clear hb hc hsz;obtain⟨T,q,hv⟩:=HE.below HB.out;have hl:=(HE.below HB.out).lt;rcases hf with ⟨hh,x,hx,hn,rfl,z0,z2,z4⟩|⟨hh,rfl⟩
   ·have HH:=aa hh;clear hh hx hn z0 z2 z4 hv hl;go_wp2;refine⟨⟨k+1,by omega,by go_num,fun j z hj hz=>?_,HB.alloc HB.size _,(vS _ _ _ (ae Bk.out)).trans Bk.out⟩,by simp[intOf];omega⟩;by_cases e:j=k
    ·subst e;rw[HX.out] at hz;obtain rfl:=vC hz;exact HH.out
    ·exact HQ.out j z af hz
   ·have HH:=aa hh;clear hh;go_wp2;go_ret;exact⟨HB.alloc HB.size _,.inr ⟨fun h=>(by have:=h k t HX.out;rw[HH.out] at this;cases this),T,q,rfl⟩⟩
  ·obtain rfl:len=k:=af
   go_wp2;go_ret;exact⟨HB.out,.inl ⟨fun j t ht=>HQ.out j t jr ht,rfl⟩⟩

def a_ (c:Cl) (t:ByteArray) (v:Vd):Prop:=∃(i j:Nat) (x:Xd),c.xs[i]?=some x/\x.n=t/\c.vs[j]?=some v/\v.n=x.v
def uJ (c:Cl) (t:ByteArray) (r w:World) (e:Ending) (w':World):Prop:=
 Below w.heap.size w w'/\((∃(v:Vd) (va:Option Addr) (vl vc:Nat),a_ c t v/\e=.returned (.tuple #[.agg #[.string v.n,.int .i64 v.c,.string v.z,.string v.k,.bool v.x,.string v.m,.bool v.y,.slice va vl vc],.bool true])/\v.n.size<=9223372036854775807/\v.z.size<=9223372036854775807/\av r va vl vc v.zs)\/((∀v,¬a_ c t v)/\e=.returned (.tuple #[.agg #[.string ⟨#[]⟩,.int .i64 0,.string ⟨#[]⟩,.string ⟨#[]⟩,.bool false,.string ⟨#[]⟩,.bool false,.slice none 0 0],.bool false])))

theorem iG (d:Ad) (c:Cl) (t:ByteArray) (r:World) (w:World) (hr:aI r d c.raw) (hrw:Below r.heap.size r w) (hx:aC Xd.n c.xs) (hv:aC Vd.n c.vs) (hne:∀(j:Nat) v,c.vs[j]?=some v->¬v.n=⟨#[]⟩):
  Calls Tryz.prog 122 #[.agg #[.slice d.a1 d.l1 d.c1,.slice d.a2 d.l2 d.c2,.slice d.a3 d.l3 d.c3,.slice d.a4 d.l4 d.c4,.slice d.a5 d.l5 d.c5,.int .i64 c.now],.string t] w (uJ c t r w):=by
 have HR:=aa hr;have HRW:=aa hrw;obtain⟨HX,HV,HNE⟩:=fF;have HB:=aa (vG w.heap.size w);clear hr hx hv hrw hne;go_enter Tryz.func122,Tryz.ntmps122;go_wp2_with fail;refine (fi d c.now c.xs t r _ HR.x (HRW.trans ((aD _ _ _).mono HRW.size))).mono ?_;rintro e w1 ⟨hb,hf⟩;obtain⟨HA0,HA1,hbx⟩:=bN hb;have Bk:=aa HA0;have Bs:=aa HA1;replace HB:=upB HB hbx;clear hb hbx HA0 HA1;rcases hf with ⟨hh,x,hx,hn,rfl,z0,z2,z4⟩|⟨hh,rfl⟩
 ·have HX1:=aa hx;have HN1:=aa hn;clear hx hn hh z0 z2 z4;obtain⟨k0,k1,k2,k3,k4,k5⟩:=cs6 Bk;have ltk_1:=ae Bk.out;go_wp2_with fail;refine (dp d c.now c.vs x.v r _ HR.v (HRW.trans ((HB.trans ((ai _ _).mono HB.size)).mono HRW.size))).mono ?_;rintro e w2 ⟨hb,hf⟩;clear k0 k1 k2 k3 k4 k5 ltk_1;obtain⟨HA0,hbx⟩:=aJ hb;replace Bk:=upK Bk hbx;replace Bs:=upK Bs hbx;have Bx:=aa HA0;replace HB:=upB HB hbx;clear hb hbx HA0;rcases hf with ⟨hh,v,va,vl,vc,hx,hn,rfl,z0,z2,z3,z5,hvr⟩|⟨hh,rfl⟩
  ·have HX2:=aa hx;have HN2:=aa hn;have HT:=aa hvr;have HZ0:=aa z0;have HZ2:=aa z2;clear hx hn hh z0 z2 z3 z5 hvr;obtain⟨s0,s1,s2,s3,s4,s5,s6,s7⟩:=cs8 Bs;obtain⟨fr0,fr1,fr2,fr3,fr4,fr5,fr6,fr7⟩:=oD;go_wp2;refine bodyPost_ret (v:=.tuple #[.agg #[.string v.n,.int .i64 v.c,.string v.z,.string v.k,.bool v.x,.string v.m,.bool v.y,.slice va vl vc],.bool true]) ov rfl ⟨ah (vV _) (ah (vV _) (ah (vV _) (ah (vV _) (ah (vV _) (ah (vV _) (ah (vV _) (ah (vV _) (HB.out)))))))),.inl ⟨v,va,vl,vc,⟨_,_,x,HX1.out,HN1.out,HX2.out,HN2.out⟩,rfl,HZ0.out,HZ2.out,HT.out⟩⟩
  ·have HH2:=aa hh;clear hh;obtain⟨s0,s1,s2,s3,s4,s5,s6,s7⟩:=cs8 Bs;obtain⟨fr0,fr1,fr2,fr3,fr4,fr5,fr6,fr7⟩:=oD;go_wp2;refine bodyPost_ret (v:=.tuple #[.agg #[.string ⟨#[]⟩,.int .i64 0,.string ⟨#[]⟩,.string ⟨#[]⟩,.bool false,.string ⟨#[]⟩,.bool false,.slice none 0 0],.bool false]) ov rfl ⟨ah (vV _) (ah (vV _) (ah (vV _) (ah (vV _) (ah (vV _) (ah (vV _) (ah (vV _) (ah (vV _) (HB.out)))))))),.inr ⟨fun v ⟨i,j,x2,e1,e2,e3,e4⟩=>(by obtain⟨_,rfl⟩:=HX.inj e1 HX1.out (e2.trans HN1.symm);have:=(cq HV.out e3 e4).2;rw[HH2.out] at this;cases this),rfl⟩⟩
 ·have HH1:=aa hh;clear hh;obtain⟨k0,k1,k2,k3,k4,k5⟩:=cs6 Bk;have ltk_1:=ae Bk.out;go_wp2_with fail;refine (dp d c.now c.vs ⟨#[]⟩ r _ HR.v (HRW.trans ((HB.trans ((ai _ _).mono HB.size)).mono HRW.size))).mono ?_;rintro e w2 ⟨hb,hf⟩;clear k0 k1 k2 k3 k4 k5 ltk_1;obtain⟨HA0,hbx⟩:=aJ hb;replace Bk:=upK Bk hbx;replace Bs:=upK Bs hbx;have Bx:=aa HA0;replace HB:=upB HB hbx;clear hb hbx HA0;rcases hf with ⟨hh,v,va,vl,vc,hx,hn,rfl,z0,z2,z3,z5,hvr⟩|⟨hh,rfl⟩
  ·have HX2:=aa hx;have HN2:=aa hn;have HT:=aa hvr;have HZ0:=aa z0;have HZ2:=aa z2;clear hx hn hh z0 z2 z3 z5 hvr;exact absurd HN2.out (HNE.out _ _ HX2.out)
  ·have HH2:=aa hh;clear hh;obtain⟨s0,s1,s2,s3,s4,s5,s6,s7⟩:=cs8 Bs;obtain⟨fr0,fr1,fr2,fr3,fr4,fr5,fr6,fr7⟩:=oD;go_wp2;refine bodyPost_ret (v:=.tuple #[.agg #[.string ⟨#[]⟩,.int .i64 0,.string ⟨#[]⟩,.string ⟨#[]⟩,.bool false,.string ⟨#[]⟩,.bool false,.slice none 0 0],.bool false]) ov rfl ⟨ah (vV _) (ah (vV _) (ah (vV _) (ah (vV _) (ah (vV _) (ah (vV _) (ah (vV _) (ah (vV _) (HB.out)))))))),.inr ⟨fun v ⟨i,j,x2,e1,e2,e3,e4⟩=>(by have:=(cq HX.out e1 e2).2;rw[HH1.out] at this;cases this),rfl⟩⟩

def cpuOf (t:ByteArray):List Pd->Int
 | []=>0
 | p ::ps=>(if p.d=t then p.c else 0)+cpuOf t ps
theorem fc (t:ByteArray):∀ps qs:List Pd,cpuOf t (ps++qs)=cpuOf t ps+cpuOf t qs
 | [],qs=>by simp[cpuOf]
 | p ::ps,qs=>by simp[cpuOf,fc t ps];omega
theorem dG {t:ByteArray} {ps:List Pd} {k:Nat} {p:Pd} (h:ps[k]?=some p):cpuOf t (ps.take (k+1))=cpuOf t (ps.take k)+(if p.d=t then p.c else 0):=by
 rw[wA,h,fc];simp[cpuOf]

theorem iz (d:Ad) (now:Int) (ps:List Pd) (t:ByteArray) (w:World) (hr:aE w d.a5 d.l5 d.c5 6 (ps.map pdF)) (hl:ps.length<=8) (hp:∀(j:Nat) p,ps[j]?=some p->0<=p.c/\p.c<=1000000):
  Calls Tryz.prog 158 #[.agg #[.slice d.a1 d.l1 d.c1,.slice d.a2 d.l2 d.c2,.slice d.a3 d.l3 d.c3,.slice d.a4 d.l4 d.c4,.slice d.a5 d.l5 d.c5,.int .i64 now],.string t] w fun e w'=>e=.returned (.int .i64 (cpuOf t ps))/\Below w.heap.size w w':=by
 obtain⟨a1,l1,y1,a2,l2,y2,a3,l3,y3,a4,l4,y4,a5,l5,y5⟩:=d;dsimp only at hr ⊢;have HR:=aa hr;have hxl:ps.length=l5:=dJ
 have HP:=aa hp;clear hr hp;go_enter Tryz.func158,Tryz.ntmps158;go_wp2;go_loopw [5,11] (fun q i wr=> ∃(k:Nat) (s:Int),k<=l5/\q=.int .i64 s/\i=.int .i64 k/\Hid (s=cpuOf t (ps.take k))/\0<=s/\s<=k*1000000/\Hid (Below w.heap.size w wr)) (fun _ i _=>l5 - (intOf i).toNat);case atStart=>exact⟨0,0,by omega,rfl,rfl,rfl,by omega,by omega,ai _ _⟩
 case round=>
  obtain⟨k,s,hk,rfl,rfl,HS,hs0,hs1,HB⟩:=hrel;by_cases hlt:k<l5
  ·obtain⟨b,o,p,rfl,hb,hx,hat⟩:=bB (HR.below HB.out) hlt;obtain⟨va,vl,vc,hvr,z0,z2,z4,c0,c1,c2,c3,c4,c5⟩:=aL hat;have HX:=aa hx;have hpc:=HP.out k p hx;clear hat hx z0 z2 z4 hvr;by_cases hn:p.d=t
   ·have hq:=aP hn;have HN:=aa hn;clear hn;go_wp2;refine⟨⟨k+1,s+p.c,by omega,by go_num,by go_num,?_,by omega,by omega,HB.alloc HB.size _⟩,by simp[intOf];omega⟩;show _=_;rw[dG HX.out,if_pos HN.out,<-HS.out]
   ·have hq:=bk hn;have HN:=aa hn;clear hn;go_wp2;refine⟨⟨k+1,s,by omega,rfl,by go_num,?_,by omega,by omega,HB.alloc HB.size _⟩,by simp[intOf];omega⟩;show _=_;rw[dG HX.out,if_neg HN.out,<-HS.out,Int.add_zero]
  ·obtain rfl:l5=k:=af
   exact oT

def mZ (c:Cl) (t:ByteArray):Prop:=∀(i j:Nat) p q,c.ps[i]?=some p->c.ps[j]?=some q->¬p.d=⟨#[]⟩->¬q.d=⟨#[]⟩->InL p.zs t->InL q.zs t->p.d=q.d

theorem qO (d:Ad) (c:Cl) (t:ByteArray) (w:World) (hr:aI w d c.raw):
  Calls Tryz.prog 159 #[.agg #[.slice d.a1 d.l1 d.c1,.slice d.a2 d.l2 d.c2,.slice d.a3 d.l3 d.c3,.slice d.a4 d.l4 d.c4,.slice d.a5 d.l5 d.c5,.int .i64 c.now],.string t] w (al (mZ c t) w):=by
 obtain⟨a1,l1,y1,a2,l2,y2,a3,l3,y3,a4,l4,y4,a5,l5,y5⟩:=d;dsimp only;have HR:=aa hr;obtain⟨hl5,hm5⟩:=jC;clear hr;go_enter Tryz.func159,Tryz.ntmps159;go_wp2;go_loopw [5,11] (fun q i wr=> ∃(k:Nat) (s:ByteArray),k<=l5/\q=.string s/\i=.int .i64 k/\Hid (∀(j:Nat) p,j<k->c.ps[j]?=some p->¬p.d=⟨#[]⟩->InL p.zs t->p.d=s)/\Hid (s=⟨#[]⟩\/∃(j:Nat) (p:Pd),j<k/\c.ps[j]?=some p/\¬p.d=⟨#[]⟩/\InL p.zs t/\p.d=s)/\Hid (Below w.heap.size w wr)) (fun _ i _=>l5 - (intOf i).toNat);case atStart=>exact⟨0,_,by omega,rfl,rfl,fun _ _ h=>absurd h af,.inl rfl,ai _ _⟩
 case round=>
  obtain⟨k,s,hk,rfl,rfl,HQ,HS,HB⟩:=hrel;by_cases hlt:k<l5
  ·obtain⟨b,o,p,rfl,hb,hx,hat⟩:=bB (HR.p.below HB.out) hlt;obtain⟨va,vl,vc,hvr,z0,z2,z4,c0,c1,c2,c3,c4,c5⟩:=aL hat;have HX:=aa hx;have HT:=aa hvr;clear hat hx z0 z2 z4 hvr;have skip:(p.d=⟨#[]⟩\/¬InL p.zs t)->∀(j:Nat) q,j<k+1->c.ps[j]?=some q->¬q.d=⟨#[]⟩->InL q.zs t->q.d=s:=by
    intro h j q hj hq h1 h2;by_cases e:j=k
    ·subst e;rw[HX.out] at hq;obtain rfl:=vC hq;rcases h with h|h
     ·exact absurd h h1
     ·exact absurd h2 h
    ·exact HQ.out j q af hq h1 h2
   have SK:=aa skip;clear skip;have keepS:s=⟨#[]⟩\/∃(j:Nat) (p:Pd),j<k+1/\c.ps[j]?=some p/\¬p.d=⟨#[]⟩/\InL p.zs t/\p.d=s:=HS.imp id (fun ⟨j,p,h1,h2⟩=>⟨j,p,by omega,h2⟩);have KS:=aa keepS;clear keepS;by_cases he:p.d=⟨#[]⟩
   ·have hq:=cW he;have HEm:=aa he;clear he;go_wp2;exact⟨⟨k+1,s,by omega,rfl,by go_num,SK.out (.inl HEm.out),KS.out,HB.alloc HB.size _⟩,by simp[intOf];omega⟩
   ·have hq:=bj he;have HEm:=aa he;clear he;go_wp2_with fail;refine (bI va vl vc p.zs t _ (HT.below (ai _ _))).mono ?_;rintro e w1 ⟨r,rfl,hi,hb2⟩;obtain⟨HA0,hbx⟩:=aJ hb2;have Br:=aa HA0;replace HB:=upB HB hbx;clear hb2 hbx HA0;have HI:=aa hi;clear hi c0 c1 c2 c3 c4 c5 hb;cases r
    ·obtain⟨r0,r1,r2,r3,r4,r5⟩:=cs6 Br;go_wp2;exact⟨⟨k+1,s,by omega,rfl,by go_num,SK.out (.inr (fun h=>by have:=HI.2 h;cases this)),KS.out,HB.out⟩,by simp[intOf];omega⟩
    ·have HIn:=aa (HI.1 bM);clear HI;by_cases hs:s=⟨#[]⟩
     ·have hq2:=cW hs;have HSe:=aa hs;clear hs;obtain⟨r0,r1,r2,r3,r4,r5⟩:=cs6 Br;go_wp2_with fail;refine⟨⟨k+1,p.d,by omega,rfl,by go_num,fun j q hj hq h1 h2=>?_,.inr ⟨k,p,by omega,HX.out,HEm.out,HIn.out,rfl⟩,HB.out⟩,by simp[intOf];omega⟩;by_cases e:j=k
      ·subst e;rw[HX.out] at hq;obtain rfl:=vC hq;rfl
      ·exact absurd (HSe.out ▸ HQ.out j q af hq h1 h2) h1
     ·have hq2:=bj hs;have HSe:=aa hs;clear hs;by_cases hd:p.d=s
      ·have hq3:=aP hd;have HD:=aa hd;clear hd;obtain⟨r0,r1,r2,r3,r4,r5⟩:=cs6 Br;go_wp2_with fail;refine⟨⟨k+1,p.d,by omega,rfl,by go_num,fun j q hj hq h1 h2=>?_,.inr ⟨k,p,by omega,HX.out,HEm.out,HIn.out,rfl⟩,HB.out⟩,by simp[intOf];omega⟩;by_cases e:j=k
       ·subst e;rw[HX.out] at hq;obtain rfl:=vC hq;rfl
       ·exact (HQ.out j q af hq h1 h2).trans HD.symm
      ·have hq3:=bk hd;have HD:=aa hd;clear hd;obtain⟨r0,r1,r2,r3,r4,r5⟩:=cs6 Br;go_wp2;go_ret;refine al.f (fun h=>?_) HB.out;rcases HS.out with h1|⟨j,q,h1,h2,h3,h4,h5⟩
       ·exact HSe.out h1
       ·exact HD.out ((h k j p q HX.out h2 HEm.out h3 HIn.out h4).trans h5)
  ·obtain rfl:l5=k:=af
   go_wp2;go_ret;refine al.t (fun i j p q hi hj h1 h2 h3 h4=>?_) HB.out;rw[HQ.out i p ow hi h1 h3,HQ.out j q jq hj h2 h4]

theorem a_.inj {c:Cl} {t:ByteArray} {v v':Vd} (hx:aC Xd.n c.xs) (hv:aC Vd.n c.vs) (h:a_ c t v) (h':a_ c t v'):v=v':=by
 obtain⟨i,j,x,e1,e2,e3,e4⟩:=h;obtain⟨i',j',x',f1,f2,f3,f4⟩:=h';obtain⟨_,rfl⟩:=hx.inj e1 f1 (e2.trans f2.symm);exact (hv.inj e3 f3 (e4.trans f4.symm)).2
def tC (c:Cl) (p:Pd):Prop:=∃(i:Nat) (n:Nd),c.ns[i]?=some n/\n.n=p.d/\(p.z=⟨#[]⟩\/p.z=n.z)/\∀(j:Nat) t,p.zs[j]?=some t->∃v,a_ c t v/\v.z=n.z
def uF (c:Cl) (p:Pd):Prop:=∃(i:Nat) (n:Nd),c.ns[i]?=some n/\n.n=p.d/\n.d=false/\∀(j:Nat) t,p.zs[j]?=some t->∃v,a_ c t v/\InL n.zs v.n
def nT (c:Cl) (n:Nd):Prop:=∀(j:Nat) t,n.zs[j]?=some t->∃(i:Nat) (v:Vd),c.vs[i]?=some v/\v.n=t/\(n.d=true\/InL v.zs n.n)

theorem nH (d:Ad) (c:Cl) (p:Pd) (pa:Option Addr) (pl pc:Nat) (w:World) (hr:aI w d c.raw) (hn:aC Nd.n c.ns) (hx:aC Xd.n c.xs) (hv:aC Vd.n c.vs) (hne:∀(j:Nat) v,c.vs[j]?=some v->¬v.n=⟨#[]⟩) (hp:av w pa pl pc p.zs):
  Calls Tryz.prog 157 #[.agg #[.slice d.a1 d.l1 d.c1,.slice d.a2 d.l2 d.c2,.slice d.a3 d.l3 d.c3,.slice d.a4 d.l4 d.c4,.slice d.a5 d.l5 d.c5,.int .i64 c.now],.agg #[.string p.n,.int .i64 p.c,.string p.z,.slice pa pl pc,.string p.d,.int .i64 p.p]] w (al (tC c p) w):=by
 have HR:=aa hr;have HN:=aa hn;obtain⟨HX,HV,HNE⟩:=fF;have HP:=aa hp;have hlc:=vI hp.2.1 hp.2.2.1;have hzl:=hp.1;have HB:=aa (vG w.heap.size w);clear hr hn hx hv hne hp;go_enter Tryz.func157,Tryz.ntmps157;go_wp2_with fail;refine (dU d c.now c.ns p.d w _ HR.n (aD _ _ _)).mono ?_;rintro e w1 ⟨hb,hf⟩;obtain⟨HA0,HA1,hbx⟩:=bN hb;have Bk:=aa HA0;have Bp:=aa HA1;replace HB:=upB HB hbx;clear hb hbx HA0 HA1;rcases hf with ⟨hh,n,va,vl,vc,hx,hn,rfl,z0,z1,hvr⟩|⟨hh,rfl⟩;rotate_left
 ·exact sY
 have HX1:=aa hx;have HN1:=aa hn;have HT1:=aa hvr;clear hx hn hh z0 z1 hvr;have hz:(p.z=⟨#[]⟩\/p.z=n.z)\/¬(p.z=⟨#[]⟩\/p.z=n.z):=Classical.em _;rcases hz with hz|hz;rotate_left
 ·have q1:=bj (fun e=>hz (.inl e));have q2:=bk (fun e=>hz (.inr e));have HC:=aa hz;clear hz;obtain⟨k0,k1,k2,k3,k4,k5⟩:=cs6 Bk;obtain⟨p0,p1,p2,p3,p4,p5⟩:=cs6 Bp;have ltp_1:=ae Bp.out;go_wp2;go_ret;refine al.f (fun ⟨i,m,e1,e2,e3,_⟩=>?_) (HB.alloc HB.size _);obtain⟨_,rfl⟩:=HN.inj e1 HX1.out (e2.trans HN1.symm);exact HC.out e3
 have HC:=aa hz;have hq:(p.z.toList.isEmpty=true)\/(p.z.toList.isEmpty=false/\(p.z.toList==n.z.toList)=true):=by
  by_cases e:p.z=⟨#[]⟩
  ·exact .inl (cW e)
  ·exact .inr ⟨bj e,aP (HC.resolve_left e)⟩
 clear hz;rcases hq with hq|⟨hq,hq2⟩
 ·exact uq
 ·exact uq

theorem qJ (d:Ad) (c:Cl) (p:Pd) (pa:Option Addr) (pl pc:Nat) (w:World) (hr:aI w d c.raw) (hn:aC Nd.n c.ns) (hx:aC Xd.n c.xs) (hv:aC Vd.n c.vs) (hne:∀(j:Nat) v,c.vs[j]?=some v->¬v.n=⟨#[]⟩) (hp:av w pa pl pc p.zs):
  Calls Tryz.prog 162 #[.agg #[.slice d.a1 d.l1 d.c1,.slice d.a2 d.l2 d.c2,.slice d.a3 d.l3 d.c3,.slice d.a4 d.l4 d.c4,.slice d.a5 d.l5 d.c5,.int .i64 c.now],.agg #[.string p.n,.int .i64 p.c,.string p.z,.slice pa pl pc,.string p.d,.int .i64 p.p]] w (al (uF c p) w):=by
 have HR:=aa hr;have HN:=aa hn;obtain⟨HX,HV,HNE⟩:=fF;have HP:=aa hp;have hlc:=vI hp.2.1 hp.2.2.1;have hzl:=hp.1;have HB:=aa (vG w.heap.size w);clear hr hn hx hv hne hp;go_enter Tryz.func162,Tryz.ntmps162;go_wp2_with fail;refine (dU d c.now c.ns p.d w _ HR.n (aD _ _ _)).mono ?_;rintro e w1 ⟨hb,hf⟩;obtain⟨HA0,HA1,hbx⟩:=bN hb;have Bk:=aa HA0;have Bp:=aa HA1;replace HB:=upB HB hbx;clear hb hbx HA0 HA1;rcases hf with ⟨hh,n,va,vl,vc,hx,hn,rfl,z0,z1,hvr⟩|⟨hh,rfl⟩;rotate_left
 ·exact sY
 have HX1:=aa hx;have HN1:=aa hn;have HT1:=aa hvr;clear hx hn hh z0 z1 hvr;cases hd:n.d;rotate_left
 ·obtain⟨k0,k1,k2,k3,k4,k5⟩:=cs6 Bk;obtain⟨p0,p1,p2,p3,p4,p5⟩:=cs6 Bp;have ltp_1:=ae Bp.out;go_wp2;go_ret;refine al.f (fun ⟨i,m,e1,e2,e3,_⟩=>?_) (HB.alloc HB.size _);obtain⟨_,rfl⟩:=HN.inj e1 HX1.out (e2.trans HN1.symm);rw[hd] at e3;cases e3
 have HC:=aa hd;clear hd;obtain⟨k0,k1,k2,k3,k4,k5⟩:=cs6 Bk;obtain⟨p0,p1,p2,p3,p4,p5⟩:=cs6 Bp;have ltp_1:=ae Bp.out;go_wp2;go_loopw [27] (fun i wr=> ∃k:Nat,k<=pl/\i=.int .i64 k/\Hid (∀(j:Nat) t,j<k->p.zs[j]?=some t->∃v,a_ c t v/\InL n.zs v.n)/\Hid (Below w.heap.size w wr)/\Hid (wr.heap[w.heap.size]?=some (.cells (clv d c.now) 36 (0,0)))/\Hid (wr.heap[w1.heap.size]?=some (.cells #[.string n.n,.string n.z,.int .i64 n.c,.int .i64 n.s,.int .i64 n.u,.bool false,.slice va vl vc] 56 (0,0)))) (fun i _=>pl - (intOf i).toNat);case atStart=>exact⟨0,by omega,rfl,fun _ _ h=>absurd h af,HB.alloc HB.size _,(vS _ _ _ (ae Bk.out)).trans Bk.out,vP⟩
 case round=>
  obtain⟨k,hk,rfl,HQ,HB,Bk,Bn⟩:=hrel;by_cases hlt:k<pl
  ·obtain⟨b,o,t,rfl,hb,hx,hc,hsz⟩:=(HP.below HB.out).at hlt;have HXt:=aa hx;clear hx hsz;obtain⟨k0,k1,k2,k3,k4,k5⟩:=cs6 Bk;obtain⟨n0,n1,n2,n3,n4,n5,n6⟩:=cs7 Bn;go_wp2_with fail;refine (iG d c t w _ HR.out HB.out HX.out HV.out HNE.out).mono ?_;rintro e w2 ⟨hb2,hf⟩;clear k0 k1 k2 k3 k4 k5 n0 n1 n2 n3 n4 n5 n6;replace Bk:=upK Bk hb2;replace Bn:=upK Bn hb2;replace HB:=upB HB hb2;clear hb2;clear hb hc;rcases hf with ⟨v,xa,xl,xc,hbd,rfl,z0,z2,hxr⟩|⟨hbd,rfl⟩;rotate_left
   ·exact pE
   have HD:=aa hbd;clear hbd hxr z0 z2;obtain⟨k0,k1,k2,k3,k4,k5⟩:=cs6 Bk;obtain⟨n0,n1,n2,n3,n4,n5,n6⟩:=cs7 Bn;have ltn_1:=ae Bn.out;go_wp2_with fail;refine (bI va vl vc n.zs v.n _ (HT1.below (HB.trans ((ai _ _).mono HB.size)))).mono ?_;rintro e w3 ⟨r,rfl,hi,hb3⟩;clear k0 k1 k2 k3 k4 k5 n0 n1 n2 n3 n4 n5 n6 ltn_1;obtain⟨HA0,hbx⟩:=aJ hb3;replace Bk:=upK Bk hbx;replace Bn:=upK Bn hbx;replace HB:=upB HB hbx;clear hb3 hbx HA0;have HI:=aa hi;clear hi;cases r
   ·go_wp2;go_ret;refine al.f (fun ⟨i,m,e1,e2,e3,e4⟩=>?_) HB.out;obtain⟨_,rfl⟩:=HN.inj e1 HX1.out (e2.trans HN1.symm);obtain⟨v',e5,e6⟩:=e4 k t HXt.out;obtain rfl:=a_.inj HX.out HV.out HD.out e5;have:=HI.2 e6;cases this
   ·go_wp2_with fail;refine⟨⟨k+1,by omega,by go_num,fun j s hj hs=>?_,HB.out,Bk.out,Bn.out⟩,by simp[intOf];omega⟩;by_cases e:j=k
    ·subst e;rw[HXt.out] at hs;obtain rfl:=vC hs;exact⟨v,HD.out,HI.1 bM⟩
    ·exact HQ.out j s af hs
  ·exact pz

theorem qQ (d:Ad) (c:Cl) (n:Nd) (pa:Option Addr) (pl pc:Nat) (w:World) (hr:aI w d c.raw) (hv:aC Vd.n c.vs) (hp:av w pa pl pc n.zs):
  Calls Tryz.prog 161 #[.agg #[.slice d.a1 d.l1 d.c1,.slice d.a2 d.l2 d.c2,.slice d.a3 d.l3 d.c3,.slice d.a4 d.l4 d.c4,.slice d.a5 d.l5 d.c5,.int .i64 c.now],.agg #[.string n.n,.string n.z,.int .i64 n.c,.int .i64 n.s,.int .i64 n.u,.bool n.d,.slice pa pl pc]] w (al (nT c n) w):=by
 have HR:=aa hr;have HV:=aa hv;have HP:=aa hp;have hlc:=vI hp.2.1 hp.2.2.1;have hzl:=hp.1;clear hr hv hp;go_enter Tryz.func161,Tryz.ntmps161;go_wp2;go_loopw [12] (fun i wr=> ∃k:Nat,k<=pl/\i=.int .i64 k/\Hid (∀(j:Nat) t,j<k->n.zs[j]?=some t->∃(i:Nat) (v:Vd),c.vs[i]?=some v/\v.n=t/\(n.d=true\/InL v.zs n.n))/\Hid (Below w.heap.size w wr)/\Hid (wr.heap[w.heap.size]?=some (.cells (clv d c.now) 36 (0,0)))/\Hid (wr.heap[w.heap.size+1]?=some (.cells (nov n pa pl pc) 56 (0,0)))) (fun i _=>pl - (intOf i).toNat);case atStart=>exact⟨0,by omega,rfl,fun _ _ h=>absurd h af,aD _ _ _,dE _ _ _,bV _ _ _⟩
 case round=>
  obtain⟨k,hk,rfl,HQ,HB,Bk,Bn⟩:=hrel;by_cases hlt:k<pl
  ·obtain⟨b,o,t,rfl,hb,hx,hc,hsz⟩:=(HP.below HB.out).at hlt;have HXt:=aa hx;clear hx hsz;obtain⟨k0,k1,k2,k3,k4,k5⟩:=cs6 Bk;obtain⟨n0,n1,n2,n3,n4,n5,n6⟩:=cs7 Bn;go_wp2_with fail;refine (dp d c.now c.vs t w _ HR.v HB.out).mono ?_;rintro e w2 ⟨hb2,hf⟩;clear k0 k1 k2 k3 k4 k5 n0 n1 n2 n3 n4 n5 n6;replace Bk:=upK Bk hb2;replace Bn:=upK Bn hb2;replace HB:=upB HB hb2;clear hb2;clear hb hc;rcases hf with ⟨hh,v,va,vl,vc,hx,hn,rfl,z0,z2,z3,z5,hvr⟩|⟨hh,rfl⟩;rotate_left
   ·have HH:=aa hh;clear hh;obtain⟨k0,k1,k2,k3,k4,k5⟩:=cs6 Bk;obtain⟨n0,n1,n2,n3,n4,n5,n6⟩:=cs7 Bn;have ltn_1:=ae Bn.out;go_wp2;go_ret;refine al.f (fun h=>?_) (HB.alloc HB.size _);obtain⟨i,v,e1,e2,_⟩:=h k t HXt.out;have:=(cq HV.out e1 e2).2;rw[HH.out] at this;cases this
   have HXv:=aa hx;have HNv:=aa hn;have HTv:=aa hvr;clear hx hn hh z0 z2 z3 z5 hvr;rcases wY n.d with hd|hd
   ·have HD:=aa hd;clear hd;obtain⟨k0,k1,k2,k3,k4,k5⟩:=cs6 Bk;obtain⟨n0,n1,n2,n3,n4,-,n6⟩:=cs7 Bn;have ltn_1:=ae Bn.out;have n5:=(aB Bn.out 5).trans (congrArg (fun z=>some (Value.bool z)) HD.out);go_wp2_with fail;refine⟨⟨k+1,by omega,by go_num,fun j s hj hs=>?_,(HB.alloc HB.size _),(vS _ _ _ (ae Bk.out)).trans Bk.out,(vS _ _ _ (ae Bn.out)).trans Bn.out⟩,by simp[intOf];omega⟩;by_cases e:j=k
    ·subst e;rw[HXt.out] at hs;obtain rfl:=vC hs;exact⟨_,v,HXv.out,HNv.out,.inl HD.out⟩
    ·exact HQ.out j s af hs
   ·have HD:=aa hd;clear hd;obtain⟨k0,k1,k2,k3,k4,k5⟩:=cs6 Bk;obtain⟨n0,n1,n2,n3,n4,-,n6⟩:=cs7 Bn;have ltn_1:=ae Bn.out;have n5:=(aB Bn.out 5).trans (congrArg (fun z=>some (Value.bool z)) HD.out);go_wp2_with fail;refine (bI va vl vc v.zs n.n _ (HTv.below (HB.trans ((ai _ _).mono HB.size)))).mono ?_;rintro e w3 ⟨r,rfl,hi,hb3⟩;clear k0 k1 k2 k3 k4 k5 n0 n1 n2 n3 n4 n6 ltn_1 n5;obtain⟨HA0,hbx⟩:=aJ hb3;replace Bk:=upK Bk hbx;replace Bn:=upK Bn hbx;have Bv:=aa HA0;replace HB:=upB HB hbx;clear hb3 hbx HA0;have HI:=aa hi;clear hi;cases r
    ·go_wp2;go_ret;refine al.f (fun h=>?_) HB.out;obtain⟨i,v',e1,e2,e3⟩:=h k t HXt.out;obtain⟨_,rfl⟩:=HV.inj e1 HXv.out (e2.trans HNv.symm);rcases e3 with e3|e3
     ·rw[HD.out] at e3;cases e3
     ·have:=HI.2 e3;cases this
    ·go_wp2_with fail;refine⟨⟨k+1,by omega,by go_num,fun j s hj hs=>?_,HB.out,Bk.out,Bn.out⟩,by simp[intOf];omega⟩;by_cases e:j=k
     ·subst e;rw[HXt.out] at hs;obtain rfl:=vC hs;exact⟨_,v,HXv.out,HNv.out,.inr (HI.1 bM)⟩
     ·exact HQ.out j s af hs
  ·exact qd

open Classical in
noncomputable def onOf (t:ByteArray):List Vd->Int
 | []=>0
 | v ::vs=>(if InL v.zs t then 1 else 0)+onOf t vs
theorem fK (t:ByteArray):∀vs us:List Vd,onOf t (vs++us)=onOf t vs+onOf t us
 | [],us=>by simp[onOf]
 | v ::vs,us=>by simp[onOf,fK t vs];omega
open Classical in
theorem fv {t:ByteArray} {vs:List Vd} {k:Nat} {v:Vd} (h:vs[k]?=some v):onOf t (vs.take (k+1))=onOf t (vs.take k)+(if InL v.zs t then 1 else 0):=by
 rw[wA,h,fK];simp[onOf]

theorem gD (d:Ad) (now:Int) (vs:List Vd) (t:ByteArray) (w:World) (hr:aE w d.a3 d.l3 d.c3 8 (vs.map vdF)) (hl:vs.length<=8):
  Calls Tryz.prog 160 #[.agg #[.slice d.a1 d.l1 d.c1,.slice d.a2 d.l2 d.c2,.slice d.a3 d.l3 d.c3,.slice d.a4 d.l4 d.c4,.slice d.a5 d.l5 d.c5,.int .i64 now],.string t] w fun e w'=>e=.returned (.int .i64 (onOf t vs))/\Below w.heap.size w w':=by
 obtain⟨a1,l1,y1,a2,l2,y2,a3,l3,y3,a4,l4,y4,a5,l5,y5⟩:=d;dsimp only at hr ⊢;have HR:=aa hr;have hxl:vs.length=l3:=dJ
 clear hr;go_enter Tryz.func160,Tryz.ntmps160;go_wp2;go_loopw [5,11] (fun q i wr=> ∃(k:Nat) (s:Int),k<=l3/\q=.int .i64 s/\i=.int .i64 k/\Hid (s=onOf t (vs.take k))/\0<=s/\s<=k/\Hid (Below w.heap.size w wr)) (fun _ i _=>l3 - (intOf i).toNat);case atStart=>exact⟨0,0,by omega,rfl,rfl,rfl,by omega,by omega,ai _ _⟩
 case round=>
  obtain⟨k,s,hk,rfl,rfl,HS,hs0,hs1,HB⟩:=hrel;by_cases hlt:k<l3
  ·obtain⟨b,o,v,rfl,hb,hx,hat⟩:=bo (HR.below HB.out) hlt;obtain⟨va,vl,vc,hvr,z0,z2,z3,z5,c0,c1,c2,c3,c4,c5,c6,c7⟩:=aF hat;have HX:=aa hx;have HT:=aa hvr;clear hat hx z0 z2 z3 z5 hvr;go_wp2_with fail;refine (bI va vl vc v.zs t _ (HT.below (ai _ _))).mono ?_;rintro e w1 ⟨r,rfl,hi,hb2⟩;obtain⟨HA0,hbx⟩:=aJ hb2;replace HB:=upB HB hbx;clear hb2 hbx HA0;have HI:=aa hi;clear hi hb c0 c1 c2 c3 c4 c5 c6 c7;cases r
   ·go_wp2;refine⟨⟨k+1,s,by omega,rfl,by go_num,?_,by omega,by omega,HB.out⟩,by simp[intOf];omega⟩;exact pO
   ·go_wp2;refine⟨⟨k+1,s+1,by omega,by go_num,by go_num,?_,by omega,by omega,HB.out⟩,by simp[intOf];omega⟩;show _=_;rw[fv HX.out,if_pos (HI.1 bM),<-HS.out]
  ·obtain rfl:l3=k:=af
   exact oT

def PQ1 (c:Cl) (p:Pd):Prop:=(∀(j:Nat) t,p.zs[j]?=some t->hit Xd.n c.xs t=true)/\(p.d=⟨#[]⟩\/tC c p)
def PQ2 (c:Cl) (n:Nd):Prop:=cpuOf n.n c.ps<=n.c
def PQ3 (c:Cl) (v:Vd):Prop:=v.x=true->¬v.m=⟨#[]⟩->mZ c v.m
def iN (c:Cl):Prop:=(∀(j:Nat) z,c.ps[j]?=some z->PQ1 c z)/\(∀(j:Nat) z,c.ns[j]?=some z->PQ2 c z)/\(∀(j:Nat) z,c.vs[j]?=some z->PQ3 c z)

theorem kd (d:Ad) (c:Cl) (w:World) (hr:aI w d c.raw) (hn:aC Nd.n c.ns) (hx:aC Xd.n c.xs) (hv:aC Vd.n c.vs) (hne:∀(j:Nat) v,c.vs[j]?=some v->¬v.n=⟨#[]⟩) (hps8:c.ps.length<=8) (hpc:∀(j:Nat) p,c.ps[j]?=some p->0<=p.c/\p.c<=1000000) (hG:ens w):
  Calls Tryz.prog 136 #[.agg #[.slice d.a1 d.l1 d.c1,.slice d.a2 d.l2 d.c2,.slice d.a3 d.l3 d.c3,.slice d.a4 d.l4 d.c4,.slice d.a5 d.l5 d.c5,.int .i64 c.now]] w (al (iN c) w):=by
 obtain⟨a1,l1,y1,a2,l2,y2,a3,l3,y3,a4,l4,y4,a5,l5,y5⟩:=d;dsimp only;obtain⟨HR,hl1,hm1,hl3⟩:=oA;have hm3:l3<=9223372036854775807:=vI hr.v.2.1 hr.v.2.2.1;obtain⟨hl5,hm5⟩:=jC;clear hr;have HE:=aa hG;have HNR:=aa hn;have HXR:=aa hx;have HVR:=aa hv;have HNE:=aa hne;have HL5:=aa hps8;have HPC:=aa hpc;clear hn hx hv hne hps8 hpc hG;go_enter Tryz.func136,Tryz.ntmps136;go_wp2;go_loopw [12] (fun i wr=> ∃k:Nat,k<=l5/\i=.int .i64 k/\Hid (∀(j:Nat) z,j<k->c.ps[j]?=some z->PQ1 c z)/\Hid (Below w.heap.size w wr)/\Hid (wr.heap[w.heap.size]?=some (.cells (clo6 a1 l1 y1 a2 l2 y2 a3 l3 y3 a4 l4 y4 a5 l5 y5 c.now) 36 (0,0)))) (fun i _=>l5 - (intOf i).toNat);case atStart=>exact⟨0,by omega,rfl,fun _ _ h=>absurd h af,ai _ _,vP⟩
 case round=>
  obtain⟨k,hk,rfl,HQ,HB,Bk⟩:=hrel;by_cases hlt:k<l5
  ·obtain⟨b,o,p,rfl,hb,hx,hat⟩:=bB (HR.p.below HB.out) hlt;obtain⟨va,vl,vc,hvr,z0,z2,z4,c0,c1,c2,c3,c4,c5⟩:=aL hat;have HXp:=aa hx;have HTp:=aa hvr;clear hat hx z0 z2 z4 hvr;obtain⟨k0,k1,k2,k3,k4,k5⟩:=cs6 Bk;have ltk_0:=ae Bk.out;go_wp2_with fail;refine (gF ⟨a1,l1,y1,a2,l2,y2,a3,l3,y3,a4,l4,y4,(some ⟨b,o,none⟩),l5,y5⟩ c.now c.xs va vl vc p.zs _ (HR.x.below (HB.trans ((ai _ _).mono HB.size))) (HTp.below (ai _ _)) (HE.below (HB.trans ((ai _ _).mono HB.size)))).mono ?_;rintro e w1 ⟨hb2,hf⟩;clear k0 k1 k2 k3 k4 k5 ltk_0;obtain⟨HA0,hbx⟩:=aJ hb2;replace Bk:=upK Bk hbx;have Br:=aa HA0;replace HTp:=aa (HTp.below hbx);replace HB:=upB HB hbx;clear hb2 hbx HA0;clear hb c0 c1 c2 c3 c4 c5;rcases hf with ⟨hh,rfl⟩|⟨hh,T,q,rfl⟩;rotate_left
   ·have HH:=aa hh;clear hh;obtain⟨k0,k1,k2,k3,k4,k5⟩:=cs6 Bk;obtain⟨r0,r1,r2,r3,r4,r5⟩:=cs6 Br;go_wp2;go_ret;exact al.f (fun h=>HH.out (h.1 k p HXp.out).1) HB.out
   have HH:=aa hh;clear hh;by_cases he:p.d=⟨#[]⟩
   ·have hq:=cW he;have HEm:=aa he;clear he;obtain⟨k0,k1,k2,k3,k4,k5⟩:=cs6 Bk;obtain⟨r0,r1,r2,r3,r4,r5⟩:=cs6 Br;go_wp2_with fail;refine⟨⟨k+1,by omega,by go_num,fun j z hj hz=>?_,HB.out,Bk.out⟩,by simp[intOf];omega⟩;by_cases e:j=k
    ·subst e;rw[HXp.out] at hz;exact kR
    ·exact HQ.out j z af hz
   ·have hq:=bj he;have HEm:=aa he;clear he;obtain⟨k0,k1,k2,k3,k4,k5⟩:=cs6 Bk;obtain⟨r0,r1,r2,r3,r4,r5⟩:=cs6 Br;go_wp2_with fail;refine (nH ⟨a1,l1,y1,a2,l2,y2,a3,l3,y3,a4,l4,y4,(some ⟨b,o,none⟩),l5,y5⟩ c p va vl vc _ (HR.below HB.out) HNR.out HXR.out HVR.out HNE.out HTp.out).mono ?_;rintro e w2 ⟨r,rfl,hi,hb3⟩;clear k0 k1 k2 k3 k4 k5 r0 r1 r2 r3 r4 r5;replace Bk:=upK Bk hb3;replace Br:=upK Br hb3;replace HTp:=aa (HTp.below hb3);replace HB:=upB HB hb3;clear hb3;have HI:=aa hi;clear hi;cases r
    ·go_wp2;go_ret;refine al.f (fun h=>?_) HB.out;rcases (h.1 k p HXp.out).2 with h2|h2
     ·exact HEm.out h2
     ·have:=HI.2 h2;cases this
    ·go_wp2_with fail;refine⟨⟨k+1,by omega,by go_num,fun j z hj hz=>?_,HB.out,Bk.out⟩,by simp[intOf];omega⟩;by_cases e:j=k
     ·subst e;rw[HXp.out] at hz;exact oJ
     ·exact HQ.out j z af hz
  ·obtain rfl:l5=k:=af
   have HQ1:Hid (∀(j:Nat) z,c.ps[j]?=some z->PQ1 c z):=fun j z hz=>HQ.out j z cd hz;clear HQ;have kc:=ck0 Bk;go_wp2;go_loopw [36] (fun i wr=> ∃k:Nat,k<=l1/\i=.int .i64 k/\Hid (∀(j:Nat) z,j<k->c.ns[j]?=some z->PQ2 c z)/\Hid (Below w.heap.size w wr)/\Hid (wr.heap[w.heap.size]?=some (.cells (clo6 a1 l1 y1 a2 l2 y2 a3 l3 y3 a4 l4 y4 a5 l5 y5 c.now) 36 (0,0)))) (fun i _=>l1 - (intOf i).toNat);case atStart=>exact⟨0,by omega,rfl,fun _ _ h=>absurd h af,HB.out,Bk.out⟩
   case round=>
    obtain⟨k,hk,rfl,HQ,HB,Bk⟩:=hrel;by_cases hlt:k<l1
    ·obtain⟨b,o,n,rfl,hb,hx,hat⟩:=bJ (HR.n.below HB.out) hlt;obtain⟨va,vl,vc,hvr,z0,z1,c0,c1,c2,c3,c4,c5,c6⟩:=aO hat;have HXn:=aa hx;clear hat hx z0 z1 hvr;obtain⟨GK,GR,HW⟩:=sx;obtain⟨k0,k1,k2,k3,k4,k5⟩:=sl6 GK;obtain⟨r0,r1,r2,r3,r4,r5⟩:=sl6 GR;have hne0:=Wd.ne (wr.alloc (.cells (nov n va vl vc) 56));have HC:=aa (fun q:Wd (wr.alloc (.cells (nov n va vl vc) 56))=>iz ⟨(some ⟨b,o,none⟩),l1,y1,a2,l2,y2,a3,l3,y3,a4,l4,y4,a5,l5,y5⟩ c.now c.ps n.n q.w (HR.p.below (HW.trans (q.b.mono HW.size))) HL5.out HPC.out);go_wp2_with fail;refine ag an an ?_;repeat (go_big_quiet_step (first|(go_at_call 158;exact Calls.wide (HC.out _))|fail))
     refine wpQuiet_nil ?_;rintro _ ⟨q,rfl⟩;have HB2:=upB HW q.b;have Bk2:=upK GK q.b;clear HC hne0 k0 k1 k2 k3 k4 k5 r0 r1 r2 r3 r4 r5 c0 c1 c2 c3 c4 c5 c6 hb HB Bk HW GK GR;have HB:=HB2;have Bk:=Bk2;clear HB2 Bk2;by_cases hq:cpuOf n.n c.ps<=n.c
     ·exact sS
     ·have HQ2:=aa hq;go_wp2;go_ret;exact al.f (fun h=>by have h1:cpuOf n.n c.ps<=n.c:=(h.2.1 k n HXn.out);have h2:=HQ2.out;omega) HB.out
    ·obtain rfl:l1=k:=af
     have HQ2:Hid (∀(j:Nat) z,c.ns[j]?=some z->PQ2 c z):=fun j z hz=>HQ.out j z cd hz;clear HQ;have kc:=ck2 Bk;go_wp2;go_loopw [51] (fun i wr=> ∃k:Nat,k<=l3/\i=.int .i64 k/\Hid (∀(j:Nat) z,j<k->c.vs[j]?=some z->PQ3 c z)/\Hid (Below w.heap.size w wr)/\Hid (wr.heap[w.heap.size]?=some (.cells (clo6 a1 l1 y1 a2 l2 y2 a3 l3 y3 a4 l4 y4 a5 l5 y5 c.now) 36 (0,0)))) (fun i _=>l3 - (intOf i).toNat);case atStart=>exact⟨0,by omega,rfl,fun _ _ h=>absurd h af,HB.out,Bk.out⟩
     case round=>
      obtain⟨k,hk,rfl,HQ,HB,Bk⟩:=hrel;by_cases hlt:k<l3
      ·obtain⟨b,o,v,rfl,hb,hx,hat⟩:=bo (HR.v.below HB.out) hlt;obtain⟨va,vl,vc,hvr,z0,z2,z3,z5,c0,c1,c2,c3,c4,c5,c6,c7⟩:=aF hat;have HXv:=aa hx;clear hat hx z0 z2 z3 z5 hvr;have hcase:(v.x=false\/v.m=⟨#[]⟩)\/(v.x=true/\¬v.m=⟨#[]⟩):=by
        rcases wY v.x with h|h
        ·by_cases e:v.m=⟨#[]⟩
         ·exact .inl (.inr e)
         ·exact .inr ⟨h,e⟩
        ·exact .inl (.inl h)
       rcases hcase with hcase|⟨hs,he⟩
       ·have HCs:=aa hcase;rcases hcase with hs|he
        ·exact o6
        ·have hq:=cW he;clear he;rcases wY v.x with hs|hs
         ·exact o6
         ·exact o6
       ·have hq:=bj he;have HEm:=aa he;have HSi:=aa hs;rw[hs] at c4;clear he hs;obtain⟨k0,k1,k2,k3,k4,k5⟩:=cs6 Bk;have ltk_0:=ae Bk.out;go_wp2_with fail;refine (qO ⟨a1,l1,y1,a2,l2,y2,(some ⟨b,o,none⟩),l3,y3,a4,l4,y4,a5,l5,y5⟩ c v.m _ (HR.below (HB.trans ((ai _ _).mono HB.size)))).mono ?_;rintro e w2 ⟨r,rfl,hi,hb3⟩;clear k0 k1 k2 k3 k4 k5 ltk_0;obtain⟨HA0,hbx⟩:=aJ hb3;replace Bk:=upK Bk hbx;have Br:=aa HA0;replace HB:=upB HB hbx;clear hb3 hbx HA0;have HI:=aa hi;clear hi hb c0 c1 c2 c3 c4 c5 c6 c7;cases r
        ·go_wp2;go_ret;exact al.f (fun h=>by have:=HI.2 ((h.2.2 k v HXv.out) HSi.out HEm.out);cases this) HB.out
        ·go_wp2_with fail;refine⟨⟨k+1,by omega,by go_num,fun j z hj hz=>?_,HB.out,Bk.out⟩,by simp[intOf];omega⟩;by_cases e:j=k
         ·subst e;rw[HXv.out] at hz;obtain rfl:=vC hz;exact fun _ _=>HI.1 bM
         ·exact HQ.out j z af hz
      ·obtain rfl:l3=k:=af
       have HQ3:Hid (∀(j:Nat) z,c.vs[j]?=some z->PQ3 c z):=fun j z hz=>HQ.out j z cd hz;clear HQ;go_wp2;go_ret;exact al.t ⟨HQ1.out,HQ2.out,HQ3.out⟩ HB.out

def AQ1 (c:Cl) (v:Vd):Prop:=∀(j:Nat) t,v.zs[j]?=some t->∃(i:Nat) (n:Nd),c.ns[i]?=some n/\n.n=t/\n.z=v.z
def AQ2 (c:Cl) (n:Nd):Prop:=onOf n.n c.vs<=n.s
def ie (c:Cl):Prop:=(∀(j:Nat) z,c.vs[j]?=some z->AQ1 c z)/\(∀(j:Nat) z,c.ns[j]?=some z->AQ2 c z)

theorem gQ (d:Ad) (c:Cl) (w:World) (hr:aI w d c.raw) (hn:aC Nd.n c.ns) (hvs8:c.vs.length<=8):
  Calls Tryz.prog 137 #[.agg #[.slice d.a1 d.l1 d.c1,.slice d.a2 d.l2 d.c2,.slice d.a3 d.l3 d.c3,.slice d.a4 d.l4 d.c4,.slice d.a5 d.l5 d.c5,.int .i64 c.now]] w (al (ie c) w):=by
 obtain⟨a1,l1,y1,a2,l2,y2,a3,l3,y3,a4,l4,y4,a5,l5,y5⟩:=d;dsimp only;obtain⟨HR,hl1,hm1,hl3⟩:=oA;have hm3:l3<=9223372036854775807:=vI hr.v.2.1 hr.v.2.2.1;clear hr;have HNR:=aa hn;have HL3:=aa hvs8;clear hn hvs8;go_enter Tryz.func137,Tryz.ntmps137;go_wp2;go_loopw [14] (fun i wr=> ∃k:Nat,k<=l3/\i=.int .i64 k/\Hid (∀(j:Nat) z,j<k->c.vs[j]?=some z->AQ1 c z)/\Hid (Below w.heap.size w wr)/\Hid (wr.heap[w.heap.size]?=some (.cells (clo6 a1 l1 y1 a2 l2 y2 a3 l3 y3 a4 l4 y4 a5 l5 y5 c.now) 36 (0,0)))) (fun i _=>l3 - (intOf i).toNat);case atStart=>exact⟨0,by omega,rfl,fun _ _ h=>absurd h af,ai _ _,vP⟩
 case round=>
  obtain⟨k,hk,rfl,HQ,HB,Bk⟩:=hrel;by_cases hlt:k<l3
  ·obtain⟨b,o,v,rfl,hb,hx,hat⟩:=bo (HR.v.below HB.out) hlt;obtain⟨va,vl,vc,hvr,z0,z2,z3,z5,c0,c1,c2,c3,c4,c5,c6,c7⟩:=aF hat;have HXv:=aa hx;have HTv:=aa hvr;clear hat hx z0 z2 z3 z5 hvr;have hvl:=HTv.1;have hvc:=vI HTv.2.1 HTv.2.2.1;have HVL:=aa hvl;clear hvl;have KV:=aa ((vS wr (.cells (vov v va vl vc) 105) _ (ae Bk.out)).trans Bk.out);obtain⟨GV,BV⟩:=sh;have TV:=aa (HTv.below (ai wr (.cells (vov v va vl vc) 105)));obtain⟨W,hW⟩:∃W,W=wr.alloc (.cells (vov v va vl vc) 105):=⟨_,rfl⟩;obtain⟨gb,hgb⟩:∃gb,gb=wr.heap.size:=⟨_,rfl⟩;rw[<-hW] at KV GV BV TV;rw[<-hgb] at GV;go_wp2;rw[<-hW,<-hgb];clear hW hgb HB Bk HTv c0 c1 c2 c3 c4 c5 c6 c7 hb;go_loopw [21] (fun i wr=> ∃kq:Nat,kq<=vl/\i=.int .i64 kq/\Hid (∀(j:Nat) t,j<kq->v.zs[j]?=some t->∃(i:Nat) (n:Nd),c.ns[i]?=some n/\n.n=t/\n.z=v.z)/\Hid (Below W.heap.size W wr)) (fun i _=>vl - (intOf i).toNat);case atStart=>exact⟨0,by omega,rfl,fun _ _ h=>absurd h af,vG _ _⟩
   case round=>
    obtain⟨kq,hkq,rfl,HQ2,HBW⟩:=hrel;obtain⟨HB,Bk⟩:=jx;have Bv:=upK GV HBW.out;by_cases hlt2:kq<vl
    ·obtain⟨b2,o2,t,rfl,hb,hx,hc,hsz⟩:=(TV.below HBW.out).at hlt2;have HXt:=aa hx;clear hx hsz;obtain⟨k0,k1,k2,k3,k4,k5⟩:=cs6 Bk;obtain⟨v0,v1,v2,v3,v4,v5,v6,v7⟩:=cs8 Bv;go_wp2_with fail;refine (dU ⟨a1,l1,y1,a2,l2,y2,(some ⟨b,o,none⟩),l3,y3,a4,l4,y4,a5,l5,y5⟩ c.now c.ns t w _ HR.n HB.out).mono ?_;rintro e w1 ⟨hb2,hf⟩;have HBW1:=upB HBW hb2;clear k0 k1 k2 k3 k4 k5 v0 v1 v2 v3 v4 v5 v6 v7;replace Bk:=upK Bk hb2;replace Bv:=upK Bv hb2;replace HB:=upB HB hb2;clear hb2;clear hb hc;rcases hf with ⟨hh,m,ma,ml,mc,hx,hn,rfl,z0,z1,hmr⟩|⟨hh,rfl⟩;rotate_left
     ·have HH:=aa hh;clear hh;obtain⟨k0,k1,k2,k3,k4,k5⟩:=cs6 Bk;obtain⟨v0,v1,v2,v3,v4,v5,v6,v7⟩:=cs8 Bv;have ltv_1:=ae Bv.out;go_wp2;go_ret;refine al.f (fun h=>?_) (HB.alloc HB.size _);obtain⟨i,m,e1,e2,_⟩:=(h.1 k v HXv.out) kq t HXt.out;have:=(cq HNR.out e1 e2).2;rw[HH.out] at this;cases this
     have HXm:=aa hx;have HNm:=aa hn;clear hx hn hh z0 z1 hmr;by_cases hz:m.z=v.z
     ·have q1:=aP hz;have HZ:=aa hz;clear hz;obtain⟨k0,k1,k2,k3,k4,k5⟩:=cs6 Bk;obtain⟨v0,v1,v2,v3,v4,v5,v6,v7⟩:=cs8 Bv;have ltv_1:=ae Bv.out;go_wp2_with fail;refine⟨⟨kq+1,by omega,by go_num,fun j s hj hs=>?_,HBW1.alloc HBW1.size _⟩,by simp[intOf];omega⟩;by_cases e:j=kq
      ·subst e;rw[HXt.out] at hs;obtain rfl:=vC hs;exact⟨_,m,HXm.out,HNm.out,HZ.out⟩
      ·exact HQ2.out j s af hs
     ·have q1:=bk hz;have HZ:=aa hz;clear hz;obtain⟨k0,k1,k2,k3,k4,k5⟩:=cs6 Bk;obtain⟨v0,v1,v2,v3,v4,v5,v6,v7⟩:=cs8 Bv;have ltv_1:=ae Bv.out;go_wp2;go_ret;refine al.f (fun h=>?_) (HB.alloc HB.size _);obtain⟨i,m2,e1,e2,e3⟩:=(h.1 k v HXv.out) kq t HXt.out;obtain⟨_,rfl⟩:=HNR.inj e1 HXm.out (e2.trans HNm.symm);exact HZ.out e3
    ·exact tg
  ·obtain rfl:l3=k:=af
   have HQ1:Hid (∀(j:Nat) z,c.vs[j]?=some z->AQ1 c z):=fun j z hz=>HQ.out j z cd hz;clear HQ;have kc:=ck0 Bk;go_wp2;go_loopw [45] (fun i wr=> ∃k:Nat,k<=l1/\i=.int .i64 k/\Hid (∀(j:Nat) z,j<k->c.ns[j]?=some z->AQ2 c z)/\Hid (Below w.heap.size w wr)/\Hid (wr.heap[w.heap.size]?=some (.cells (clo6 a1 l1 y1 a2 l2 y2 a3 l3 y3 a4 l4 y4 a5 l5 y5 c.now) 36 (0,0)))) (fun i _=>l1 - (intOf i).toNat);case atStart=>exact⟨0,by omega,rfl,fun _ _ h=>absurd h af,HB.out,Bk.out⟩
   case round=>
    obtain⟨k,hk,rfl,HQ,HB,Bk⟩:=hrel;by_cases hlt:k<l1
    ·obtain⟨b,o,n,rfl,hb,hx,hat⟩:=bJ (HR.n.below HB.out) hlt;obtain⟨va,vl,vc,hvr,z0,z1,c0,c1,c2,c3,c4,c5,c6⟩:=aO hat;have HXn:=aa hx;clear hat hx z0 z1 hvr;obtain⟨GK,GR,HW⟩:=sx;obtain⟨k0,k1,k2,k3,k4,k5⟩:=sl6 GK;have r0:=fun q:Wd (wr.alloc (.cells (nov n va vl vc) 56))=>q.slot (o:=0) GR.out rfl;have r3:=fun q:Wd (wr.alloc (.cells (nov n va vl vc) 56))=>q.slot (o:=3) GR.out rfl;have hne0:=Wd.ne (wr.alloc (.cells (nov n va vl vc) 56));have HC:=aa (fun q:Wd (wr.alloc (.cells (nov n va vl vc) 56))=>gD ⟨(some ⟨b,o,none⟩),l1,y1,a2,l2,y2,a3,l3,y3,a4,l4,y4,a5,l5,y5⟩ c.now c.vs n.n q.w (HR.v.below (HW.trans (q.b.mono HW.size))) HL3.out);go_wp2_with fail;refine ag an an ?_;repeat (go_big_quiet_step (first|(go_at_call 160;exact Calls.wide (HC.out _))|fail))
     refine wpQuiet_nil ?_;rintro _ ⟨q,rfl⟩;have HB2:=upB HW q.b;have Bk2:=upK GK q.b;clear HC hne0 k0 k1 k2 k3 k4 k5 r0 r3 c0 c1 c2 c3 c4 c5 c6 hb HB Bk HW GK GR;have HB:=HB2;have Bk:=Bk2;clear HB2 Bk2;by_cases hq:onOf n.n c.vs<=n.s
     ·exact sS
     ·have HQ2:=aa hq;go_wp2;go_ret;exact al.f (fun h=>by have h1:onOf n.n c.vs<=n.s:=(h.2 k n HXn.out);have h2:=HQ2.out;omega) HB.out
    ·obtain rfl:l1=k:=af
     have HQ2:Hid (∀(j:Nat) z,c.ns[j]?=some z->AQ2 c z):=fun j z hz=>HQ.out j z cd hz;exact mC

def MQ2 (c:Cl) (p:Pd):Prop:=p.p=2->uF c p
def gK (c:Cl):Prop:=(∀(j:Nat) z,c.ns[j]?=some z->nT c z)/\(∀(j:Nat) z,c.ps[j]?=some z->MQ2 c z)

theorem iF (d:Ad) (c:Cl) (w:World) (hr:aI w d c.raw) (hn:aC Nd.n c.ns) (hx:aC Xd.n c.xs) (hv:aC Vd.n c.vs) (hne:∀(j:Nat) v,c.vs[j]?=some v->¬v.n=⟨#[]⟩):
  Calls Tryz.prog 138 #[.agg #[.slice d.a1 d.l1 d.c1,.slice d.a2 d.l2 d.c2,.slice d.a3 d.l3 d.c3,.slice d.a4 d.l4 d.c4,.slice d.a5 d.l5 d.c5,.int .i64 c.now]] w (al (gK c) w):=by
 obtain⟨a1,l1,y1,a2,l2,y2,a3,l3,y3,a4,l4,y4,a5,l5,y5⟩:=d;dsimp only;have HR:=aa hr;have hl1:c.ns.length=l1:=mr
 have hm1:l1<=9223372036854775807:=vI hr.n.2.1 hr.n.2.2.1;obtain⟨hl5,hm5⟩:=jC;clear hr;have HNR:=aa hn;have HXR:=aa hx;have HVR:=aa hv;have HNE:=aa hne;clear hn hx hv hne;go_enter Tryz.func138,Tryz.ntmps138;go_wp2;go_loopw [10] (fun i wr=> ∃k:Nat,k<=l1/\i=.int .i64 k/\Hid (∀(j:Nat) z,j<k->c.ns[j]?=some z->nT c z)/\Hid (Below w.heap.size w wr)/\Hid (wr.heap[w.heap.size]?=some (.cells (clo6 a1 l1 y1 a2 l2 y2 a3 l3 y3 a4 l4 y4 a5 l5 y5 c.now) 36 (0,0)))) (fun i _=>l1 - (intOf i).toNat);case atStart=>exact⟨0,by omega,rfl,fun _ _ h=>absurd h af,ai _ _,vP⟩
 case round=>
  obtain⟨k,hk,rfl,HQ,HB,Bk⟩:=hrel;by_cases hlt:k<l1
  ·obtain⟨b,o,n,rfl,hb,hx,hat⟩:=bJ (HR.n.below HB.out) hlt;obtain⟨va,vl,vc,hvr,z0,z1,c0,c1,c2,c3,c4,c5,c6⟩:=aO hat;have HXn:=aa hx;have HTn:=aa hvr;clear hat hx z0 z1 hvr;obtain⟨k0,k1,k2,k3,k4,k5⟩:=cs6 Bk;have ltk_0:=ae Bk.out;go_wp2_with fail;refine (qQ ⟨(some ⟨b,o,none⟩),l1,y1,a2,l2,y2,a3,l3,y3,a4,l4,y4,a5,l5,y5⟩ c n va vl vc _ (HR.below (HB.trans ((ai _ _).mono HB.size))) HVR.out (HTn.below (ai _ _))).mono ?_;rintro e w2 ⟨r,rfl,hi,hb3⟩;clear k0 k1 k2 k3 k4 k5 ltk_0;obtain⟨HA0,hbx⟩:=aJ hb3;replace Bk:=upK Bk hbx;replace HB:=upB HB hbx;clear hb3 hbx HA0;have HI:=aa hi;clear hi hb c0 c1 c2 c3 c4 c5 c6;cases r
   ·go_wp2;go_ret;exact al.f (fun h=>by have:=HI.2 (h.1 k n HXn.out);cases this) HB.out
   ·go_wp2_with fail;refine⟨⟨k+1,by omega,by go_num,fun j z hj hz=>?_,HB.out,Bk.out⟩,by simp[intOf];omega⟩;by_cases e:j=k
    ·subst e;rw[HXn.out] at hz;obtain rfl:=vC hz;exact HI.1 bM
    ·exact HQ.out j z af hz
  ·obtain rfl:l1=k:=af
   have HQ1:Hid (∀(j:Nat) z,c.ns[j]?=some z->nT c z):=fun j z hz=>HQ.out j z cd hz;clear HQ;have kc:=ck4 Bk;go_wp2;go_loopw [22] (fun i wr=> ∃k:Nat,k<=l5/\i=.int .i64 k/\Hid (∀(j:Nat) z,j<k->c.ps[j]?=some z->MQ2 c z)/\Hid (Below w.heap.size w wr)/\Hid (wr.heap[w.heap.size]?=some (.cells (clo6 a1 l1 y1 a2 l2 y2 a3 l3 y3 a4 l4 y4 a5 l5 y5 c.now) 36 (0,0)))) (fun i _=>l5 - (intOf i).toNat);case atStart=>exact⟨0,by omega,rfl,fun _ _ h=>absurd h af,HB.out,Bk.out⟩
   case round=>
    obtain⟨k,hk,rfl,HQ,HB,Bk⟩:=hrel;by_cases hlt:k<l5
    ·obtain⟨b,o,p,rfl,hb,hx,hat⟩:=bB (HR.p.below HB.out) hlt;obtain⟨va,vl,vc,hvr,z0,z2,z4,c0,c1,c2,c3,c4,c5⟩:=aL hat;have HXp:=aa hx;have HTp:=aa hvr;clear hat hx z0 z2 z4 hvr;by_cases hp2:p.p=2;rotate_left
     ·have HP2:=aa hp2;obtain⟨k0,k1,k2,k3,k4,k5⟩:=cs6 Bk;have ltk_0:=ae Bk.out;go_wp2;refine⟨⟨k+1,by omega,by go_num,fun j z hj hz=>?_,(HB.alloc HB.size _),(vS _ _ _ (ae Bk.out)).trans Bk.out⟩,by simp[intOf];omega⟩;exact qb
     have HP2:=aa hp2;rw[hp2] at c5;clear hp2;obtain⟨k0,k1,k2,k3,k4,k5⟩:=cs6 Bk;have ltk_0:=ae Bk.out;go_wp2_with fail;have HCall:=aa (qJ ⟨a1,l1,y1,a2,l2,y2,a3,l3,y3,a4,l4,y4,(some ⟨b,o,none⟩),l5,y5⟩ c p va vl vc (wr.alloc (.cells #[.string p.n,.int .i64 p.c,.string p.z,.slice va vl vc,.string p.d,.int .i64 2] 107)) (HR.below (HB.trans ((ai _ _).mono HB.size))) HNR.out HXR.out HVR.out HNE.out (HTp.below (ai _ _)));rw[HP2.out] at HCall;refine (HCall.out).mono ?_;rintro e w2 ⟨r,rfl,hi,hb3⟩;clear k0 k1 k2 k3 k4 k5 ltk_0;obtain⟨HA0,hbx⟩:=aJ hb3;replace Bk:=upK Bk hbx;replace HB:=upB HB hbx;clear hb3 hbx HA0;have HI:=aa hi;clear hi hb HCall c0 c1 c2 c3 c4 c5;cases r
     ·go_wp2;go_ret;exact al.f (fun h=>by have:=HI.2 ((h.2 k p HXp.out) HP2.out);cases this) HB.out
     ·go_wp2_with fail;refine⟨⟨k+1,by omega,by go_num,fun j z hj hz=>?_,HB.out,Bk.out⟩,by simp[intOf];omega⟩;by_cases e:j=k
      ·subst e;rw[HXp.out] at hz;obtain rfl:=vC hz;exact fun _=>HI.1 bM
      ·exact HQ.out j z af hz
    ·obtain rfl:l5=k:=af
     have HQ2:Hid (∀(j:Nat) z,c.ps[j]?=some z->MQ2 c z):=fun j z hz=>HQ.out j z cd hz;exact mC

def dm (c:Cl):Prop:=c8 lg Nd.n c.ns 6/\c8 lx Kd.n c.ks 8/\c8 kt Vd.n c.vs 8/\c8 km Xd.n c.xs 8/\c8 kY Pd.n c.ps 8
def bq (c:Cl):Prop:=Inn c.now 0 1000000/\dm c/\l9 c/\iN c/\ie c/\gK c

theorem nI (d:Ad) (c:Cl) (w:World) (hr:aI w d c.raw):
  Calls Tryz.prog 134 #[.agg #[.slice d.a1 d.l1 d.c1,.slice d.a2 d.l2 d.c2,.slice d.a3 d.l3 d.c3,.slice d.a4 d.l4 d.c4,.slice d.a5 d.l5 d.c5,.int .i64 c.now]] w (al (dm c) w):=by
 obtain⟨HR,HB⟩:=eH;clear hr;go_enter Tryz.func134,Tryz.ntmps134;go_wp2_with fail;refine (kK _ _ _ c.ns 6 _ (HR.n.below (HB.trans ((ai _ _).mono HB.size)))).mono ?_;rintro e w1 ⟨r,rfl,hi,hb⟩;obtain⟨HA0,hbx⟩:=aJ hb;have Bk:=aa HA0;replace HB:=upB HB hbx;clear hb hbx HA0;have HI1:=aa hi;clear hi;cases r
 ·exact oO
 obtain⟨k0,k1,k2,k3,k4,k5⟩:=cs6 Bk;go_wp2_with fail;refine (kL _ _ _ c.ks 8 _ (HR.k.below HB.out)).mono ?_;rintro e w2 ⟨r,rfl,hi,hb⟩;clear k0 k1 k2 k3 k4 k5;replace Bk:=upK Bk hb;replace HB:=upB HB hb;clear hb;have HI2:=aa hi;clear hi;cases r
 ·exact oQ
 obtain⟨k0,k1,k2,k3,k4,k5⟩:=cs6 Bk;go_wp2_with fail;refine (kI _ _ _ c.vs 8 _ (HR.v.below HB.out)).mono ?_;rintro e w3 ⟨r,rfl,hi,hb⟩;clear k0 k1 k2 k3 k4 k5;replace Bk:=upK Bk hb;replace HB:=upB HB hb;clear hb;have HI3:=aa hi;clear hi;cases r
 ·exact pU
 obtain⟨k0,k1,k2,k3,k4,k5⟩:=cs6 Bk;go_wp2_with fail;refine (kH _ _ _ c.xs 8 _ (HR.x.below HB.out)).mono ?_;rintro e w4 ⟨r,rfl,hi,hb⟩;clear k0 k1 k2 k3 k4 k5;replace Bk:=upK Bk hb;replace HB:=upB HB hb;clear hb;have HI4:=aa hi;clear hi;cases r
 ·exact pW
 obtain⟨k0,k1,k2,k3,k4,k5⟩:=cs6 Bk;go_wp2_with fail;refine (kJ _ _ _ c.ps 8 _ (HR.p.below HB.out)).mono ?_;rintro e w5 ⟨r,rfl,hi,hb⟩;clear k0 k1 k2 k3 k4 k5;replace Bk:=upK Bk hb;replace HB:=upB HB hb;clear hb;have HI5:=aa hi;clear hi;cases r
 ·obtain⟨k0,k1,k2,k3,k4,k5⟩:=cs6 Bk;go_wp2;go_ret;exact al.f (fun h=>by have:=HI5.2 h.2.2.2.2;cases this) HB.out
 go_wp2;go_ret;exact al.t ⟨HI1.1 bM,HI2.1 bM,HI3.1 bM,HI4.1 bM,HI5.1 bM⟩ HB.out

theorem dm.ne {c:Cl} (h:dm c) (j:Nat) (v:Vd) (hv:c.vs[j]?=some v):¬v.n=⟨#[]⟩:=fun e=>by
 have h1:=(h.2.2.1.2.1 j v hv).1.1;rw[e] at h1;exact absurd h1 ak
theorem dm.vt {c:Cl} (h:dm c) (j:Nat) (p:Pd) (hp:c.ps[j]?=some p):0<=p.c/\p.c<=1000000:=(h.2.2.2.2.2.1 j p hp).2.1

theorem lA (d:Ad) (c:Cl) (w:World) (hr:aI w d c.raw) (hG:ens w):
  Calls Tryz.prog 108 #[.agg #[.slice d.a1 d.l1 d.c1,.slice d.a2 d.l2 d.c2,.slice d.a3 d.l3 d.c3,.slice d.a4 d.l4 d.c4,.slice d.a5 d.l5 d.c5,.int .i64 c.now]] w (al (bq c) w):=by
 have HR:=aa hr;obtain⟨HE,HB⟩:=gd;clear hr hG;go_enter Tryz.func108,Tryz.ntmps108;go_wp2_with fail;refine (bp c.now 0 1000000 _).mono ?_;rintro e w1 ⟨r,rfl,hi,hw⟩;have hb:Below (w.alloc (.cells (clv d c.now) 36)).heap.size (w.alloc (.cells (clv d c.now) 36)) w1:=by first|(rw[hw];exact vG _ _)|(rw[<-hw];exact vG _ _)
 clear hw;obtain⟨HA0,hbx⟩:=aJ hb;have Bk:=aa HA0;replace HB:=upB HB hbx;clear hb hbx HA0;have HI1:=aa hi;clear hi;cases r
 ·exact oO
 obtain⟨k0,k1,k2,k3,k4,k5⟩:=cs6 Bk;go_wp2_with fail;refine (nI d c _ (HR.below HB.out)).mono ?_;rintro e w2 ⟨r,rfl,hi,hb⟩;clear k0 k1 k2 k3 k4 k5;replace Bk:=upK Bk hb;replace HB:=upB HB hb;clear hb;have HI2:=aa hi;clear hi;cases r
 ·exact oQ
 have HOK:=aa (HI2.1 bM);obtain⟨k0,k1,k2,k3,k4,k5⟩:=cs6 Bk;go_wp2_with fail;refine (lL d c _ (HR.below HB.out) HOK.2.2.2.1.2.2 HOK.2.2.1.2.2 (HE.below HB.out)).mono ?_;rintro e w3 ⟨r,rfl,hi,hb⟩;clear k0 k1 k2 k3 k4 k5;replace Bk:=upK Bk hb;replace HB:=upB HB hb;clear hb;have HI3:=aa hi;clear hi;cases r
 ·exact pU
 obtain⟨k0,k1,k2,k3,k4,k5⟩:=cs6 Bk;go_wp2_with fail;refine (kd d c _ (HR.below HB.out) HOK.1.2.2 HOK.2.2.2.1.2.2 HOK.2.2.1.2.2 HOK.ne (by have:=HOK.2.2.2.2.1;omega) HOK.vt (HE.below HB.out)).mono ?_;rintro e w4 ⟨r,rfl,hi,hb⟩;clear k0 k1 k2 k3 k4 k5;replace Bk:=upK Bk hb;replace HB:=upB HB hb;clear hb;have HI4:=aa hi;clear hi;cases r
 ·exact pW
 obtain⟨k0,k1,k2,k3,k4,k5⟩:=cs6 Bk;go_wp2_with fail;refine (gQ d c _ (HR.below HB.out) HOK.1.2.2 (by have:=HOK.2.2.1.1;omega)).mono ?_;rintro e w5 ⟨r,rfl,hi,hb⟩;clear k0 k1 k2 k3 k4 k5;replace Bk:=upK Bk hb;replace HB:=upB HB hb;clear hb;have HI5:=aa hi;clear hi;cases r
 ·exact pY
 obtain⟨k0,k1,k2,k3,k4,k5⟩:=cs6 Bk;go_wp2_with fail;refine (iF d c _ (HR.below HB.out) HOK.1.2.2 HOK.2.2.2.1.2.2 HOK.2.2.1.2.2 HOK.ne).mono ?_;rintro e w6 ⟨r,rfl,hi,hb⟩;clear k0 k1 k2 k3 k4 k5;replace Bk:=upK Bk hb;replace HB:=upB HB hb;clear hb;have HI6:=aa hi;clear hi;cases r
 ·exact pX
 go_wp2;go_ret;exact al.t ⟨HI1.1 bM,HI2.1 bM,HI3.1 bM,HI4.1 bM,HI5.1 bM,HI6.1 bM⟩ HB.out

theorem cF (a:Option Addr) (len cap:Nat) (zs:List ByteArray) (t:ByteArray) (w:World) (hr:av w a len cap zs):
  Calls Tryz.prog 55 #[.slice a len cap,.string t] w (al (InL zs t) w):=by
 have HR:=aa hr;have hlc:=vI hr.2.1 hr.2.2.1;have hzl:=hr.1;clear hr;go_enter Tryz.func55,Tryz.ntmps55;go_wp2;go_loop [5] (fun i=> ∃k:Nat,k<=len/\i=.int .i64 k/\Hid (∀(j:Nat) x,j<k->zs[j]?=some x->¬x=t)) (fun i=>len - (intOf i).toNat);case atStart=>exact⟨0,by omega,rfl,fun _ _ h=>absurd h af⟩
 case round=>
  obtain⟨k,hk,rfl,HE⟩:=hrel;by_cases hlt:k<len
  ·obtain⟨b,o,x,rfl,hb,hx,hc,hsz⟩:=HR.at hlt;have HX:=aa hx;clear hx;by_cases hn:x=t
   ·have hq:=aP hn;have HN:=aa hn;clear hn;go_wp2;go_ret;exact al.t ⟨k,by rw[HX.out,HN.out]⟩ (vG _ _)
   ·have hq:=bk hn;have HN:=aa hn;clear hn;go_wp2;refine⟨⟨k+1,by omega,by go_num,fun j z hj hz=>?_⟩,by simp[intOf];omega⟩;exact pg
  ·obtain rfl:len=k:=af
   go_wp2;go_ret;exact al.f (fun ⟨j,hj⟩=>HE.out j t jq hj rfl) (vG _ _)

theorem fZ (d:Ad) (now:Int) (xs:List Nd) (t:ByteArray) (w:World) (hr:aE w d.a1 d.l1 d.c1 7 (xs.map ndF)) (hs:aC Nd.n xs) {j:Nat} {x:Nd} (hx:xs[j]?=some x) (hn:x.n=t):
  Calls Tryz.prog 51 #[.agg #[.slice d.a1 d.l1 d.c1,.slice d.a2 d.l2 d.c2,.slice d.a3 d.l3 d.c3,.slice d.a4 d.l4 d.c4,.slice d.a5 d.l5 d.c5,.int .i64 now],.string t] w fun e w'=>e=.returned (.int .i64 j)/\Below w.heap.size w w':=by
 refine (eD d now xs t w hr).mono ?_;exact mK
theorem np (d:Ad) (now:Int) (xs:List Nd) (t:ByteArray) (w:World) (hr:aE w d.a1 d.l1 d.c1 7 (xs.map ndF)) (hn:∀(j:Nat) x,xs[j]?=some x->¬x.n=t):
  Calls Tryz.prog 51 #[.agg #[.slice d.a1 d.l1 d.c1,.slice d.a2 d.l2 d.c2,.slice d.a3 d.l3 d.c3,.slice d.a4 d.l4 d.c4,.slice d.a5 d.l5 d.c5,.int .i64 now],.string t] w fun e w'=>e=.returned (.int .i64 (-1))/\Below w.heap.size w w':=by
 refine (eD d now xs t w hr).mono ?_;exact mG

theorem dL (d:Ad) (now:Int) (xs:List Kd) (t:ByteArray) (w:World) (hr:aE w d.a2 d.l2 d.c2 4 (xs.map kdF)) (hs:aC Kd.n xs) {j:Nat} {x:Kd} (hx:xs[j]?=some x) (hn:x.n=t):
  Calls Tryz.prog 129 #[.agg #[.slice d.a1 d.l1 d.c1,.slice d.a2 d.l2 d.c2,.slice d.a3 d.l3 d.c3,.slice d.a4 d.l4 d.c4,.slice d.a5 d.l5 d.c5,.int .i64 now],.string t] w fun e w'=>e=.returned (.int .i64 j)/\Below w.heap.size w w':=by
 refine (i_ d now xs t w hr).mono ?_;exact mK
theorem gS (d:Ad) (now:Int) (xs:List Kd) (t:ByteArray) (w:World) (hr:aE w d.a2 d.l2 d.c2 4 (xs.map kdF)) (hn:∀(j:Nat) x,xs[j]?=some x->¬x.n=t):
  Calls Tryz.prog 129 #[.agg #[.slice d.a1 d.l1 d.c1,.slice d.a2 d.l2 d.c2,.slice d.a3 d.l3 d.c3,.slice d.a4 d.l4 d.c4,.slice d.a5 d.l5 d.c5,.int .i64 now],.string t] w fun e w'=>e=.returned (.int .i64 (-1))/\Below w.heap.size w w':=by
 refine (i_ d now xs t w hr).mono ?_;exact mG

theorem fX (d:Ad) (now:Int) (xs:List Vd) (t:ByteArray) (w:World) (hr:aE w d.a3 d.l3 d.c3 8 (xs.map vdF)) (hs:aC Vd.n xs) {j:Nat} {x:Vd} (hx:xs[j]?=some x) (hn:x.n=t):
  Calls Tryz.prog 56 #[.agg #[.slice d.a1 d.l1 d.c1,.slice d.a2 d.l2 d.c2,.slice d.a3 d.l3 d.c3,.slice d.a4 d.l4 d.c4,.slice d.a5 d.l5 d.c5,.int .i64 now],.string t] w fun e w'=>e=.returned (.int .i64 j)/\Below w.heap.size w w':=by
 refine (fY d now xs t w hr).mono ?_;exact mK
theorem gR (d:Ad) (now:Int) (xs:List Vd) (t:ByteArray) (w:World) (hr:aE w d.a3 d.l3 d.c3 8 (xs.map vdF)) (hn:∀(j:Nat) x,xs[j]?=some x->¬x.n=t):
  Calls Tryz.prog 56 #[.agg #[.slice d.a1 d.l1 d.c1,.slice d.a2 d.l2 d.c2,.slice d.a3 d.l3 d.c3,.slice d.a4 d.l4 d.c4,.slice d.a5 d.l5 d.c5,.int .i64 now],.string t] w fun e w'=>e=.returned (.int .i64 (-1))/\Below w.heap.size w w':=by
 refine (fY d now xs t w hr).mono ?_;exact mG

theorem eB (d:Ad) (now:Int) (xs:List Xd) (t:ByteArray) (w:World) (hr:aE w d.a4 d.l4 d.c4 5 (xs.map xdF)) (hs:aC Xd.n xs) {j:Nat} {x:Xd} (hx:xs[j]?=some x) (hn:x.n=t):
  Calls Tryz.prog 105 #[.agg #[.slice d.a1 d.l1 d.c1,.slice d.a2 d.l2 d.c2,.slice d.a3 d.l3 d.c3,.slice d.a4 d.l4 d.c4,.slice d.a5 d.l5 d.c5,.int .i64 now],.string t] w fun e w'=>e=.returned (.int .i64 j)/\Below w.heap.size w w':=by
 refine (eC d now xs t w hr).mono ?_;exact mK
theorem dV (d:Ad) (now:Int) (xs:List Xd) (t:ByteArray) (w:World) (hr:aE w d.a4 d.l4 d.c4 5 (xs.map xdF)) (hn:∀(j:Nat) x,xs[j]?=some x->¬x.n=t):
  Calls Tryz.prog 105 #[.agg #[.slice d.a1 d.l1 d.c1,.slice d.a2 d.l2 d.c2,.slice d.a3 d.l3 d.c3,.slice d.a4 d.l4 d.c4,.slice d.a5 d.l5 d.c5,.int .i64 now],.string t] w fun e w'=>e=.returned (.int .i64 (-1))/\Below w.heap.size w w':=by
 refine (eC d now xs t w hr).mono ?_;exact mG

def uD (c:Cl) (t:ByteArray) (w:World) (e:Ending) (w':World):Prop:=
 Below w.heap.size w w'/\((∃(j:Nat) (v:Vd),c.vs[j]?=some v/\a_ c t v/\e=.returned (.int .i64 j))\/((∀v,¬a_ c t v)/\e=.returned (.int .i64 (-1))))

theorem fk (d:Ad) (c:Cl) (t:ByteArray) (w:World) (hr:aI w d c.raw) (hx:aC Xd.n c.xs) (hv:aC Vd.n c.vs) (hne:∀(j:Nat) v,c.vs[j]?=some v->¬v.n=⟨#[]⟩):
  Calls Tryz.prog 83 #[.agg #[.slice d.a1 d.l1 d.c1,.slice d.a2 d.l2 d.c2,.slice d.a3 d.l3 d.c3,.slice d.a4 d.l4 d.c4,.slice d.a5 d.l5 d.c5,.int .i64 c.now],.string t] w (uD c t w):=by
 obtain⟨a1,l1,y1,a2,l2,y2,a3,l3,y3,a4,l4,y4,a5,l5,y5⟩:=d;dsimp only;have HR:=aa hr;have hl4:c.xs.length=l4:=ox
 clear hr;obtain⟨HX,HV,HNE⟩:=fF;have HB:=aa (vG w.heap.size w);clear hx hv hne;go_enter Tryz.func83,Tryz.ntmps83;go_wp2_with fail;refine (eC ⟨a1,l1,y1,a2,l2,y2,a3,l3,y3,a4,l4,y4,a5,l5,y5⟩ c.now c.xs t _ (HR.x.below (ai _ _))).mono ?_;rintro e w1 ⟨hb,hf⟩;obtain⟨HA0,hbx⟩:=aJ hb;have Bk:=aa HA0;replace HB:=upB HB hbx;clear hb hbx HA0;rcases hf with ⟨j,x,hx,hn,rfl⟩|⟨hh,rfl⟩;rotate_left
 ·have HH:=aa hh;clear hh;obtain⟨k0,k1,k2,k3,k4,k5⟩:=cs6 Bk;go_wp2;go_ret;exact⟨HB.out,.inr ⟨fun v ⟨i,j,x,e1,e2,_⟩=>HH.out i x e1 e2,rfl⟩⟩
 have hj:j<l4:=by have h1:=(vz.1 hx).1;omega
 obtain⟨b,o,y,rfl,hbb,hy,hat⟩:=da HR.x hj;rw[hx] at hy;obtain rfl:=vC hy;obtain⟨z0,z2,z4,c0,c1,c2,c3,c4⟩:=ba hat;have HX1:=aa hx;have HN1:=aa hn;have e4:=(aj HB.out hbb).trans c4;have hb1:=vN hbb HB.size;have hj0:(0:Int)<=j:=af
 clear hx hn hy hat z0 z2 z4 c0 c1 c2 c3;by_cases he:x.v=⟨#[]⟩
 ·have hq:=cW he;have HEm:=aa he;clear he;obtain⟨k0,k1,k2,k3,k4,k5⟩:=cs6 Bk;go_wp2;go_ret;refine⟨HB.out,.inr ⟨fun v ⟨i,j2,x2,e1,e2,e3,e5⟩=>?_,rfl⟩⟩;obtain⟨_,rfl⟩:=HX.inj e1 HX1.out (e2.trans HN1.symm);exact HNE.out j2 v e3 (e5.trans HEm.out)
 ·have hq:=bj he;have HEm:=aa he;clear he;obtain⟨k0,k1,k2,k3,k4,k5⟩:=cs6 Bk;go_wp2_with fail;by_cases hf:∃(j2:Nat) (v:Vd),c.vs[j2]?=some v/\v.n=x.v
  ·obtain⟨j2,v,h1,h2⟩:=hf;have HF1:=aa h1;have HF2:=aa h2;clear h1 h2;clear k0 k1 k2 k3 k4 k5;have Gk:=Bk;have HW:=HB;have k0:=fun q:Wd w1=>q.slot (o:=0) Gk.out rfl;have k1:=fun q:Wd w1=>q.slot (o:=1) Gk.out rfl;have k2:=fun q:Wd w1=>q.slot (o:=2) Gk.out rfl;have k3:=fun q:Wd w1=>q.slot (o:=3) Gk.out rfl;have k4:=fun q:Wd w1=>q.slot (o:=4) Gk.out rfl;have k5:=fun q:Wd w1=>q.slot (o:=5) Gk.out rfl;have e4w:=fun q:Wd w1=>(q.cell hb1).trans e4;have hne0:=Wd.ne w1;have HC0:=aa (fun q:Wd w1=>fX ⟨a1,l1,y1,a2,l2,y2,a3,l3,y3,(some ⟨b,o,none⟩),l4,y4,a5,l5,y5⟩ c.now c.vs x.v q.w (HR.v.below (HW.trans (q.b.mono HW.size))) HV.out HF1.out HF2.out);go_wp2_with fail;refine ag an an ?_;repeat (go_big_quiet_step (first|(go_at_call 56;exact Calls.wide (HC0.out _))|fail))
   refine wpQuiet_nil ?_;rintro _ ⟨q,rfl⟩;have HB2:=upB HW q.b;have Ck:=upK Gk q.b;clear hne0 HW HB HC0 k0 k1 k2 k3 k4 k5 e4w Gk Bk;have HB:=HB2;clear HB2;have Bk:=Ck;clear Ck;go_wp2_with fail;go_ret;exact⟨HB.out,.inl ⟨j2,v,HF1.out,⟨_,_,x,HX1.out,HN1.out,HF1.out,HF2.out⟩,rfl⟩⟩
  ·have HF:=aa hf;clear hf;clear k0 k1 k2 k3 k4 k5;have Gk:=Bk;have HW:=HB;obtain⟨k0,k1,k2,k3,k4,k5⟩:=sl6 Gk;have e4w:=fun q:Wd w1=>(q.cell hb1).trans e4;have hne0:=Wd.ne w1;have HC0:=aa (fun q:Wd w1=>gR ⟨a1,l1,y1,a2,l2,y2,a3,l3,y3,(some ⟨b,o,none⟩),l4,y4,a5,l5,y5⟩ c.now c.vs x.v q.w (HR.v.below (HW.trans (q.b.mono HW.size))) (fun j2 v h1 h2=>HF.out ⟨j2,v,h1,h2⟩));go_wp2_with fail;refine ag an an ?_;repeat (go_big_quiet_step (first|(go_at_call 56;exact Calls.wide (HC0.out _))|fail))
   refine wpQuiet_nil ?_;rintro _ ⟨q,rfl⟩;have HB2:=upB HW q.b;have Ck:=upK Gk q.b;clear hne0 HW HB HC0 k0 k1 k2 k3 k4 k5 e4w Gk Bk;have HB:=HB2;clear HB2;have Bk:=Ck;clear Ck;go_wp2_with fail;go_ret;refine⟨HB.out,.inr ⟨fun v ⟨i,j2,x2,e1,e2,e3,e5⟩=>?_,rfl⟩⟩;obtain⟨_,rfl⟩:=HX.inj e1 HX1.out (e2.trans HN1.symm);exact HF.out ⟨j2,v,e3,e5⟩

theorem dY (d:Ad) (c:Cl) (t:ByteArray) (w:World) (hr:aI w d c.raw) (hx:aC Xd.n c.xs) (hv:aC Vd.n c.vs) (hne:∀(j:Nat) v,c.vs[j]?=some v->¬v.n=⟨#[]⟩) {j:Nat} {v:Vd} (hj:c.vs[j]?=some v) (hb:a_ c t v):
  Calls Tryz.prog 83 #[.agg #[.slice d.a1 d.l1 d.c1,.slice d.a2 d.l2 d.c2,.slice d.a3 d.l3 d.c3,.slice d.a4 d.l4 d.c4,.slice d.a5 d.l5 d.c5,.int .i64 c.now],.string t] w fun e w'=>e=.returned (.int .i64 j)/\Below w.heap.size w w':=by
 refine (fk d c t w hr hx hv hne).mono ?_;rintro e w' ⟨hw,h⟩;rcases h with ⟨i,u,h1,h2,rfl⟩|⟨h1,rfl⟩
 ·obtain rfl:=a_.inj hx hv h2 hb;obtain⟨rfl,_⟩:=hv.inj h1 hj rfl;exact⟨rfl,hw⟩
 ·exact absurd hb (h1 v)
theorem eu (d:Ad) (c:Cl) (t:ByteArray) (w:World) (hr:aI w d c.raw) (hx:aC Xd.n c.xs) (hv:aC Vd.n c.vs) (hne:∀(j:Nat) v,c.vs[j]?=some v->¬v.n=⟨#[]⟩) (hb:∀v,¬a_ c t v):
  Calls Tryz.prog 83 #[.agg #[.slice d.a1 d.l1 d.c1,.slice d.a2 d.l2 d.c2,.slice d.a3 d.l3 d.c3,.slice d.a4 d.l4 d.c4,.slice d.a5 d.l5 d.c5,.int .i64 c.now],.string t] w fun e w'=>e=.returned (.int .i64 (-1))/\Below w.heap.size w w':=by
 refine (fk d c t w hr hx hv hne).mono ?_;rintro e w' ⟨hw,h⟩;rcases h with ⟨i,u,h1,h2,rfl⟩|⟨h1,rfl⟩
 ·exact absurd h2 (hb u)
 ·exact⟨rfl,hw⟩
theorem a_.at {c:Cl} {t:ByteArray} {v:Vd} (h:a_ c t v):∃j:Nat,c.vs[j]?=some v:=by
 obtain⟨_,j,_,_,_,h,_⟩:=h;exact⟨j,h⟩

theorem nq (d:Ad) (now:Int) (ps:List Pd) (t:ByteArray) (w:World) (hr:aE w d.a5 d.l5 d.c5 6 (ps.map pdF)) (hl:ps.length<=8) (hp:∀(j:Nat) p,ps[j]?=some p->0<=p.c/\p.c<=1000000):
  Calls Tryz.prog 131 #[.agg #[.slice d.a1 d.l1 d.c1,.slice d.a2 d.l2 d.c2,.slice d.a3 d.l3 d.c3,.slice d.a4 d.l4 d.c4,.slice d.a5 d.l5 d.c5,.int .i64 now],.string t] w fun e w'=>e=.returned (.int .i64 (cpuOf t ps))/\Below w.heap.size w w':=by
 obtain⟨a1,l1,y1,a2,l2,y2,a3,l3,y3,a4,l4,y4,a5,l5,y5⟩:=d;dsimp only at hr ⊢;have HR:=aa hr;have hxl:ps.length=l5:=dJ
 have HP:=aa hp;clear hr hp;go_enter Tryz.func131,Tryz.ntmps131;go_wp2;go_loopw [5,6] (fun q i wr=> ∃(k:Nat) (s:Int),k<=l5/\q=.int .i64 s/\i=.int .i64 k/\Hid (s=cpuOf t (ps.take k))/\0<=s/\s<=k*1000000/\wr=w.alloc (.cells #[.slice a1 l1 y1,.slice a2 l2 y2,.slice a3 l3 y3,.slice a4 l4 y4,.slice a5 l5 y5,.int .i64 now] 36)) (fun _ i _=>l5 - (intOf i).toNat);case atStart=>exact⟨0,0,by omega,rfl,rfl,rfl,by omega,by omega,rfl⟩
 case round=>
  obtain⟨k,s,hk,rfl,rfl,HS,hs0,hs1,rfl⟩:=hrel;by_cases hlt:k<l5
  ·obtain⟨b,o,p,rfl,hb,hx,hat⟩:=bB HR.out hlt;obtain⟨va,vl,vc,hvr,z0,z2,z4,c0,c1,c2,c3,c4,c5⟩:=aL hat;have HX:=aa hx;have hpc:=HP.out k p hx;clear hat hx z0 z2 z4 hvr;by_cases hn:p.d=t
   ·have hq:=aP hn;have HN:=aa hn;clear hn;go_wp2;refine⟨⟨k+1,s+p.c,by omega,by go_num,by go_num,?_,by omega,by omega,by first|rfl|trivial⟩,by simp[intOf];omega⟩;show _=_;rw[dG HX.out,if_pos HN.out,<-HS.out]
   ·have hq:=bk hn;have HN:=aa hn;clear hn;go_wp2;refine⟨⟨k+1,s,by omega,rfl,by go_num,?_,by omega,by omega,by first|rfl|trivial⟩,by simp[intOf];omega⟩;show _=_;rw[dG HX.out,if_neg HN.out,<-HS.out,Int.add_zero]
  ·obtain rfl:l5=k:=af
   go_wp2;go_ret;exact⟨congrArg (fun z=>Ending.returned (.int .i64 z)) (HS.trans (by rw[vK af])),ai _ _⟩

theorem rm (d:Ad) (now:Int) (vs:List Vd) (t:ByteArray) (w:World) (hr:aE w d.a3 d.l3 d.c3 8 (vs.map vdF)) (hl:vs.length<=8):
  Calls Tryz.prog 132 #[.agg #[.slice d.a1 d.l1 d.c1,.slice d.a2 d.l2 d.c2,.slice d.a3 d.l3 d.c3,.slice d.a4 d.l4 d.c4,.slice d.a5 d.l5 d.c5,.int .i64 now],.string t] w fun e w'=>e=.returned (.int .i64 (onOf t vs))/\Below w.heap.size w w':=by
 obtain⟨a1,l1,y1,a2,l2,y2,a3,l3,y3,a4,l4,y4,a5,l5,y5⟩:=d;dsimp only at hr ⊢;have HR:=aa hr;have hxl:vs.length=l3:=dJ
 clear hr;go_enter Tryz.func132,Tryz.ntmps132;go_wp2;go_loopw [5,6] (fun q i wr=> ∃(k:Nat) (s:Int),k<=l3/\q=.int .i64 s/\i=.int .i64 k/\Hid (s=onOf t (vs.take k))/\0<=s/\s<=k/\Hid (Below w.heap.size w wr)/\Hid (wr.heap[w.heap.size]?=some (.cells (clo6 a1 l1 y1 a2 l2 y2 a3 l3 y3 a4 l4 y4 a5 l5 y5 now) 36 (0,0)))) (fun _ i _=>l3 - (intOf i).toNat);case atStart=>exact⟨0,0,by omega,rfl,rfl,rfl,by omega,by omega,ai _ _,vP⟩
 case round=>
  obtain⟨k,s,hk,rfl,rfl,HS,hs0,hs1,HB,Bk⟩:=hrel;have kk:=ck2 Bk;by_cases hlt:k<l3
  ·obtain⟨b,o,v,rfl,hb,hx,hat⟩:=bo (HR.below HB.out) hlt;obtain⟨va,vl,vc,hvr,z0,z2,z3,z5,c0,c1,c2,c3,c4,c5,c6,c7⟩:=aF hat;have HX:=aa hx;have HT:=aa hvr;clear hat hx z0 z2 z3 z5 hvr;go_wp2_with fail;refine (cF va vl vc v.zs t _ HT.out).mono ?_;rintro e w1 ⟨r,rfl,hi,hb2⟩;replace Bk:=upK Bk hb2;replace HB:=upB HB hb2;clear hb2;have HI:=aa hi;clear hi hb kk c0 c1 c2 c3 c4 c5 c6 c7;cases r
   ·go_wp2;refine⟨⟨k+1,s,by omega,rfl,by go_num,?_,by omega,by omega,HB.out,Bk.out⟩,by simp[intOf];omega⟩;exact pO
   ·go_wp2;refine⟨⟨k+1,s+1,by omega,by go_num,by go_num,?_,by omega,by omega,HB.out,Bk.out⟩,by simp[intOf];omega⟩;show _=_;rw[fv HX.out,if_pos (HI.1 bM),<-HS.out]
  ·obtain rfl:l3=k:=af
   exact oT

def ic (c:Cl) (p q:Pd):Prop:=p.d=⟨#[]⟩\/q.d=⟨#[]⟩\/p.d=q.d\/∀(j:Nat) t,p.zs[j]?=some t->∀v,a_ c t v->v.x=true->¬InL q.zs t

theorem dW (d:Ad) (c:Cl) (p q:Pd) (pa:Option Addr) (pl pc:Nat) (qa:Option Addr) (ql qc:Nat) (w:World) (hr:aI w d c.raw) (hx:aC Xd.n c.xs) (hv:aC Vd.n c.vs) (hne:∀(j:Nat) v,c.vs[j]?=some v->¬v.n=⟨#[]⟩) (hp:av w pa pl pc p.zs) (hq:av w qa ql qc q.zs):
  Calls Tryz.prog 130 #[.agg #[.slice d.a1 d.l1 d.c1,.slice d.a2 d.l2 d.c2,.slice d.a3 d.l3 d.c3,.slice d.a4 d.l4 d.c4,.slice d.a5 d.l5 d.c5,.int .i64 c.now],.agg #[.string p.n,.int .i64 p.c,.string p.z,.slice pa pl pc,.string p.d,.int .i64 p.p],.agg #[.string q.n,.int .i64 q.c,.string q.z,.slice qa ql qc,.string q.d,.int .i64 q.p]] w (al (ic c p q) w):=by
 obtain⟨a1,l1,y1,a2,l2,y2,a3,l3,y3,a4,l4,y4,a5,l5,y5⟩:=d;dsimp only;have HR:=aa hr;have hl3:c.vs.length=l3:=jt
 clear hr;obtain⟨HX,HV,HNE⟩:=fF;have HP:=aa hp;have HQ0:=aa hq;have hlc:=vI hp.2.1 hp.2.2.1;have hzl:=hp.1;clear hx hv hne hp hq;by_cases hp0:p.d=⟨#[]⟩
 ·have e1:=cW hp0;have HH:=aa hp0;clear hp0;go_enter Tryz.func130,Tryz.ntmps130;go_wp2;go_ret;exact al.t (.inl HH.out) (bQ _ _ _ _)
 by_cases hq0:q.d=⟨#[]⟩
 ·have e1:=bj hp0;have e2:=cW hq0;have HH:=aa hq0;clear hp0 hq0;go_enter Tryz.func130,Tryz.ntmps130;go_wp2;go_ret;exact al.t (.inr (.inl HH.out)) (bQ _ _ _ _)
 by_cases hpq:p.d=q.d
 ·have e1:=bj hp0;have e2:=bj hq0;have e3:=aP hpq;have HH:=aa hpq;clear hp0 hq0 hpq;go_enter Tryz.func130,Tryz.ntmps130;go_wp2;go_ret;exact al.t (.inr (.inr (.inl HH.out))) (bQ _ _ _ _)
 have e1:=bj hp0;have e2:=bj hq0;have e3:=bk hpq;have HP0:=aa hp0;have HQ1:=aa hq0;have HPQ:=aa hpq;clear hp0 hq0 hpq;go_enter Tryz.func130,Tryz.ntmps130;go_wp2;clear e1 e2 e3;go_loopw [7] (fun i wr=> ∃k:Nat,k<=pl/\i=.int .i64 k/\Hid (∀(j:Nat) t,j<k->p.zs[j]?=some t->∀v,a_ c t v->v.x=true->¬InL q.zs t)/\Hid (Below w.heap.size w wr)/\Hid (wr.heap[w.heap.size]?=some (.cells (clo6 a1 l1 y1 a2 l2 y2 a3 l3 y3 a4 l4 y4 a5 l5 y5 c.now) 36 (0,0)))/\Hid (wr.heap[w.heap.size+1]?=some (.cells (pov p pa pl pc) 107 (0,0)))/\Hid (wr.heap[w.heap.size+1+1]?=some (.cells (pov q qa ql qc) 107 (0,0)))) (fun i _=>pl - (intOf i).toNat);case atStart=>exact⟨0,by omega,rfl,fun _ _ h=>absurd h af,bQ _ _ _ _,fV _ _ _ _,dD _ _ _ _,dC _ _ _ _⟩
 case round=>
  obtain⟨k,hk,rfl,HQ,HB,Bk,Bx,By⟩:=hrel;have px3:=ck3 Bx;by_cases hlt:k<pl
  ·obtain⟨b,o,t,rfl,hb,hxt,hc,hsz⟩:=HP.at hlt;have HXt:=aa hxt;have hcw:=(aj HB.out hb).trans hc;have hbw:=vN hb HB.size;clear hxt hsz;have hcase:(∃v,a_ c t v)\/(∀v,¬a_ c t v):=by
    exact sQ
   rcases hcase with ⟨v,hbd⟩|hbd
   ·obtain⟨j3,hj3⟩:=hbd.at;have hl3':j3<l3:=by have h1:=(vz.1 hj3).1;omega
    obtain⟨b3,o3,v',rfl,hb3,hv',hat⟩:=bo HR.v hl3';rw[hj3] at hv';obtain rfl:=vC hv';obtain⟨va,vl,vc,hvr,z0,z2,z3,z5,c0,c1,c2,c3,c4,c5,c6,c7⟩:=aF hat;have HJ:=aa hj3;have HD:=aa hbd;have hcv:=(aj HB.out hb3).trans c4;have hbv:=vN hb3 HB.size;have hj0:(0:Int)<=j3:=af
    clear hv' hat hvr z0 z2 z3 z5 c0 c1 c2 c3 c4 c5 c6 c7 hj3 hbd;have Gk:=Bk;have Gx:=Bx;have Gy:=By;have HW:=HB;obtain⟨k0,k1,k2,k3,k4,k5⟩:=sl6 Gk;have x3:=fun q:Wd wr=>q.slot (o:=3) Gx.out rfl;have tw:=fun q:Wd wr=>(q.cell hbw).trans hcw;have hne0:=Wd.ne wr;have HC0:=aa (fun q:Wd wr=>dY ⟨a1,l1,y1,a2,l2,y2,(some ⟨b3,o3,none⟩),l3,y3,a4,l4,y4,a5,l5,y5⟩ c t q.w (HR.below (HW.trans (q.b.mono HW.size))) HX.out HV.out HNE.out HJ.out HD.out);go_wp2_with fail;refine ag an an ?_;repeat (go_big_quiet_step (first|(go_at_call 83;exact Calls.wide (HC0.out _))|fail))
    refine wpQuiet_nil ?_;rintro _ ⟨q1,rfl⟩;have HB1:=upB HW q1.b;have Ck:=upK Gk q1.b;have Cx:=upK Gx q1.b;have Cy:=upK Gy q1.b;clear hne0 HW HB HC0 k0 k1 k2 k3 k4 k5 x3 tw Gk Gx Gy Bk Bx By px3;have HB:=HB1;clear HB1;have Bk:=Ck;clear Ck;have Bx:=Cx;clear Cx;have By:=Cy;clear Cy;have hcw1:=(q1.cell hbw).trans hcw;have hbw1:=vN hbw q1.b.size;have hcv1:=(q1.cell hbv).trans hcv;have hbv1:=vN hbv q1.b.size;clear hcw hbw hcv hbv;rcases wY v.x with hs|hs;rotate_left
    ·have HSi:=aa hs;rw[hs] at hcv1;clear hs;obtain⟨Gk,Gx,Gy,HW,k2,x3,y3,tw,vw,hne0⟩:=oH;go_wp2_with fail;refine ag an an ?_;repeat (go_big_quiet_step (first|fail))
     refine wpQuiet_nil ?_;rintro _ ⟨q2,rfl⟩;obtain⟨HB2,Ck⟩:=cK;have Cx:=upK Gx q2.b;have Cy:=upK Gy q2.b;clear hne0 HW HB k2 x3 y3 tw vw Gk Gx Gy Bk Bx By;have HB:=HB2;clear HB2;have Bk:=Ck;clear Ck;have Bx:=Cx;clear Cx;have By:=Cy;clear Cy;go_wp2_with fail;refine⟨⟨k+1,by omega,by go_num,fun j s hj hs=>?_,HB.out,Bk.out,Bx.out,By.out⟩,by simp[intOf];omega⟩;by_cases e:j=k
     ·subst e;rw[HXt.out] at hs;obtain rfl:=vC hs;intro v2 h1 h2;obtain rfl:=a_.inj HX.out HV.out HD.out h1;rw[HSi.out] at h2;cases h2
     ·exact HQ.out j s af hs
    have HSi:=aa hs;rw[hs] at hcv1;clear hs;by_cases hin:InL q.zs t
    ·have HIn:=aa hin;clear hin;obtain⟨Gk,Gx,Gy,HW,k2,x3,y3,tw,vw,hne0⟩:=oH;have HC0:=aa (fun qq:Wd q1.w=>(cF qa ql qc q.zs t qq.w (HQ0.below (HW.trans (qq.b.mono HW.size)))).mono (fun _ _ h=>al.yes h HIn.out));go_wp2_with fail;refine ag an an ?_;repeat (go_big_quiet_step (first|(go_at_call 55;exact Calls.wide (HC0.out _))|fail))
     refine wpQuiet_nil ?_;rintro _ ⟨q2,rfl⟩;obtain⟨HB2,Ck⟩:=cK;have Cx:=upK Gx q2.b;have Cy:=upK Gy q2.b;clear hne0 HW HB HC0 k2 x3 y3 tw vw Gk Gx Gy Bk Bx By;have HB:=HB2;clear HB2;have Bk:=Ck;clear Ck;have Bx:=Cx;clear Cx;have By:=Cy;clear Cy;go_wp2;go_ret;refine al.f (fun h=>?_) HB.out;rcases h with h|h|h|h
     ·exact HP0.out h
     ·exact HQ1.out h
     ·exact HPQ.out h
     ·exact h k t HXt.out v HD.out HSi.out HIn.out
    ·have HIn:=aa hin;clear hin;obtain⟨Gk,Gx,Gy,HW,k2,x3,y3,tw,vw,hne0⟩:=oH;have HC0:=aa (fun qq:Wd q1.w=>(cF qa ql qc q.zs t qq.w (HQ0.below (HW.trans (qq.b.mono HW.size)))).mono (fun _ _ h=>al.no h HIn.out));go_wp2_with fail;refine ag an an ?_;repeat (go_big_quiet_step (first|(go_at_call 55;exact Calls.wide (HC0.out _))|fail))
     refine wpQuiet_nil ?_;rintro _ ⟨q2,rfl⟩;obtain⟨HB2,Ck⟩:=cK;have Cx:=upK Gx q2.b;have Cy:=upK Gy q2.b;clear hne0 HW HB HC0 k2 x3 y3 tw vw Gk Gx Gy Bk Bx By;have HB:=HB2;clear HB2;have Bk:=Ck;clear Ck;have Bx:=Cx;clear Cx;have By:=Cy;clear Cy;go_wp2_with fail;refine⟨⟨k+1,by omega,by go_num,fun j s hj hs=>?_,HB.out,Bk.out,Bx.out,By.out⟩,by simp[intOf];omega⟩;by_cases e:j=k
     ·subst e;rw[HXt.out] at hs;obtain rfl:=vC hs;intro v2 h1 h2;exact HIn.out
     ·exact HQ.out j s af hs
   ·have HD:=aa hbd;clear hbd;have Gk:=Bk;have Gx:=Bx;have Gy:=By;have HW:=HB;obtain⟨k0,k1,k2,k3,k4,k5⟩:=sl6 Gk;have x3:=fun q:Wd wr=>q.slot (o:=3) Gx.out rfl;have tw:=fun q:Wd wr=>(q.cell hbw).trans hcw;have hne0:=Wd.ne wr;have HC0:=aa (fun q:Wd wr=>eu ⟨a1,l1,y1,a2,l2,y2,a3,l3,y3,a4,l4,y4,a5,l5,y5⟩ c t q.w (HR.below (HW.trans (q.b.mono HW.size))) HX.out HV.out HNE.out HD.out);go_wp2_with fail;refine ag an an ?_;repeat (go_big_quiet_step (first|(go_at_call 83;exact Calls.wide (HC0.out _))|fail))
    refine wpQuiet_nil ?_;rintro _ ⟨q1,rfl⟩;have HB1:=upB HW q1.b;have Ck:=upK Gk q1.b;have Cx:=upK Gx q1.b;have Cy:=upK Gy q1.b;clear hne0 HW HB HC0 k0 k1 k2 k3 k4 k5 x3 tw Gk Gx Gy Bk Bx By px3;have HB:=HB1;clear HB1;have Bk:=Ck;clear Ck;have Bx:=Cx;clear Cx;have By:=Cy;clear Cy;have Gk:=Bk;have Gx:=Bx;have Gy:=By;have HW:=HB;have k2:=fun q:Wd q1.w=>q.slot (o:=2) Gk.out rfl;have x3:=fun q:Wd q1.w=>q.slot (o:=3) Gx.out rfl;have y3:=fun q:Wd q1.w=>q.slot (o:=3) Gy.out rfl;have hne0:=Wd.ne q1.w;go_wp2_with fail;refine ag an an ?_;repeat (go_big_quiet_step (first|fail))
    refine wpQuiet_nil ?_;rintro _ ⟨q2,rfl⟩;obtain⟨HB2,Ck⟩:=cK;have Cx:=upK Gx q2.b;have Cy:=upK Gy q2.b;clear hne0 HW HB k2 x3 y3 Gk Gx Gy Bk Bx By;have HB:=HB2;clear HB2;have Bk:=Ck;clear Ck;have Bx:=Cx;clear Cx;have By:=Cy;clear Cy;go_wp2_with fail;refine⟨⟨k+1,by omega,by go_num,fun j s hj hs=>?_,HB.out,Bk.out,Bx.out,By.out⟩,by simp[intOf];omega⟩;by_cases e:j=k
    ·subst e;rw[HXt.out] at hs;obtain rfl:=vC hs;intro v2 h1;exact absurd h1 (HD.out v2)
    ·exact HQ.out j s af hs
  ·obtain rfl:pl=k:=af
   go_wp2;go_ret;exact al.t (.inr (.inr (.inr (fun j t ht=>HQ.out j t jr ht)))) HB.out

theorem nt (d:Ad) (c:Cl) (w:World) (hr:aI w d c.raw):
  Calls Tryz.prog 100 #[.agg #[.slice d.a1 d.l1 d.c1,.slice d.a2 d.l2 d.c2,.slice d.a3 d.l3 d.c3,.slice d.a4 d.l4 d.c4,.slice d.a5 d.l5 d.c5,.int .i64 c.now]] w (al (dm c) w):=by
 obtain⟨a1,l1,y1,a2,l2,y2,a3,l3,y3,a4,l4,y4,a5,l5,y5⟩:=d;dsimp only;obtain⟨HR,hl1,hm1,hl2,hm2,hl3,hm3,hl4,hm4,hl5,hm5⟩:=kM;clear hr;by_cases hL1:(6:Int)<l1
 ·go_enter Tryz.func100,Tryz.ntmps100;go_wp2;go_ret;exact al.f (fun h=>by have:=h.1.1;omega) (ai _ _)
 by_cases hL2:(8:Int)<l2
 ·go_enter Tryz.func100,Tryz.ntmps100;go_wp2;go_ret;exact al.f (fun h=>by have:=h.2.1.1;omega) (ai _ _)
 by_cases hL3:(8:Int)<l3
 ·go_enter Tryz.func100,Tryz.ntmps100;go_wp2;go_ret;exact al.f (fun h=>by have:=h.2.2.1.1;omega) (ai _ _)
 by_cases hL4:(8:Int)<l4
 ·go_enter Tryz.func100,Tryz.ntmps100;go_wp2;go_ret;exact al.f (fun h=>by have:=h.2.2.2.1.1;omega) (ai _ _)
 by_cases hL5:(8:Int)<l5
 ·go_enter Tryz.func100,Tryz.ntmps100;go_wp2;go_ret;exact al.f (fun h=>by have:=h.2.2.2.2.1;omega) (ai _ _)
 go_enter Tryz.func100,Tryz.ntmps100;go_wp2;go_loopw [3] (fun i wr=> ∃k:Nat,k<=l1/\i=.int .i64 k/\Hid (∀(j:Nat) z,j<k->c.ns[j]?=some z->lg z)/\Hid (∀(j:Nat) z u,j+1<k->c.ns[j+1]?=some z->c.ns[j]?=some u->vM u.n.toList z.n.toList=true)/\Hid (Below w.heap.size w wr)/\Hid (wr.heap[w.heap.size]?=some (.cells (clo6 a1 l1 y1 a2 l2 y2 a3 l3 y3 a4 l4 y4 a5 l5 y5 c.now) 36 (0,0)))) (fun i _=>l1 - (intOf i).toNat);case atStart=>exact⟨0,by omega,rfl,fun _ _ h=>absurd h af,fun _ _ _ h=>absurd h af,ai _ _,vP⟩
 case round=>
  obtain⟨k,hk,rfl,HQ,HO,HB,Bk⟩:=hrel;have pk:=ck0 Bk;by_cases hlt:k<l1
  ·obtain⟨b,o,x,rfl,hb,hx,hat⟩:=bJ (HR.n.below HB.out) hlt;obtain⟨va,vl,vc,hvr,z0,z1,c0,c1,c2,c3,c4,c5,c6⟩:=aO hat;have HXx:=aa hx;have HTx:=aa hvr;have HZx0:=aa z0;have HZx1:=aa z1;clear hat hx z0 z1 hvr;by_cases hok:lg x;rotate_left
   ·have HOK:=aa hok;clear hok;have Gk:=Bk;have HW:=HB;have k0:=fun q:Wd wr=>q.slot (o:=0) Gk.out rfl;obtain⟨x0,x1,x2,x3,x4⟩:=ed;obtain⟨x5,x6⟩:=fH;have hne0:=Wd.ne wr;have HC0:=aa (fun q:Wd wr=>(dX x.n x.z x.c x.s x.u x.d va vl vc x.zs q.w HZx0.out HZx1.out (HTx.below q.b)).mono (fun _ _ h=>al.no h HOK.out));go_wp2_with fail;refine ag an an ?_;repeat (go_big_quiet_step (first|(go_at_call 124;exact Calls.wide (HC0.out _))|fail))
    refine wpQuiet_nil ?_;rintro _ ⟨q,rfl⟩;obtain⟨HB1,Ck⟩:=b_;clear hne0 HW HB HC0 k0 x0 x1 x2 x3 x4 x5 x6 Gk Bk c0 c1 c2 c3 c4 c5 c6 pk;have HB:=HB1;clear HB1;have Bk:=Ck;clear Ck;go_wp2;go_ret;exact al.f (fun h=>HOK.out (h.1.2.1 k x HXx.out)) HB.out
   have HOK:=aa hok;clear hok;by_cases hk0:0<k;rotate_left
   ·obtain⟨hd,Gk⟩:=jw;have HW:=HB;have k0:=fun q:Wd wr=>q.slot (o:=0) Gk.out rfl;obtain⟨x0,x1,x2,x3,x4⟩:=ed;obtain⟨x5,x6⟩:=fH;have hne0:=Wd.ne wr;have HC0:=aa (fun q:Wd wr=>(dX x.n x.z x.c x.s x.u x.d va vl vc x.zs q.w HZx0.out HZx1.out (HTx.below q.b)).mono (fun _ _ h=>al.yes h HOK.out));go_wp2_with fail;refine ag an an ?_;repeat (go_big_quiet_step (first|(go_at_call 124;exact Calls.wide (HC0.out _))|fail))
    refine wpQuiet_nil ?_;rintro _ ⟨q,rfl⟩;obtain⟨HB1,Ck⟩:=b_;clear hne0 HW HB HC0 k0 x0 x1 x2 x3 x4 x5 x6 Gk Bk c0 c1 c2 c3 c4 c5 c6 pk;exact oN
   have ek:((k:Int) - 1).toNat=k - 1:=af
   obtain⟨b',o',y,e',hb',hy,haty⟩:=bJ (HR.n.below HB.out) (show k - 1<l1 by omega);cases e';have y0:wr.cell? ⟨b,o+(k - 1)*7,none⟩=some (.string y.n):=by
    exact jG
   have HXy:=aa hy;clear hy haty;cases hless:vM y.n.toList x.n.toList
   ·obtain⟨Gk,HW,k0⟩:=sb;obtain⟨x0,x1,x2,x3,x4⟩:=ed;obtain⟨x5,x6⟩:=fH;obtain⟨yw,hne0⟩:=eh;have HC0:=aa (fun q:Wd wr=>(dX x.n x.z x.c x.s x.u x.d va vl vc x.zs q.w HZx0.out HZx1.out (HTx.below q.b)).mono (fun _ _ h=>al.yes h HOK.out));go_wp2_with fail;refine ag an an ?_;repeat (go_big_quiet_step (first|(go_at_call 124;exact Calls.wide (HC0.out _))|fail))
    refine wpQuiet_nil ?_;rintro _ ⟨q,rfl⟩;obtain⟨HB1,Ck⟩:=b_;clear hne0 HW HB HC0 k0 x0 x1 x2 x3 x4 x5 x6 yw Gk Bk c0 c1 c2 c3 c4 c5 c6 pk y0;have HB:=HB1;clear HB1;have Bk:=Ck;clear Ck;go_wp2;go_ret;refine al.f (fun h=>?_) HB.out;have h3:=h.1.2.2 (k - 1) x y jo HXy.out;rw[hless] at h3;cases h3
   ·obtain⟨Gk,HW,k0⟩:=sb;obtain⟨x0,x1,x2,x3,x4⟩:=ed;obtain⟨x5,x6⟩:=fH;obtain⟨yw,hne0⟩:=eh;have HC0:=aa (fun q:Wd wr=>(dX x.n x.z x.c x.s x.u x.d va vl vc x.zs q.w HZx0.out HZx1.out (HTx.below q.b)).mono (fun _ _ h=>al.yes h HOK.out));go_wp2_with fail;refine ag an an ?_;repeat (go_big_quiet_step (first|(go_at_call 124;exact Calls.wide (HC0.out _))|fail))
    refine wpQuiet_nil ?_;rintro _ ⟨q,rfl⟩;obtain⟨HB1,Ck⟩:=b_;clear hne0 HW HB HC0 k0 x0 x1 x2 x3 x4 x5 x6 yw Gk Bk c0 c1 c2 c3 c4 c5 c6 pk y0;exact oR
  ·obtain rfl:l1=k:=af
   have HR1:Hid (c8 lg Nd.n c.ns 6):=⟨by omega,fun j z hz=>HQ.out j z cd hz,fun j z u hz hu=>HO.out j z u cd hz hu⟩;clear HQ HO;skip;have kc:=ck1 Bk;go_wp2;go_loopw [4] (fun i wr=> ∃k:Nat,k<=l2/\i=.int .i64 k/\Hid (∀(j:Nat) z,j<k->c.ks[j]?=some z->lx z)/\Hid (∀(j:Nat) z u,j+1<k->c.ks[j+1]?=some z->c.ks[j]?=some u->vM u.n.toList z.n.toList=true)/\Hid (Below w.heap.size w wr)/\Hid (wr.heap[w.heap.size]?=some (.cells (clo6 a1 l1 y1 a2 l2 y2 a3 l3 y3 a4 l4 y4 a5 l5 y5 c.now) 36 (0,0)))) (fun i _=>l2 - (intOf i).toNat);case atStart=>exact⟨0,by omega,rfl,fun _ _ h=>absurd h af,fun _ _ _ h=>absurd h af,HB.out,Bk.out⟩
   case round=>
    obtain⟨k,hk,rfl,HQ,HO,HB,Bk⟩:=hrel;have pk:=ck1 Bk;by_cases hlt:k<l2
    ·obtain⟨b,o,x,rfl,hb,hx,hat⟩:=eo (HR.k.below HB.out) hlt;obtain⟨z0,z3,c0,c1,c2,c3⟩:=bC hat;have HXx:=aa hx;have HZx0:=aa z0;have HZx3:=aa z3;clear hat hx z0 z3;by_cases hok:lx x;rotate_left
     ·have HOK:=aa hok;clear hok;have Gk:=Bk;obtain⟨HW,k1,x0,x1,x2,x3⟩:=mA;have hne0:=Wd.ne wr;have HC0:=aa (fun q:Wd wr=>(dv x.n x.z x.x x.y q.w HZx0.out HZx3.out).mono (fun _ _ h=>al.no h HOK.out));go_wp2_with fail;refine ag an an ?_;repeat (go_big_quiet_step (first|(go_at_call 125;exact Calls.wide (HC0.out _))|fail))
      refine wpQuiet_nil ?_;rintro _ ⟨q,rfl⟩;obtain⟨HB1,Ck⟩:=b_;clear hne0 HW HB HC0 k1 x0 x1 x2 x3 Gk Bk c0 c1 c2 c3 pk;have HB:=HB1;clear HB1;have Bk:=Ck;clear Ck;go_wp2;go_ret;exact al.f (fun h=>HOK.out (h.2.1.2.1 k x HXx.out)) HB.out
     have HOK:=aa hok;clear hok;by_cases hk0:0<k;rotate_left
     ·obtain⟨hd,Gk⟩:=jw;obtain⟨HW,k1,x0,x1,x2,x3⟩:=mA;have hne0:=Wd.ne wr;have HC0:=aa (fun q:Wd wr=>(dv x.n x.z x.x x.y q.w HZx0.out HZx3.out).mono (fun _ _ h=>al.yes h HOK.out));go_wp2_with fail;refine ag an an ?_;repeat (go_big_quiet_step (first|(go_at_call 125;exact Calls.wide (HC0.out _))|fail))
      refine wpQuiet_nil ?_;rintro _ ⟨q,rfl⟩;obtain⟨HB1,Ck⟩:=b_;clear hne0 HW HB HC0 k1 x0 x1 x2 x3 Gk Bk c0 c1 c2 c3 pk;exact oN
     have ek:((k:Int) - 1).toNat=k - 1:=af
     obtain⟨b',o',y,e',hb',hy,haty⟩:=eo (HR.k.below HB.out) (show k - 1<l2 by omega);cases e';have y0:wr.cell? ⟨b,o+(k - 1)*4,none⟩=some (.string y.n):=by
      exact jG
     have HXy:=aa hy;clear hy haty;cases hless:vM y.n.toList x.n.toList
     ·have Gk:Hid (wr.heap[w.heap.size]?=some (.cells (clo6 a1 l1 y1 (some ⟨b,o,none⟩) l2 y2 a3 l3 y3 a4 l4 y4 a5 l5 y5 c.now) 36 (0,0))):=Bk.out;obtain⟨HW,k1,x0,x1,x2,x3⟩:=mA;obtain⟨yw,hne0⟩:=eh;have HC0:=aa (fun q:Wd wr=>(dv x.n x.z x.x x.y q.w HZx0.out HZx3.out).mono (fun _ _ h=>al.yes h HOK.out));go_wp2_with fail;refine ag an an ?_;repeat (go_big_quiet_step (first|(go_at_call 125;exact Calls.wide (HC0.out _))|fail))
      refine wpQuiet_nil ?_;rintro _ ⟨q,rfl⟩;obtain⟨HB1,Ck⟩:=b_;clear hne0 HW HB HC0 k1 x0 x1 x2 x3 yw Gk Bk c0 c1 c2 c3 pk y0;have HB:=HB1;clear HB1;have Bk:=Ck;clear Ck;go_wp2;go_ret;refine al.f (fun h=>?_) HB.out;have h3:=h.2.1.2.2 (k - 1) x y jo HXy.out;rw[hless] at h3;cases h3
     ·have Gk:Hid (wr.heap[w.heap.size]?=some (.cells (clo6 a1 l1 y1 (some ⟨b,o,none⟩) l2 y2 a3 l3 y3 a4 l4 y4 a5 l5 y5 c.now) 36 (0,0))):=Bk.out;obtain⟨HW,k1,x0,x1,x2,x3⟩:=mA;obtain⟨yw,hne0⟩:=eh;have HC0:=aa (fun q:Wd wr=>(dv x.n x.z x.x x.y q.w HZx0.out HZx3.out).mono (fun _ _ h=>al.yes h HOK.out));go_wp2_with fail;refine ag an an ?_;repeat (go_big_quiet_step (first|(go_at_call 125;exact Calls.wide (HC0.out _))|fail))
      refine wpQuiet_nil ?_;rintro _ ⟨q,rfl⟩;obtain⟨HB1,Ck⟩:=b_;clear hne0 HW HB HC0 k1 x0 x1 x2 x3 yw Gk Bk c0 c1 c2 c3 pk y0;exact oR
    ·obtain rfl:l2=k:=af
     have HR2:Hid (c8 lx Kd.n c.ks 8):=⟨by omega,fun j z hz=>HQ.out j z cd hz,fun j z u hz hu=>HO.out j z u cd hz hu⟩;clear HQ HO;skip;have kc:=ck2 Bk;go_wp2;go_loopw [5] (fun i wr=> ∃k:Nat,k<=l3/\i=.int .i64 k/\Hid (∀(j:Nat) z,j<k->c.vs[j]?=some z->kt z)/\Hid (∀(j:Nat) z u,j+1<k->c.vs[j+1]?=some z->c.vs[j]?=some u->vM u.n.toList z.n.toList=true)/\Hid (Below w.heap.size w wr)/\Hid (wr.heap[w.heap.size]?=some (.cells (clo6 a1 l1 y1 a2 l2 y2 a3 l3 y3 a4 l4 y4 a5 l5 y5 c.now) 36 (0,0)))) (fun i _=>l3 - (intOf i).toNat);case atStart=>exact⟨0,by omega,rfl,fun _ _ h=>absurd h af,fun _ _ _ h=>absurd h af,HB.out,Bk.out⟩
     case round=>
      obtain⟨k,hk,rfl,HQ,HO,HB,Bk⟩:=hrel;have pk:=ck2 Bk;by_cases hlt:k<l3
      ·obtain⟨b,o,x,rfl,hb,hx,hat⟩:=bo (HR.v.below HB.out) hlt;obtain⟨va,vl,vc,hvr,z0,z2,z3,z5,c0,c1,c2,c3,c4,c5,c6,c7⟩:=aF hat;have HXx:=aa hx;have HTx:=aa hvr;have HZx0:=aa z0;have HZx2:=aa z2;have HZx3:=aa z3;have HZx5:=aa z5;clear hat hx z0 z2 z3 z5 hvr;by_cases hok:kt x;rotate_left
       ·have HOK:=aa hok;clear hok;have Gk:=Bk;have HW:=HB;have k2:=fun q:Wd wr=>q.slot (o:=2) Gk.out rfl;obtain⟨x0,x1,x2,x3,x4⟩:=ed;obtain⟨x5,x6⟩:=fH;have x7:=fun q:Wd wr=>(q.cell hb).trans c7;have hne0:=Wd.ne wr;have HC0:=aa (fun q:Wd wr=>(eE x.n x.c x.z x.k x.x x.m x.y va vl vc x.zs q.w HZx0.out HZx2.out HZx3.out HZx5.out (HTx.below q.b)).mono (fun _ _ h=>al.no h HOK.out));go_wp2_with fail;refine ag an an ?_;repeat (go_big_quiet_step (first|(go_at_call 126;exact Calls.wide (HC0.out _))|fail))
        refine wpQuiet_nil ?_;rintro _ ⟨q,rfl⟩;obtain⟨HB1,Ck⟩:=b_;clear hne0 HW HB HC0 k2 x0 x1 x2 x3 x4 x5 x6 x7 Gk Bk c0 c1 c2 c3 c4 c5 c6 c7 pk;have HB:=HB1;clear HB1;have Bk:=Ck;clear Ck;go_wp2;go_ret;exact al.f (fun h=>HOK.out (h.2.2.1.2.1 k x HXx.out)) HB.out
       have HOK:=aa hok;clear hok;by_cases hk0:0<k;rotate_left
       ·obtain⟨hd,Gk⟩:=jw;have HW:=HB;have k2:=fun q:Wd wr=>q.slot (o:=2) Gk.out rfl;obtain⟨x0,x1,x2,x3,x4⟩:=ed;obtain⟨x5,x6⟩:=fH;have x7:=fun q:Wd wr=>(q.cell hb).trans c7;have hne0:=Wd.ne wr;have HC0:=aa (fun q:Wd wr=>(eE x.n x.c x.z x.k x.x x.m x.y va vl vc x.zs q.w HZx0.out HZx2.out HZx3.out HZx5.out (HTx.below q.b)).mono (fun _ _ h=>al.yes h HOK.out));go_wp2_with fail;refine ag an an ?_;repeat (go_big_quiet_step (first|(go_at_call 126;exact Calls.wide (HC0.out _))|fail))
        refine wpQuiet_nil ?_;rintro _ ⟨q,rfl⟩;obtain⟨HB1,Ck⟩:=b_;clear hne0 HW HB HC0 k2 x0 x1 x2 x3 x4 x5 x6 x7 Gk Bk c0 c1 c2 c3 c4 c5 c6 c7 pk;exact oN
       have ek:((k:Int) - 1).toNat=k - 1:=af
       obtain⟨b',o',y,e',hb',hy,haty⟩:=bo (HR.v.below HB.out) (show k - 1<l3 by omega);cases e';have y0:wr.cell? ⟨b,o+(k - 1)*8,none⟩=some (.string y.n):=by
        exact jG
       have HXy:=aa hy;clear hy haty;cases hless:vM y.n.toList x.n.toList
       ·obtain⟨Gk,HW,k2⟩:=r_;obtain⟨x0,x1,x2,x3,x4⟩:=ed;obtain⟨x5,x6⟩:=fH;have x7:=fun q:Wd wr=>(q.cell hb).trans c7;obtain⟨yw,hne0⟩:=eh;have HC0:=aa (fun q:Wd wr=>(eE x.n x.c x.z x.k x.x x.m x.y va vl vc x.zs q.w HZx0.out HZx2.out HZx3.out HZx5.out (HTx.below q.b)).mono (fun _ _ h=>al.yes h HOK.out));go_wp2_with fail;refine ag an an ?_;repeat (go_big_quiet_step (first|(go_at_call 126;exact Calls.wide (HC0.out _))|fail))
        refine wpQuiet_nil ?_;rintro _ ⟨q,rfl⟩;obtain⟨HB1,Ck⟩:=b_;clear hne0 HW HB HC0 k2 x0 x1 x2 x3 x4 x5 x6 x7 yw Gk Bk c0 c1 c2 c3 c4 c5 c6 c7 pk y0;have HB:=HB1;clear HB1;have Bk:=Ck;clear Ck;go_wp2;go_ret;refine al.f (fun h=>?_) HB.out;have h3:=h.2.2.1.2.2 (k - 1) x y jo HXy.out;rw[hless] at h3;cases h3
       ·obtain⟨Gk,HW,k2⟩:=r_;obtain⟨x0,x1,x2,x3,x4⟩:=ed;obtain⟨x5,x6⟩:=fH;have x7:=fun q:Wd wr=>(q.cell hb).trans c7;obtain⟨yw,hne0⟩:=eh;have HC0:=aa (fun q:Wd wr=>(eE x.n x.c x.z x.k x.x x.m x.y va vl vc x.zs q.w HZx0.out HZx2.out HZx3.out HZx5.out (HTx.below q.b)).mono (fun _ _ h=>al.yes h HOK.out));go_wp2_with fail;refine ag an an ?_;repeat (go_big_quiet_step (first|(go_at_call 126;exact Calls.wide (HC0.out _))|fail))
        refine wpQuiet_nil ?_;rintro _ ⟨q,rfl⟩;obtain⟨HB1,Ck⟩:=b_;clear hne0 HW HB HC0 k2 x0 x1 x2 x3 x4 x5 x6 x7 yw Gk Bk c0 c1 c2 c3 c4 c5 c6 c7 pk y0;exact oR
      ·obtain rfl:l3=k:=af
       have HR3:Hid (c8 kt Vd.n c.vs 8):=⟨by omega,fun j z hz=>HQ.out j z cd hz,fun j z u hz hu=>HO.out j z u cd hz hu⟩;clear HQ HO;skip;have kc:=ck3 Bk;go_wp2;go_loopw [6] (fun i wr=> ∃k:Nat,k<=l4/\i=.int .i64 k/\Hid (∀(j:Nat) z,j<k->c.xs[j]?=some z->km z)/\Hid (∀(j:Nat) z u,j+1<k->c.xs[j+1]?=some z->c.xs[j]?=some u->vM u.n.toList z.n.toList=true)/\Hid (Below w.heap.size w wr)/\Hid (wr.heap[w.heap.size]?=some (.cells (clo6 a1 l1 y1 a2 l2 y2 a3 l3 y3 a4 l4 y4 a5 l5 y5 c.now) 36 (0,0)))) (fun i _=>l4 - (intOf i).toNat);case atStart=>exact⟨0,by omega,rfl,fun _ _ h=>absurd h af,fun _ _ _ h=>absurd h af,HB.out,Bk.out⟩
       case round=>
        obtain⟨k,hk,rfl,HQ,HO,HB,Bk⟩:=hrel;have pk:=ck3 Bk;by_cases hlt:k<l4
        ·obtain⟨b,o,x,rfl,hb,hx,hat⟩:=da (HR.x.below HB.out) hlt;obtain⟨z0,z2,z4,c0,c1,c2,c3,c4⟩:=ba hat;have HXx:=aa hx;have HZx0:=aa z0;have HZx2:=aa z2;have HZx4:=aa z4;clear hat hx z0 z2 z4;by_cases hok:km x;rotate_left
         ·have HOK:=aa hok;clear hok;have Gk:=Bk;have HW:=HB;have k3:=fun q:Wd wr=>q.slot (o:=3) Gk.out rfl;obtain⟨x0,x1,x2,x3,x4⟩:=ed;have hne0:=Wd.ne wr;have HC0:=aa (fun q:Wd wr=>(dw x.n x.z x.k x.x x.v q.w HZx0.out HZx2.out HZx4.out).mono (fun _ _ h=>al.no h HOK.out));go_wp2_with fail;refine ag an an ?_;repeat (go_big_quiet_step (first|(go_at_call 127;exact Calls.wide (HC0.out _))|fail))
          refine wpQuiet_nil ?_;rintro _ ⟨q,rfl⟩;obtain⟨HB1,Ck⟩:=b_;clear hne0 HW HB HC0 k3 x0 x1 x2 x3 x4 Gk Bk c0 c1 c2 c3 c4 pk;have HB:=HB1;clear HB1;have Bk:=Ck;clear Ck;go_wp2;go_ret;exact al.f (fun h=>HOK.out (h.2.2.2.1.2.1 k x HXx.out)) HB.out
         have HOK:=aa hok;clear hok;by_cases hk0:0<k;rotate_left
         ·obtain⟨hd,Gk⟩:=jw;have HW:=HB;have k3:=fun q:Wd wr=>q.slot (o:=3) Gk.out rfl;obtain⟨x0,x1,x2,x3,x4⟩:=ed;have hne0:=Wd.ne wr;have HC0:=aa (fun q:Wd wr=>(dw x.n x.z x.k x.x x.v q.w HZx0.out HZx2.out HZx4.out).mono (fun _ _ h=>al.yes h HOK.out));go_wp2_with fail;refine ag an an ?_;repeat (go_big_quiet_step (first|(go_at_call 127;exact Calls.wide (HC0.out _))|fail))
          refine wpQuiet_nil ?_;rintro _ ⟨q,rfl⟩;obtain⟨HB1,Ck⟩:=b_;clear hne0 HW HB HC0 k3 x0 x1 x2 x3 x4 Gk Bk c0 c1 c2 c3 c4 pk;exact oN
         have ek:((k:Int) - 1).toNat=k - 1:=af
         obtain⟨b',o',y,e',hb',hy,haty⟩:=da (HR.x.below HB.out) (show k - 1<l4 by omega);cases e';have y0:wr.cell? ⟨b,o+(k - 1)*5,none⟩=some (.string y.n):=by
          exact jG
         have HXy:=aa hy;clear hy haty;cases hless:vM y.n.toList x.n.toList
         ·obtain⟨Gk,HW,k3⟩:=rZ;obtain⟨x0,x1,x2,x3,x4⟩:=ed;obtain⟨yw,hne0⟩:=eh;have HC0:=aa (fun q:Wd wr=>(dw x.n x.z x.k x.x x.v q.w HZx0.out HZx2.out HZx4.out).mono (fun _ _ h=>al.yes h HOK.out));go_wp2_with fail;refine ag an an ?_;repeat (go_big_quiet_step (first|(go_at_call 127;exact Calls.wide (HC0.out _))|fail))
          refine wpQuiet_nil ?_;rintro _ ⟨q,rfl⟩;obtain⟨HB1,Ck⟩:=b_;clear hne0 HW HB HC0 k3 x0 x1 x2 x3 x4 yw Gk Bk c0 c1 c2 c3 c4 pk y0;have HB:=HB1;clear HB1;have Bk:=Ck;clear Ck;go_wp2;go_ret;refine al.f (fun h=>?_) HB.out;have h3:=h.2.2.2.1.2.2 (k - 1) x y jo HXy.out;rw[hless] at h3;cases h3
         ·obtain⟨Gk,HW,k3⟩:=rZ;obtain⟨x0,x1,x2,x3,x4⟩:=ed;obtain⟨yw,hne0⟩:=eh;have HC0:=aa (fun q:Wd wr=>(dw x.n x.z x.k x.x x.v q.w HZx0.out HZx2.out HZx4.out).mono (fun _ _ h=>al.yes h HOK.out));go_wp2_with fail;refine ag an an ?_;repeat (go_big_quiet_step (first|(go_at_call 127;exact Calls.wide (HC0.out _))|fail))
          refine wpQuiet_nil ?_;rintro _ ⟨q,rfl⟩;obtain⟨HB1,Ck⟩:=b_;clear hne0 HW HB HC0 k3 x0 x1 x2 x3 x4 yw Gk Bk c0 c1 c2 c3 c4 pk y0;exact oR
        ·obtain rfl:l4=k:=af
         have HR4:Hid (c8 km Xd.n c.xs 8):=⟨by omega,fun j z hz=>HQ.out j z cd hz,fun j z u hz hu=>HO.out j z u cd hz hu⟩;clear HQ HO;skip;have kc:=ck4 Bk;go_wp2;go_loopw [7] (fun i wr=> ∃k:Nat,k<=l5/\i=.int .i64 k/\Hid (∀(j:Nat) z,j<k->c.ps[j]?=some z->kY z)/\Hid (∀(j:Nat) z u,j+1<k->c.ps[j+1]?=some z->c.ps[j]?=some u->vM u.n.toList z.n.toList=true)/\Hid (Below w.heap.size w wr)/\Hid (wr.heap[w.heap.size]?=some (.cells (clo6 a1 l1 y1 a2 l2 y2 a3 l3 y3 a4 l4 y4 a5 l5 y5 c.now) 36 (0,0)))) (fun i _=>l5 - (intOf i).toNat);case atStart=>exact⟨0,by omega,rfl,fun _ _ h=>absurd h af,fun _ _ _ h=>absurd h af,HB.out,Bk.out⟩
         case round=>
          obtain⟨k,hk,rfl,HQ,HO,HB,Bk⟩:=hrel;have pk:=ck4 Bk;by_cases hlt:k<l5
          ·obtain⟨b,o,x,rfl,hb,hx,hat⟩:=bB (HR.p.below HB.out) hlt;obtain⟨va,vl,vc,hvr,z0,z2,z4,c0,c1,c2,c3,c4,c5⟩:=aL hat;have HXx:=aa hx;have HTx:=aa hvr;have HZx0:=aa z0;have HZx2:=aa z2;have HZx4:=aa z4;clear hat hx z0 z2 z4 hvr;by_cases hok:kY x;rotate_left
           ·have HOK:=aa hok;clear hok;have Gk:=Bk;have HW:=HB;have k4:=fun q:Wd wr=>q.slot (o:=4) Gk.out rfl;obtain⟨x0,x1,x2,x3,x4⟩:=ed;have x5:=fun q:Wd wr=>(q.cell hb).trans c5;have hne0:=Wd.ne wr;have HC0:=aa (fun q:Wd wr=>(eG x.n x.c x.z va vl vc x.zs x.d x.p q.w HZx0.out HZx2.out HZx4.out (HTx.below q.b)).mono (fun _ _ h=>al.no h HOK.out));go_wp2_with fail;refine ag an an ?_;repeat (go_big_quiet_step (first|(go_at_call 128;exact Calls.wide (HC0.out _))|fail))
            refine wpQuiet_nil ?_;rintro _ ⟨q,rfl⟩;obtain⟨HB1,Ck⟩:=b_;clear hne0 HW HB HC0 k4 x0 x1 x2 x3 x4 x5 Gk Bk c0 c1 c2 c3 c4 c5 pk;have HB:=HB1;clear HB1;have Bk:=Ck;clear Ck;go_wp2;go_ret;exact al.f (fun h=>HOK.out (h.2.2.2.2.2.1 k x HXx.out)) HB.out
           have HOK:=aa hok;clear hok;by_cases hk0:0<k;rotate_left
           ·obtain⟨hd,Gk⟩:=jw;have HW:=HB;have k4:=fun q:Wd wr=>q.slot (o:=4) Gk.out rfl;obtain⟨x0,x1,x2,x3,x4⟩:=ed;have x5:=fun q:Wd wr=>(q.cell hb).trans c5;have hne0:=Wd.ne wr;have HC0:=aa (fun q:Wd wr=>(eG x.n x.c x.z va vl vc x.zs x.d x.p q.w HZx0.out HZx2.out HZx4.out (HTx.below q.b)).mono (fun _ _ h=>al.yes h HOK.out));go_wp2_with fail;refine ag an an ?_;repeat (go_big_quiet_step (first|(go_at_call 128;exact Calls.wide (HC0.out _))|fail))
            refine wpQuiet_nil ?_;rintro _ ⟨q,rfl⟩;obtain⟨HB1,Ck⟩:=b_;clear hne0 HW HB HC0 k4 x0 x1 x2 x3 x4 x5 Gk Bk c0 c1 c2 c3 c4 c5 pk;exact oN
           have ek:((k:Int) - 1).toNat=k - 1:=af
           obtain⟨b',o',y,e',hb',hy,haty⟩:=bB (HR.p.below HB.out) (show k - 1<l5 by omega);cases e';have y0:wr.cell? ⟨b,o+(k - 1)*6,none⟩=some (.string y.n):=by
            exact jG
           have HXy:=aa hy;clear hy haty;cases hless:vM y.n.toList x.n.toList
           ·obtain⟨Gk,HW,k4⟩:=rY;obtain⟨x0,x1,x2,x3,x4⟩:=ed;have x5:=fun q:Wd wr=>(q.cell hb).trans c5;obtain⟨yw,hne0⟩:=eh;have HC0:=aa (fun q:Wd wr=>(eG x.n x.c x.z va vl vc x.zs x.d x.p q.w HZx0.out HZx2.out HZx4.out (HTx.below q.b)).mono (fun _ _ h=>al.yes h HOK.out));go_wp2_with fail;refine ag an an ?_;repeat (go_big_quiet_step (first|(go_at_call 128;exact Calls.wide (HC0.out _))|fail))
            refine wpQuiet_nil ?_;rintro _ ⟨q,rfl⟩;obtain⟨HB1,Ck⟩:=b_;clear hne0 HW HB HC0 k4 x0 x1 x2 x3 x4 x5 yw Gk Bk c0 c1 c2 c3 c4 c5 pk y0;have HB:=HB1;clear HB1;have Bk:=Ck;clear Ck;go_wp2;go_ret;refine al.f (fun h=>?_) HB.out;have h3:=h.2.2.2.2.2.2 (k - 1) x y jo HXy.out;rw[hless] at h3;cases h3
           ·obtain⟨Gk,HW,k4⟩:=rY;obtain⟨x0,x1,x2,x3,x4⟩:=ed;have x5:=fun q:Wd wr=>(q.cell hb).trans c5;obtain⟨yw,hne0⟩:=eh;have HC0:=aa (fun q:Wd wr=>(eG x.n x.c x.z va vl vc x.zs x.d x.p q.w HZx0.out HZx2.out HZx4.out (HTx.below q.b)).mono (fun _ _ h=>al.yes h HOK.out));go_wp2_with fail;refine ag an an ?_;repeat (go_big_quiet_step (first|(go_at_call 128;exact Calls.wide (HC0.out _))|fail))
            refine wpQuiet_nil ?_;rintro _ ⟨q,rfl⟩;obtain⟨HB1,Ck⟩:=b_;clear hne0 HW HB HC0 k4 x0 x1 x2 x3 x4 x5 yw Gk Bk c0 c1 c2 c3 c4 c5 pk y0;exact oR
          ·obtain rfl:l5=k:=af
           have HR5:Hid (c8 kY Pd.n c.ps 8):=⟨by omega,fun j z hz=>HQ.out j z cd hz,fun j z u hz hu=>HO.out j z u cd hz hu⟩;clear HQ HO;go_wp2;go_ret;exact al.t ⟨HR1.out,HR2.out,HR3.out,HR4.out,HR5.out⟩ HB.out

end Rc
end Go.Proofs.YtjgjhkkmlaacdaaGreatDoor
