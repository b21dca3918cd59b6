import Derived.Test.YtdfgbboadbnodaaGreatDoorK1
import Derived.Deep.RegionWith
/-
 VolumeRight of the program.
-/
set_option maxRecDepth 100000
set_option maxHeartbeats 12800000
open And renaming intro→sw
open Array renaming getD_eq_getD_getElem?→sD, getElem?_push_size→sH, getElem?_setIfInBounds→sS
open Bool renaming and_eq_true→tl, eq_false_or_eq_true→tE
open Go.Addr renaming add_lit→tB
open Go.Calls renaming quiet_of_same→sQ
open Go.Op renaming bytesLess→sJ
open Go.RowKit.Below renaming refl→sB, heap_alloc→sR, alloc→tN
open Go.Value renaming string→sP
open Go.World renaming setCell→sZ
open Int renaming le_trans→sV, add_assoc→tq
open List renaming getElem?_eq_some_iff→sv, getElem?_eq_getElem→sA, take_of_length_le→sE, getElem?_map→sK, lookup→sM, length_take→sU, getElem?_take→sW, length_append→sY, getElem?_eq_none→s9, take_add_one→tc, length_map→td, length_drop→tv, mem_cons→tz, range→tC
open Nat renaming le_refl→sy, le_trans→sC, lt_of_lt_of_le→sG, le_succ→sN, zero_add→th
open Option renaming map_eq_some_iff→sF
open Option.some renaming inj→sx, injEq→tn
namespace Go.Proofs.YtdfgbboadbnodaaGreatDoor
theorem ak {p:Prop} (h:p:=by decide):p:=h
theorem bI {p:Prop} (h:p:=by have:=(sv.1 hz).1;omega):p:=h
theorem bA {p:Prop} (h:p:=by first|trivial|rfl):p:=h
theorem iA {p:Prop} (h:p:=by simpa using (show (c.vs.map vdF).length=l3 from hr.v.1)):p:=h
theorem kP {p:Prop} (h:p:=by simpa using (show (c.ns.map ndF).length=l1 from hr.n.1)):p:=h
theorem iz {p:Prop} (h:p:=by rw[Nat.sub_add_cancel hk0];exact HXx.out):p:=h
theorem ft {p:Prop} (h:p:=by simp[sZ];omega):p:=h
theorem kO {p:Prop} (h:p:=by have:=(sv.1 ht).1;omega):p:=h
theorem kN {p:Prop} (h:p:=by have:=(sv.1 hy).1;omega):p:=h
theorem mJ {p:Prop} (h:p:=by simpa using (show (c.xs.map xdF).length=l4 from hr.x.1)):p:=h
theorem mI {p:Prop} (h:p:=by have:=(sv.1 hj).1;omega):p:=h
theorem mG {p:Prop} (h:p:=by simp[results,Tryz.results112,go_sem, *]):p:=h
end Go.Proofs.YtdfgbboadbnodaaGreatDoor
namespace Go.Proofs.YtdfgbboadbnodaaGreatDoor
theorem ry {p:Prop} (h:p:=by
 obtain⟨k0,k1,k2,k3,k4,k5⟩:=cs6 Bk;obtain⟨p0,p1,p2,p3,p4,p5⟩:=cs6 Bp;have ltp_1:=ae Bp.out;go_wp2;go_loopw [35] (fun i wr=> ∃k:Nat,k<=pl/\i=.int .i64 k/\Hid (∀(j:Nat) t,j<k->p.zs[j]?=some t->∃v,bm c t v/\v.z=n.z)/\Hid (Below w.heap.size w wr)/\Hid (wr.heap[w.heap.size]?=some (.cells (clv d c.now) 36 (0,0)))/\Hid (wr.heap[w1.heap.size]?=some (.cells (nov n va vl vc) 56 (0,0)))) (fun i _=>pl - (intOf i).toNat);case atStart=>exact⟨0,by omega,rfl,fun _ _ h=>absurd h af,HB.alloc HB.size _,(sR _ _ _ (ae Bk.out)).trans Bk.out,sH⟩
 case round=>
  obtain⟨k,hk,rfl,HQ,HB,Bk,Bn⟩:=hrel;by_cases hlt:k<pl
  ·obtain⟨b,o,t,rfl,hb,hx,hc,hsz⟩:=(HP.below HB.out).at hlt;have HXt:=aa hx;clear hx hsz;obtain⟨k0,k1,k2,k3,k4,k5⟩:=cs6 Bk;obtain⟨n0,n1,n2,n3,n4,n5,n6⟩:=cs7 Bn;go_wp2_with fail;refine (lu d c t w _ HR.out HB.out HX.out HV.out HNE.out).mono ?_;rintro e w2 ⟨hb2,hf⟩;clear k0 k1 k2 k3 k4 k5 n0 n1 n2 n3 n4 n5 n6;replace Bk:=upK Bk hb2;replace Bn:=upK Bn hb2;replace HB:=upB HB hb2;clear hb2;clear hb hc;rcases hf with ⟨v,xa,xl,xc,hbd,rfl,z0,z2,hxr⟩|⟨hbd,rfl⟩;rotate_left
   ·exact nK
   have HD:=aa hbd;clear hbd hxr z0 z2;by_cases hz2:v.z=n.z
   ·have q3:=ba hz2;have HZ2:=aa hz2;clear hz2;obtain⟨k0,k1,k2,k3,k4,k5⟩:=cs6 Bk;obtain⟨n0,n1,n2,n3,n4,n5,n6⟩:=cs7 Bn;have ltn_1:=ae Bn.out;go_wp2_with fail;refine⟨⟨k+1,by omega,by go_num,fun j s hj hs=>?_,(HB.alloc HB.size _),(sR _ _ _ (ae Bk.out)).trans Bk.out,(sR _ _ _ (ae Bn.out)).trans Bn.out⟩,by simp[intOf];omega⟩;by_cases e:j=k
    ·subst e;rw[HXt.out] at hs;obtain rfl:=sx hs;exact⟨v,HD.out,HZ2.out⟩
    ·exact HQ.out j s af hs
   ·have q3:=bz hz2;have HZ2:=aa hz2;clear hz2;obtain⟨k0,k1,k2,k3,k4,k5⟩:=cs6 Bk;obtain⟨n0,n1,n2,n3,n4,n5,n6⟩:=cs7 Bn;have ltn_1:=ae Bn.out;go_wp2;go_ret;refine al.f (fun ⟨i,m,e1,e2,e3,e4⟩=>?_) (HB.alloc HB.size _);obtain⟨_,rfl⟩:=HN.inj e1 HX1.out (e2.trans HN1.symm);obtain⟨v',e5,e6⟩:=e4 k t HXt.out;obtain rfl:=bm.inj HX.out HV.out HD.out e5;exact HZ2.out e6
  ·exact nG):p:=h
theorem nq {p:Prop} (h:p:=by
 go_wp2_with fail;refine⟨⟨k+1,x.n,by omega,rfl,by go_num,fun h=>absurd h af,fun z _ hz=>?_,fun j z hj hz=>?_,fun j z u hj hz hu=>?_,HB4.out⟩,by simp[intOf];omega⟩
 ·rw[Nat.add_sub_cancel,HX.out] at hz;rw[sx hz]
 ·by_cases e:j=k
  ·subst e;rw[HX.out] at hz;obtain rfl:=sx hz;exact HOK.out
  ·exact HE.out j z af hz
 ·by_cases e:j+1=k
  ·subst e;rw[HX.out] at hz;obtain rfl:=sx hz;have:=H1.out u af (by rw[Nat.add_sub_cancel];exact hu);rw[this];exact hless
  ·exact HO.out j z u af hz hu):p:=h
theorem nk {p:Prop} (h:p:=by
 have HB:=HB1;clear HB1;have Bk:=Ck;clear Ck;clear ek;go_wp2_with fail;refine⟨⟨k+1,by omega,by go_num,fun j z hj hz=>?_,fun j z y hj hz hy=>?_,HB.out,Bk.out⟩,by simp[intOf];omega⟩
 ·exact nz
 ·by_cases e:j+1=k
  ·have hj:j=k - 1:=af
   subst hj;rw[Nat.sub_add_cancel hk0,HXx.out] at hz;obtain rfl:=sx hz;rw[HXy.out] at hy;obtain rfl:=sx hy;exact hless
  ·exact HO.out j z y af hz hy):p:=h
theorem ng {p:Prop} (h:p:=by
 have HB:=HB1;clear HB1;have Bk:=Ck;clear Ck;clear hd;go_wp2_with fail;refine⟨⟨k+1,by omega,by go_num,fun j z hj hz=>?_,fun j z y hj hz hy=>?_,HB.out,Bk.out⟩,by simp[intOf];omega⟩
 ·exact nz
 ·by_cases e:j+1=k
  ·exact absurd hk0 af
  ·exact HO.out j z y af hz hy):p:=h
theorem nb {p:Prop} (h:p:=by
 rw[hless] at htri;go_wp2;go_ret;refine al.f (fun h=>?_) HB3.out;by_cases hk0:0<k
 ·have hz:xs[k - 1]?=some (xs[k - 1]'(by omega)):=sA _;have h2:=H1.out _ hk0 hz;have h3:=h.2.2 (k - 1) x _ (by rw[Nat.sub_add_cancel hk0];exact HX.out) hz;rw[h2,hless] at h3;cases h3
 ·have:=H0.out af;subst this;have hnm:=HOK.1.1;rw[jj hnm] at hless;cases hless):p:=h
theorem lg {p:Prop} (h:p:=by
 by_cases hn:x.n=t
 ·have hq:=ba hn;have HN:=aa hn;clear hn;go_wp2;go_ret;exact⟨aj _ _,.inl ⟨k,x,HX.out,HN.out,rfl⟩⟩
 ·have hq:=bz hn;have HN:=aa hn;clear hn;go_wp2;refine⟨⟨k+1,by omega,by go_num,by rw[ha],fun j z hj hz=>?_⟩,by simp[intOf];omega⟩;exact ny):p:=h
theorem ja {p:Prop} (h:p:=by
 obtain rfl:k=len:=af
 go_wp2;go_ret;refine al.t ⟨by omega,fun j z hz=>HE.out j z bI hz,fun j z u hz hu=>HO.out j z u bI hz hu⟩ HB.out):p:=h
theorem nv {p:Prop} (h:p:=by
 rw[hs] at c4;clear hs;obtain⟨k0,k1,k2,k3,k4,k5⟩:=cs6 Bk;have ltk_0:=ae Bk.out;go_wp2;refine⟨⟨k+1,by omega,by go_num,fun j z hj hz=>?_,(HB.alloc HB.size _),(sR _ _ _ (ae Bk.out)).trans Bk.out⟩,by simp[intOf];omega⟩;by_cases e:j=k
 ·subst e;rw[HXv.out] at hz;obtain rfl:=sx hz;exact fun h1 h2=>by rcases HCs.out with h|h;(rw[h] at h1;cases h1);exact absurd h h2
 ·exact HQ.out j z af hz):p:=h
theorem qL {p:Prop} (h:p:=by
 have F3:Hid (∀w,Calls Tryz.prog 182 #[.string k] w fun e w'=>e=.returned (.bool false)/\w'=w):=fun w=>(aM k w hk).mono fun _ _ h=>h.no p3;have HP:=aa p3;clear p3;go_enter Tryz.func188,Tryz.ntmps188;go_wp2_with fail;go_quiet ((first|(go_at_call_of 182 (sP n);exact sQ (F0.out _))|(go_at_call_of 125 (Value.int .i64 c);exact sQ (F1.out _))|(go_at_call_of 182 (sP z);exact sQ (F2.out _))|(go_at_call_of 182 (sP k);exact sQ (F3.out _))));go_wp2_with fail;go_ret;exact⟨false,rfl,⟨fun h=>bp,fun h=>(HP.out (h.2.2.2.1)).elim⟩,below_drewN (aj _ _) _⟩):p:=h
theorem lf {p:Prop} (h:p:=by
 go_wp2_with fail;refine⟨⟨k+1,by omega,by go_num,fun j y hj hy=>?_,HB2.out⟩,by simp[intOf];omega⟩;by_cases e:j=k
 ·subst e;rw[HX.out] at hy;obtain rfl:=sx hy;exact hless
 ·exact HE.out j y af hy):p:=h
theorem qK {p:Prop} (h:p:=by
 have F2:Hid (∀w,Calls Tryz.prog 182 #[.string z] w fun e w'=>e=.returned (.bool false)/\w'=w):=fun w=>(aM z w hz).mono fun _ _ h=>h.no p2;have HP:=aa p2;clear p2;go_enter Tryz.func188,Tryz.ntmps188;go_wp2_with fail;go_quiet ((first|(go_at_call_of 182 (sP n);exact sQ (F0.out _))|(go_at_call_of 125 (Value.int .i64 c);exact sQ (F1.out _))|(go_at_call_of 182 (sP z);exact sQ (F2.out _))));go_wp2_with fail;go_ret;exact⟨false,rfl,⟨fun h=>bp,fun h=>(HP.out (h.2.2.1)).elim⟩,below_drewN (aj _ _) _⟩):p:=h
theorem qJ {p:Prop} (h:p:=by
 have F1:Hid (∀w,Calls Tryz.prog 125 #[.int .i64 c,.int .i64 1,.int .i64 1048576] w fun e w'=>e=.returned (.bool false)/\w'=w):=fun w=>(a_ c 1 1048576 w).mono fun _ _ h=>h.no p1;have HP:=aa p1;clear p1;go_enter Tryz.func188,Tryz.ntmps188;go_wp2_with fail;go_quiet ((first|(go_at_call_of 182 (sP n);exact sQ (F0.out _))|(go_at_call_of 125 (Value.int .i64 c);exact sQ (F1.out _))));go_wp2_with fail;go_ret;exact⟨false,rfl,⟨fun h=>bp,fun h=>(HP.out (h.2.1)).elim⟩,below_drewN (aj _ _) _⟩):p:=h
theorem iV {p:Prop} (h:p:=by
 rintro e w1 ⟨r,rfl,hr1,hb⟩;have HB:=aa (bE hb).2.1;have HI:=aa hr1;clear hb hr1;go_wp2;go_ret;exact⟨r,rfl,HI.out,HB.out⟩):p:=h
theorem ld {p:Prop} (h:p:=by
 rintro e w' ⟨hb,h⟩;rcases h with ⟨i,y,h1,h2,rfl⟩|⟨h1,rfl⟩
 ·obtain⟨rfl,_⟩:=hs.inj h1 hx (h2.trans hn.symm);exact⟨rfl,hb⟩
 ·exact absurd hn (h1 j x hx)):p:=h
theorem qF {p:Prop} (h:p:=by
 have F0:Hid (∀w,Calls Tryz.prog 182 #[.string n] w fun e w'=>e=.returned (.bool false)/\w'=w):=fun w=>(aM n w hn).mono fun _ _ h=>h.no p0;have HP:=aa p0;clear p0;go_enter Tryz.func188,Tryz.ntmps188;go_wp2_with fail;go_quiet ((first|(go_at_call_of 182 (sP n);exact sQ (F0.out _))));go_wp2_with fail;go_ret;exact⟨false,rfl,⟨fun h=>bp,fun h=>(HP.out (h.1)).elim⟩,below_drewN (aj _ _) _⟩):p:=h
theorem k9 {p:Prop} (h:p:=by
 go_wp2;go_ret;exact⟨aj _ _,.inr ⟨fun j z hz=>HE.out j z bI hz,rfl⟩⟩):p:=h
theorem qD {p:Prop} (h:p:=by
 obtain rfl:vl=kq:=af
 go_wp2_with fail;refine⟨⟨k+1,by omega,by go_num,fun j z hj hz=>?_,HB.out,Bk.out⟩,by simp[intOf];omega⟩;by_cases e:j=k
 ·subst e;rw[HXv.out] at hz;exact nB
 ·exact HQ.out j z af hz):p:=h
theorem kY {p:Prop} (h:p:=by
 rintro e w' ⟨hb,h⟩;rcases h with ⟨i,y,h1,h2,rfl⟩|⟨h1,rfl⟩
 ·exact absurd h2 (hn i y h1)
 ·exact⟨rfl,hb⟩):p:=h
theorem iR {p:Prop} (h:p:=by
 go_wp2;go_ret;exact al.f (fun h=>by have:=HI.2 (h.2.1 k x HX.out);cases this) HB2.out):p:=h
theorem qu {p:Prop} (h:p:=by
 have HH:=aa hh;clear hh;obtain⟨k0,k1,k2,k3,k4,k5⟩:=cs6 Bk;obtain⟨p0,p1,p2,p3,p4,p5⟩:=cs6 Bp;have ltp_1:=ae Bp.out;go_wp2;go_ret;refine al.f (fun ⟨i,n,e1,e2,_⟩=>?_) (HB.alloc HB.size _);have:=(cx HN.out e1 e2).2;rw[HH.out] at this;cases this):p:=h
theorem nj {p:Prop} (h:p:=by
 go_wp2;go_ret;exact⟨congrArg (fun z=>Ending.returned (.int .i64 z)) (HS.trans (by rw[sE af])),HB.out⟩):p:=h
theorem iO {p:Prop} (h:p:=by
 go_wp2;go_ret;exact al.f (fun h=>by have:=h.1;omega) (sB _ _)):p:=h
theorem ni {p:Prop} (h:p:=by
 obtain⟨k0,k1,k2,k3,k4,k5⟩:=cs6 Bk;go_wp2;go_ret;exact al.f (fun h=>by have:=HI2.2 h.2.1;cases this) HB.out):p:=h
theorem iM {p:Prop} (h:p:=by
 obtain⟨q,h1,h2⟩:=haty 0 _ rfl;obtain⟨rfl,-⟩:=h2;exact h1):p:=h
theorem qo {p:Prop} (h:p:=by
 go_wp2_with fail;refine⟨⟨k+1,by omega,by go_num,fun j z hj hz=>?_,HB.out,Bk.out⟩,by simp[intOf];omega⟩;by_cases e:j=k
 ·subst e;rw[HXn.out] at hz;obtain rfl:=sx hz;exact hq
 ·exact HQ.out j z af hz):p:=h
theorem nf {p:Prop} (h:p:=by
 obtain⟨k0,k1,k2,k3,k4,k5⟩:=cs6 Bk;go_wp2;go_ret;exact al.f (fun h=>by have:=HI1.2 h.1;cases this) HB.out):p:=h
theorem qn {p:Prop} (h:p:=by
 obtain⟨x0,x1,x2,x3,x4⟩:=cs5 Bx;have ltx_2:=ae Bx.out;go_wp2;go_ret;refine al.f (fun ⟨i,j,x',v',e1,e2,e3,e4,_⟩=>?_) (HB.alloc HB.size _);have:=(cx HX.out e1 e2).2;rw[HH1.out] at this;cases this):p:=h
theorem qm {p:Prop} (h:p:=by
 by_cases h:∃v,bm c t v
 ·exact .inl h
 ·exact .inr (fun v hv=>h ⟨v,hv⟩)):p:=h
theorem qk {p:Prop} (h:p:=by
 exact ag (sN _) (ag (sN _) (ag (sN _) (ag (sN _) (ag (sN _) (ag (sN _) (ag (sN _) (ag (sN _) (HB.out))))))))):p:=h
theorem qg {p:Prop} (h:p:=by
 exact ag (sN _) (ag (sN _) (ag (sN _) (ag (sN _) (ag (sN _) (ag (sN _) (ag (sN _) (HB.out)))))))):p:=h
theorem kW {p:Prop} (h:p:=by
 clear HQ;go_wp2;go_ret;exact al.t ⟨HQ1.out,HQ2.out⟩ HB.out):p:=h
theorem mY {p:Prop} (h:p:=by
 obtain rfl:=sx hz;exact⟨HH.out,.inr (HI.1 bA)⟩):p:=h
theorem pY {p:Prop} (h:p:=by
 exact ag (sN _) (ag (sN _) (ag (sN _) (ag (sN _) (ag (sN _) (HB.out)))))):p:=h
theorem pX {p:Prop} (h:p:=by
 obtain rfl:pl=k:=af
 go_wp2;go_ret;exact al.t (fun j t ht=>HQ.out j t kO ht) HB.out):p:=h
theorem pW {p:Prop} (h:p:=by
 by_cases e:j=k
 ·subst e;rw[HXp.out] at hz;obtain rfl:=sx hz;exact fun h=>absurd h HP2.out
 ·exact HQ.out j z af hz):p:=h
theorem pV {p:Prop} (h:p:=by
 go_wp2_with fail;go_ret;exact⟨false,rfl,⟨fun h=>bp,fun h=>(HP.out (h.2.2.2.2.1)).elim⟩,below_drewN (aj _ _) _⟩):p:=h
theorem pU {p:Prop} (h:p:=by
 obtain⟨k0,k1,k2,k3,k4,k5⟩:=cs6 Bk;go_wp2;go_ret;exact al.f (fun h=>by have:=HI5.2 h.2.2.2.2.1;cases this) HB.out):p:=h
theorem nZ {p:Prop} (h:p:=by
 obtain⟨k0,k1,k2,k3,k4,k5⟩:=cs6 Bk;go_wp2;go_ret;exact al.f (fun h=>by have:=HI6.2 h.2.2.2.2.2;cases this) HB.out):p:=h
theorem nY {p:Prop} (h:p:=by
 obtain⟨k0,k1,k2,k3,k4,k5⟩:=cs6 Bk;go_wp2;go_ret;exact al.f (fun h=>by have:=HI4.2 h.2.2.2.1;cases this) HB.out):p:=h
theorem nW {p:Prop} (h:p:=by
 obtain⟨k0,k1,k2,k3,k4,k5⟩:=cs6 Bk;go_wp2;go_ret;exact al.f (fun h=>by have:=HI3.2 h.2.2.1;cases this) HB.out):p:=h
theorem nV {p:Prop} (h:p:=by
 exact ag (sN _) (ag (sN _) (ag (sN _) (ag (sN _) (HB.out))))):p:=h
theorem jO {p:Prop} (h:p:=by
 obtain rfl:=sx hz;exact⟨HH.out,.inl HEm.out⟩):p:=h
theorem nS {p:Prop} (h:p:=by
 show _=_;rw[eK HX.out,if_neg (fun h=>by have:=HI.2 h;cases this),<-HS.out,Int.add_zero]):p:=h
theorem nK {p:Prop} (h:p:=by
 have HD:=aa hbd;clear hbd;obtain⟨k0,k1,k2,k3,k4,k5⟩:=cs6 Bk;obtain⟨n0,n1,n2,n3,n4,n5,n6⟩:=cs7 Bn;have ltn_1:=ae Bn.out;go_wp2;go_ret;refine al.f (fun ⟨i,m,e1,e2,e3,e4⟩=>?_) (HB.alloc HB.size _);obtain⟨v,e5,_⟩:=e4 k t HXt.out;exact HD.out v e5):p:=h
theorem nG {p:Prop} (h:p:=by
 obtain rfl:pl=k:=af
 go_wp2;go_ret;exact al.t ⟨_,n,HX1.out,HN1.out,HC.out,fun j t ht=>HQ.out j t kO ht⟩ HB.out):p:=h
theorem nB {p:Prop} (h:p:=by
 obtain rfl:=sx hz;exact fun j s hs=>HQ2.out j s (by have h1:=(sv.1 hs).1;have h2:=HVL.out;omega) hs):p:=h
theorem nz {p:Prop} (h:p:=by
 by_cases e:j=k
 ·subst e;rw[HXx.out] at hz;obtain rfl:=sx hz;exact HOK.out
 ·exact HQ.out j z af hz):p:=h
theorem ny {p:Prop} (h:p:=by
 by_cases e:j=k
 ·subst e;rw[HX.out] at hz;obtain rfl:=sx hz;exact HN.out
 ·exact HE.out j z af hz):p:=h
theorem dz {p:Prop} (h:p:=by
 have x0:=fun q:Wd wr=>(q.cell hb).trans c0;have x1:=fun q:Wd wr=>(q.cell hb).trans c1;have x2:=fun q:Wd wr=>(q.cell hb).trans c2;have x3:=fun q:Wd wr=>(q.cell hb).trans c3;have x4:=fun q:Wd wr=>(q.cell hb).trans c4;exact sw x0 (sw x1 (sw x2 (sw x3 x4)))):p:=h
theorem o7 {p:Prop} (h:p:=by
 have HR:=aa hr;have hl1:c.ns.length=l1:=kP
 have hm1:l1<=9223372036854775807:=sC hr.n.2.1 hr.n.2.2.1;have hl2:c.ks.length=l2:=by simpa using (show (c.ks.map kdF).length=l2 from hr.k.1)
 have hm2:l2<=9223372036854775807:=sC hr.k.2.1 hr.k.2.2.1;have hl3:c.vs.length=l3:=iA
 have hm3:l3<=9223372036854775807:=sC hr.v.2.1 hr.v.2.2.1;have hl4:c.xs.length=l4:=mJ
 have hm4:l4<=9223372036854775807:=sC hr.x.2.1 hr.x.2.2.1;have hl5:c.ps.length=l5:=by simpa using (show (c.ps.map pdF).length=l5 from hr.p.1)
 have hm5:l5<=9223372036854775807:=sC hr.p.2.1 hr.p.2.2.1;exact sw HR (sw hl1 (sw hm1 (sw hl2 (sw hm2 (sw hl3 (sw hm3 (sw hl4 (sw hm4 (sw hl5 hm5)))))))))):p:=h
theorem mN {p:Prop} (h:p:=by
 have HR:=aa hr;have hl1:c.ns.length=l1:=kP
 have hm1:l1<=9223372036854775807:=sC hr.n.2.1 hr.n.2.2.1;have hl3:c.vs.length=l3:=iA
 exact sw HR (sw hl1 (sw hm1 hl3))):p:=h
theorem oY {p:Prop} (h:p:=by
 have hbw:=sG hbl HRW.size;have e0:=(ai hb1 hbw).trans ((ai HRW.out hbl).trans c0);have e1:=(ai hb1 hbw).trans ((ai HRW.out hbl).trans c1);have e2:=(ai hb1 hbw).trans ((ai HRW.out hbl).trans c2);have e3:=(ai hb1 hbw).trans ((ai HRW.out hbl).trans c3);exact sw hbw (sw e0 (sw e1 (sw e2 e3)))):p:=h
theorem iK {p:Prop} (h:p:=by
 have HB3:=aa (HB2.trans (hb2.mono (sC HB.size (sC (sN _) hs1))));have g2:=(hb2.block wr.heap.size af).trans HG.out;have hs2:=hb2.size;have htri:=fJ y.toList x.n.toList;exact sw HB3 (sw g2 (sw hs2 htri))):p:=h
theorem eV {p:Prop} (h:p:=by
 have d0:=ck0 g1;have f0:=aq g1 0;have d1:=ck1 g1;have f1:=aq g1 1;have d2:=ck2 g1;have f2:=aq g1 2;have d3:=ck3 g1;have f3:=aq g1 3;exact sw d0 (sw f0 (sw d1 (sw f1 (sw d2 (sw f2 (sw d3 f3))))))):p:=h
theorem kU {p:Prop} (h:p:=by
 have HW:=HB;have k1:=fun q:Wd wr=>q.slot (o:=1) Gk.out rfl;have x0:=fun q:Wd wr=>(q.cell hb).trans c0;have x1:=fun q:Wd wr=>(q.cell hb).trans c1;have x2:=fun q:Wd wr=>(q.cell hb).trans c2;have x3:=fun q:Wd wr=>(q.cell hb).trans c3;exact sw HW (sw k1 (sw x0 (sw x1 (sw x2 x3))))):p:=h
theorem ea {p:Prop} (h:p:=by
 have HR:=aa hr;have hxl:xs.length=len:=de
 have hlc:=sC hr.2.1 hr.2.2.1;exact sw HR (sw hxl hlc)):p:=h
theorem iI {p:Prop} (h:p:=by
 have hl5:c.ps.length=l5:=by simpa using (show (c.ps.map pdF).length=l5 from hr.p.1)
 have hm5:l5<=9223372036854775807:=sC hr.p.2.1 hr.p.2.2.1;exact sw hl5 hm5):p:=h
theorem mV {p:Prop} (h:p:=by
 have Gk:=Bk;have Gx:=Bx;have Gy:=By;have HW:=HB;have k2:=fun q:Wd q1.w=>q.slot (o:=2) Gk.out rfl;have x3:=fun q:Wd q1.w=>q.slot (o:=3) Gx.out rfl;have y3:=fun q:Wd q1.w=>q.slot (o:=3) Gy.out rfl;have tw:=fun q:Wd q1.w=>(q.cell hbw1).trans hcw1;have vw:=fun q:Wd q1.w=>(q.cell hbv1).trans hcv1;have hne0:=Wd.ne q1.w;exact sw Gk (sw Gx (sw Gy (sw HW (sw k2 (sw x3 (sw y3 (sw tw (sw vw hne0))))))))):p:=h
theorem eU {p:Prop} (h:p:=by
 have x5:=fun q:Wd wr=>(q.cell hb).trans c5;have x6:=fun q:Wd wr=>(q.cell hb).trans c6;exact sw x5 x6):p:=h
theorem d_ {p:Prop} (h:p:=by
 have HB2:=upB HB1 hb1;have d0:=ck0 g1;have d1:=ck1 g1;have d2:=ck2 g1;have d3:=ck3 g1;exact sw HB2 (sw d0 (sw d1 (sw d2 d3)))):p:=h
theorem dE {p:Prop} (h:p:=by
 have yw:=fun q:Wd wr=>(q.cell hb).trans y0;have hne0:=Wd.ne wr;exact sw yw hne0):p:=h
theorem kT {p:Prop} (h:p:=by
 have HB3:=aa (HB2.trans (hb2.mono (sC HB.size (sC (sN _) hs1))));have hp:=n9 HE.out HX.out hless;exact sw HB3 hp):p:=h
theorem bF {p:Prop} (h:p:=by
 have HB1:=upB HW q.b;have Ck:=upK Gk q.b;exact sw HB1 Ck):p:=h
theorem pQ {p:Prop} (h:p:=by
 have GK:=aa ((sR wr (.cells (nov n va vl vc) 56) _ (ae Bk.out)).trans Bk.out);have GR:Hid ((wr.alloc (.cells (nov n va vl vc) 56)).heap[wr.heap.size]?=some (.cells (nov n va vl vc) 56 (0,0))):=sH;have HW:=aa (HB.trans ((aj wr (.cells (nov n va vl vc) 56)).mono HB.size));exact sw GK (sw GR HW)):p:=h
theorem cf {p:Prop} (h:p:=by
 have HB1:=upB HW q1.b;have Ck:=upK Gk q1.b;exact sw HB1 Ck):p:=h
theorem cd {p:Prop} (h:p:=by
 have HB2:=upB HW q2.b;have Ck:=upK Gk q2.b;exact sw HB2 Ck):p:=h
theorem eS {p:Prop} (h:p:=by
 have HR:=aa hr;have HB:=aa (sB w.heap.size w);exact sw HR HB):p:=h
theorem mQ {p:Prop} (h:p:=by
 have fr0:=aq Bs.out 0;have fr1:=aq Bs.out 1;have fr2:=aq Bs.out 2;have fr3:=aq Bs.out 3;have fr4:=aq Bs.out 4;have fr5:=aq Bs.out 5;have fr6:=aq Bs.out 6;have fr7:=aq Bs.out 7;exact sw fr0 (sw fr1 (sw fr2 (sw fr3 (sw fr4 (sw fr5 (sw fr6 fr7))))))):p:=h
theorem iD {p:Prop} (h:p:=by
 have HB:=aa (BV.trans (HBW.mono BV.size));have Bk:=upK KV HBW.out;exact sw HB Bk):p:=h
theorem fu {p:Prop} (h:p:=by
 have HE:=aa hG;have HB:=aa (sB w.heap.size w);exact sw HE HB):p:=h
theorem pH {p:Prop} (h:p:=by
 have GV:Hid ((wr.alloc (.cells (vov v va vl vc) 101)).heap[wr.heap.size]?=some (.cells (vov v va vl vc) 101 (0,0))):=sH;have BV:=aa (HB.trans ((aj wr (.cells (vov v va vl vc) 101)).mono HB.size));exact sw GV BV):p:=h
theorem kR {p:Prop} (h:p:=by
 have d4:=ck4 g1;have f4:=aq g1 4;have d5:=ck5 g1;have f5:=aq g1 5;have d6:=ck6 g1;have f6:=aq g1 6;exact sw d4 (sw f4 (sw d5 (sw f5 (sw d6 f6))))):p:=h
theorem pD {p:Prop} (h:p:=by
 have e4:=(ai hb1 hbw).trans ((ai HRW.out hbl).trans c4);have e5:=(ai hb1 hbw).trans ((ai HRW.out hbl).trans c5);have e6:=(ai hb1 hbw).trans ((ai HRW.out hbl).trans c6);exact sw e4 (sw e5 e6)):p:=h
theorem iC {p:Prop} (h:p:=by
 have hd:decide ((0:Int)<k)=false:=by simp;omega
 have Gk:=Bk;exact sw hd Gk):p:=h
theorem eR {p:Prop} (h:p:=by
 have HX:=aa hx;have HV:=aa hv;have HNE:=aa hne;exact sw HX (sw HV HNE)):p:=h
theorem pC {p:Prop} (h:p:=by
 have Gk:Hid (wr.heap[w.heap.size]?=some (.cells (clo6 (some ⟨b,o,none⟩) l1 y1 a2 l2 y2 a3 l3 y3 a4 l4 y4 a5 l5 y5 c.now) 36 (0,0))):=Bk.out;have HW:=HB;have k0:=fun q:Wd wr=>q.slot (o:=0) Gk.out rfl;exact sw Gk (sw HW k0)):p:=h
theorem pB {p:Prop} (h:p:=by
 have Gk:Hid (wr.heap[w.heap.size]?=some (.cells (clo6 a1 l1 y1 a2 l2 y2 (some ⟨b,o,none⟩) l3 y3 a4 l4 y4 a5 l5 y5 c.now) 36 (0,0))):=Bk.out;have HW:=HB;have k2:=fun q:Wd wr=>q.slot (o:=2) Gk.out rfl;exact sw Gk (sw HW k2)):p:=h
theorem pA {p:Prop} (h:p:=by
 have Gk:Hid (wr.heap[w.heap.size]?=some (.cells (clo6 a1 l1 y1 a2 l2 y2 a3 l3 y3 (some ⟨b,o,none⟩) l4 y4 a5 l5 y5 c.now) 36 (0,0))):=Bk.out;have HW:=HB;have k3:=fun q:Wd wr=>q.slot (o:=3) Gk.out rfl;exact sw Gk (sw HW k3)):p:=h
theorem pz {p:Prop} (h:p:=by
 have Gk:Hid (wr.heap[w.heap.size]?=some (.cells (clo6 a1 l1 y1 a2 l2 y2 a3 l3 y3 a4 l4 y4 (some ⟨b,o,none⟩) l5 y5 c.now) 36 (0,0))):=Bk.out;have HW:=HB;have k4:=fun q:Wd wr=>q.slot (o:=4) Gk.out rfl;exact sw Gk (sw HW k4)):p:=h
end Go.Proofs.YtdfgbboadbnodaaGreatDoor
namespace Go.Proofs.YtdfgbboadbnodaaGreatDoor
open Go.RowKit

theorem oq (n:ByteArray) (c:Int) (z k:ByteArray) (x:Bool) (m:ByteArray) (y:Bool) (a:Option Addr) (len cap:Nat) (zs:List ByteArray) (w:World) (hn:n.size<=9223372036854775807) (hz:z.size<=9223372036854775807) (hk:k.size<=9223372036854775807) (hm:m.size<=9223372036854775807) (hr:ar w a len cap zs):
  Calls Tryz.prog 188 #[.agg #[.string n,.int .i64 c,.string z,.string k,.bool x,.string m,.bool y,.slice a len cap]] w (al (oN n c z k x m y zs) w):=by
 have HR:Hid (ar w a len cap zs):=hr;clear hr;cases y
 ·have HY:Hid (false=true->m=⟨#[]⟩):=fun h=>bp;by_cases p0:aX n;case neg=>
   exact qF
  have F0:Hid (∀w,Calls Tryz.prog 182 #[.string n] w fun e w'=>e=.returned (.bool true)/\w'=w):=fun w=>(aM n w hn).mono fun _ _ h=>h.yes p0;by_cases p1:Inn c 1 1048576;case neg=>
   exact qJ
  have F1:Hid (∀w,Calls Tryz.prog 125 #[.int .i64 c,.int .i64 1,.int .i64 1048576] w fun e w'=>e=.returned (.bool true)/\w'=w):=fun w=>(a_ c 1 1048576 w).mono fun _ _ h=>h.yes p1;by_cases p2:aX z;case neg=>
   exact qK
  have F2:Hid (∀w,Calls Tryz.prog 182 #[.string z] w fun e w'=>e=.returned (.bool true)/\w'=w):=fun w=>(aM z w hz).mono fun _ _ h=>h.yes p2;by_cases p3:aX k;case neg=>
   exact qL
  have F3:Hid (∀w,Calls Tryz.prog 182 #[.string k] w fun e w'=>e=.returned (.bool true)/\w'=w):=fun w=>(aM k w hk).mono fun _ _ h=>h.yes p3;by_cases p4:b9 m;case neg=>
   have F4:Hid (∀w,Calls Tryz.prog 189 #[.string m] w fun e w'=>e=.returned (.bool false)/\w'=w):=fun w=>(bU m w hm).mono fun _ _ h=>h.no p4;have HP:=aa p4;clear p4;go_enter Tryz.func188,Tryz.ntmps188;go_wp2_with fail;go_quiet ((first|(go_at_call_of 182 (sP n);exact sQ (F0.out _))|(go_at_call_of 125 (Value.int .i64 c);exact sQ (F1.out _))|(go_at_call_of 182 (sP z);exact sQ (F2.out _))|(go_at_call_of 182 (sP k);exact sQ (F3.out _))|(go_at_call_of 189 (sP m);exact sQ (F4.out _))));exact pV
  have F4:Hid (∀w,Calls Tryz.prog 189 #[.string m] w fun e w'=>e=.returned (.bool true)/\w'=w):=fun w=>(bU m w hm).mono fun _ _ h=>h.yes p4;obtain⟨q,hq⟩:∃q:Int,q=if x=true then 1 else 6:=⟨_,rfl⟩;have HM:Hid (∀w,Calls Tryz.prog 190 #[.agg #[.string n,.int .i64 c,.string z,.string k,.bool x,.string m,.bool false,.slice a len cap]] w fun e w'=>e=.returned (.int .i64 q)/\Below w.heap.size w w'):=fun w=>by rw[hq];exact fH n c z k x m false a len cap w
  have HQ:Hid (q=if x=true then 1 else 6):=hq;clear hq;go_enter Tryz.func188,Tryz.ntmps188;go_wp2_with fail;go_region_with (first|(go_at_call_of 182 (sP n);refine (F0.out _).mono ?_;rintro e w1 ⟨rfl,rfl⟩)|(go_at_call_of 125 (Value.int .i64 c);refine (F1.out _).mono ?_;rintro e w1 ⟨rfl,rfl⟩)|(go_at_call_of 182 (sP z);refine (F2.out _).mono ?_;rintro e w1 ⟨rfl,rfl⟩)|(go_at_call_of 182 (sP k);refine (F3.out _).mono ?_;rintro e w1 ⟨rfl,rfl⟩)|(go_at_call_of 189 (sP m);refine (F4.out _).mono ?_;rintro e w1 ⟨rfl,rfl⟩)|(go_at_call 190;refine (HM.out _).mono ?_;rintro e w1 ⟨rfl,hb⟩;have hc7:=ay (eE hb).1 7;simp only[List.getElem?_toArray,List.getElem?_cons_succ,List.getElem?_cons_zero] at hc7)|(go_at_call 183;refine (cX a len cap zs _ _ (HR.below (eE hb).2.1)).mono ?_;rintro e w2 ⟨r,rfl,hr,rfl⟩));all_goals (
   go_wp2_with fail;go_ret
   exact⟨r,rfl,⟨fun h=>⟨p0,p1,p2,p3,p4,HY.out,HQ.out ▸ hr.1 h⟩,fun h=>hr.2 (HQ.out ▸ h.2.2.2.2.2.2)⟩,(eE hb).2.1⟩)
 by_cases hm0:m=⟨#[]⟩
 ·subst hm0;have HY:Hid True:=trivial;by_cases p0:aX n;case neg=>
   exact qF
  have F0:Hid (∀w,Calls Tryz.prog 182 #[.string n] w fun e w'=>e=.returned (.bool true)/\w'=w):=fun w=>(aM n w hn).mono fun _ _ h=>h.yes p0;by_cases p1:Inn c 1 1048576;case neg=>
   exact qJ
  have F1:Hid (∀w,Calls Tryz.prog 125 #[.int .i64 c,.int .i64 1,.int .i64 1048576] w fun e w'=>e=.returned (.bool true)/\w'=w):=fun w=>(a_ c 1 1048576 w).mono fun _ _ h=>h.yes p1;by_cases p2:aX z;case neg=>
   exact qK
  have F2:Hid (∀w,Calls Tryz.prog 182 #[.string z] w fun e w'=>e=.returned (.bool true)/\w'=w):=fun w=>(aM z w hz).mono fun _ _ h=>h.yes p2;by_cases p3:aX k;case neg=>
   exact qL
  have F3:Hid (∀w,Calls Tryz.prog 182 #[.string k] w fun e w'=>e=.returned (.bool true)/\w'=w):=fun w=>(aM k w hk).mono fun _ _ h=>h.yes p3;by_cases p4:b9 (⟨#[]⟩:ByteArray);case neg=>
   have F4:Hid (∀w,Calls Tryz.prog 189 #[.string (⟨#[]⟩:ByteArray)] w fun e w'=>e=.returned (.bool false)/\w'=w):=fun w=>(bU (⟨#[]⟩:ByteArray) w hm).mono fun _ _ h=>h.no p4;have HP:=aa p4;clear p4;go_enter Tryz.func188,Tryz.ntmps188;go_wp2_with fail;go_quiet ((first|(go_at_call_of 182 (sP n);exact sQ (F0.out _))|(go_at_call_of 125 (Value.int .i64 c);exact sQ (F1.out _))|(go_at_call_of 182 (sP z);exact sQ (F2.out _))|(go_at_call_of 182 (sP k);exact sQ (F3.out _))|(go_at_call_of 189 (sP (⟨#[]⟩:ByteArray));exact sQ (F4.out _))));exact pV
  have F4:Hid (∀w,Calls Tryz.prog 189 #[.string (⟨#[]⟩:ByteArray)] w fun e w'=>e=.returned (.bool true)/\w'=w):=fun w=>(bU (⟨#[]⟩:ByteArray) w hm).mono fun _ _ h=>h.yes p4;obtain⟨q,hq⟩:∃q:Int,q=if x=true then 1 else 6:=⟨_,rfl⟩;have HM:Hid (∀w,Calls Tryz.prog 190 #[.agg #[.string n,.int .i64 c,.string z,.string k,.bool x,.string (⟨#[]⟩:ByteArray),.bool true,.slice a len cap]] w fun e w'=>e=.returned (.int .i64 q)/\Below w.heap.size w w'):=fun w=>by rw[hq];exact fH n c z k x (⟨#[]⟩:ByteArray) true a len cap w
  have HQ:Hid (q=if x=true then 1 else 6):=hq;clear hq;go_enter Tryz.func188,Tryz.ntmps188;go_wp2_with fail;go_region_with (first|(go_at_call_of 182 (sP n);refine (F0.out _).mono ?_;rintro e w1 ⟨rfl,rfl⟩)|(go_at_call_of 125 (Value.int .i64 c);refine (F1.out _).mono ?_;rintro e w1 ⟨rfl,rfl⟩)|(go_at_call_of 182 (sP z);refine (F2.out _).mono ?_;rintro e w1 ⟨rfl,rfl⟩)|(go_at_call_of 182 (sP k);refine (F3.out _).mono ?_;rintro e w1 ⟨rfl,rfl⟩)|(go_at_call_of 189 (sP (⟨#[]⟩:ByteArray));refine (F4.out _).mono ?_;rintro e w1 ⟨rfl,rfl⟩)|(go_at_call 190;refine (HM.out _).mono ?_;rintro e w1 ⟨rfl,hb⟩;have hc7:=ay (eE hb).1 7;simp only[List.getElem?_toArray,List.getElem?_cons_succ,List.getElem?_cons_zero] at hc7)|(go_at_call 183;refine (cX a len cap zs _ _ (HR.below (eE hb).2.1)).mono ?_;rintro e w2 ⟨r,rfl,hr,rfl⟩));all_goals (
   go_wp2_with fail;go_ret
   exact⟨r,rfl,⟨fun h=>⟨p0,p1,p2,p3,p4,(fun _=>rfl),HQ.out ▸ hr.1 h⟩,fun h=>hr.2 (HQ.out ▸ h.2.2.2.2.2.2)⟩,(eE hb).2.1⟩)
 have hq9:=aZ hm0;go_enter Tryz.func188,Tryz.ntmps188;exact nx

end Go.Proofs.YtdfgbboadbnodaaGreatDoor

namespace Go.Proofs.YtdfgbboadbnodaaGreatDoor
open Go.RowKit
namespace Rc
open Mk

theorem ck (x:Nd) (va:Option Addr) (vl vc:Nat) (w:World):
  Calls Tryz.prog 179 #[.agg #[.string x.n,.string x.z,.int .i64 x.c,.int .i64 x.s,.int .i64 x.u,.bool x.d,.slice va vl vc]] w fun e w'=>e=.returned (.string x.n)/\Below w.heap.size w w':=by
 go_enter Tryz.func179,Tryz.ntmps179;go_wp2;go_ret;exact⟨rfl,aj _ _⟩

theorem iu (x:Nd) (va:Option Addr) (vl vc:Nat) (w:World) (hn:x.n.size<=9223372036854775807) (hz:x.z.size<=9223372036854775807) (hr:ar w va vl vc x.zs):
  Calls Tryz.prog 180 #[.agg #[.string x.n,.string x.z,.int .i64 x.c,.int .i64 x.s,.int .i64 x.u,.bool x.d,.slice va vl vc]] w (al (jU x) w):=by
 have HR:=aa (hr.below (aj w (.cells (nov x va vl vc) 56)));clear hr;go_enter Tryz.func180,Tryz.ntmps180;go_wp2_with fail;refine (lZ x.n x.z x.c x.s x.u x.d va vl vc x.zs _ hn hz HR.out).mono ?_;exact iV

theorem eX (a:Option Addr) (len cap:Nat) (xs:List Nd) (t:ByteArray) (w:World) (hr:aA w a len cap 7 (xs.map ndF)):
  Calls Tryz.prog 95 #[.slice a len cap,.string t] w fun e w'=>e=.returned (.tuple #[.int .i64 (pl Nd.n xs t:Nat),.bool (hit Nd.n xs t)])/\Below w.heap.size w w':=by
 obtain⟨HR,hxl,hlc⟩:=ea;clear hr;have hmcalled:∀(v:Value) (w:World),(method 343 56 v "loop.example/g00571/impl.called").run Tryz.prog w=.ok (179,v) w:=fun _ _=>by kernel_rfl
 go_enter Tryz.func95,Tryz.ntmps95;go_wp2;go_loopw [10] (fun i wr=> ∃k:Nat,k<=len/\i=.int .i64 k/\Hid (∀(j:Nat) y,j<k->xs[j]?=some y->sJ y.n.toList t.toList=true)/\Hid (Below w.heap.size w wr)) (fun i _=>len - (intOf i).toNat);case atStart=>exact⟨0,by omega,rfl,fun j y hj=>by omega,sB _ _⟩
 case round=>
  obtain⟨k,hk,rfl,HE,HB⟩:=hrel;by_cases hlt:k<len
  ·obtain⟨b,o,x,rfl,hb,hx,hat⟩:=bq (HR.below HB.out) hlt;obtain⟨va,vl,vc,hvr,z0,z1,c0,c1,c2,c3,c4,c5,c6⟩:=aK hat;have HX:=aa hx;clear hat hx z0 z1 hvr;have HC:=aa (fun v:World=>ck x va vl vc v);have HB1:=aa (HB.alloc HB.size (.cells (nov x va vl vc) 56));go_wp2_with fail;refine (HC.out _).mono ?_;rintro e w1 ⟨rfl,hb1⟩;obtain⟨g1,-,-⟩:=bE hb1;have hs1:=hb1.size;rw[show (wr.alloc (.cells (nov x va vl vc) 56)).heap.size=wr.heap.size+1 from by simp] at hs1;obtain⟨HB2,d0,d1,d2,d3⟩:=d_;have d4:=ck4 g1;have d5:=ck5 g1;have d6:=ck6 g1;clear g1 hb1 c0 c1 c2 c3 c4 c5 c6 HB1;cases hless:sJ x.n.toList t.toList
   ·go_wp2_with fail;refine (HC.out _).mono ?_;rintro e w2 ⟨rfl,hb2⟩;obtain⟨HB3,hp⟩:=kT;clear hb2;go_wp2_with fail;refine bodyPost_ret (v:=.tuple #[.int .i64 k,.bool (x.n.toList==t.toList)]) (by simp[results,Tryz.results95,go_sem]) rfl ⟨?_,HB3.out⟩;unfold hit;rw[hp,HX.out]
   ·exact lf
  ·obtain rfl:k=len:=af
   have hp:pl Nd.n xs t=xs.length:=fG (fun j y hy=>HE.out j y kN hy);have hh:hit Nd.n xs t=false:=by unfold hit;rw[hp,s9 (sy _)]
   have HP:=aa hp;have HH:=aa hh;clear hp hh;go_wp2;exact bodyPost_ret (v:=.tuple #[.int .i64 k,.bool false]) (by simp[results,Tryz.results95,go_sem]) rfl ⟨by rw[HP.out,HH.out,hxl],HB.out⟩

def lC (xs:List Nd) (t:ByteArray) (r w:World) (e:Ending) (w':World):Prop:=
 Below w.heap.size w w'/\((hit Nd.n xs t=true/\∃(x:Nd) (va:Option Addr) (vl vc:Nat),xs[pl Nd.n xs t]?=some x/\x.n=t/\e=.returned (.tuple #[.agg #[.string x.n,.string x.z,.int .i64 x.c,.int .i64 x.s,.int .i64 x.u,.bool x.d,.slice va vl vc],.bool true])/\x.n.size<=9223372036854775807/\x.z.size<=9223372036854775807/\ar r va vl vc x.zs)\/(hit Nd.n xs t=false/\e=.returned (.tuple #[.agg #[.string ⟨#[]⟩,.string ⟨#[]⟩,.int .i64 0,.int .i64 0,.int .i64 0,.bool false,.slice none 0 0],.bool false])))

theorem kx (a:Option Addr) (len cap:Nat) (xs:List Nd) (t:ByteArray) (r w:World) (hr:aA r a len cap 7 (xs.map ndF)) (hrw:Below r.heap.size r w):
  Calls Tryz.prog 131 #[.slice a len cap,.string t] w (lC xs t r w):=by
 have HR:=aa hr;have HRW:=aa hrw;have hxl:xs.length=len:=de
 have HR1:=aa ((hr.below hrw).below (aj w (.cells #[.string ⟨#[]⟩,.string ⟨#[]⟩,.int .i64 0,.int .i64 0,.int .i64 0,.bool false,.slice none 0 0] 56)));clear hr hrw;go_enter Tryz.func131,Tryz.ntmps131;go_wp2_with fail;refine (eX a len cap xs t _ HR1.out).mono ?_;rintro e w1 ⟨rfl,hb⟩;obtain⟨g1,hb1,-⟩:=bE hb;obtain⟨d0,f0,d1,f1,d2,f2,d3,f3⟩:=eV;obtain⟨d4,f4,d5,f5,d6,f6⟩:=kR;have HB:=aa hb1;have hs1:=hb.size;rw[show (w.alloc (.cells #[.string ⟨#[]⟩,.string ⟨#[]⟩,.int .i64 0,.int .i64 0,.int .i64 0,.bool false,.slice none 0 0] 56)).heap.size=w.heap.size+1 from by simp] at hs1;have hlt1:w.heap.size<w1.heap.size:=af
 clear hb g1 HR1 hs1;cases hh:hit Nd.n xs t
 ·generalize pl Nd.n xs t=j;have HH:=aa hh;clear hh hb1 HR hxl;go_wp2;refine bodyPost_ret (v:=.tuple #[.agg #[.string ⟨#[]⟩,.string ⟨#[]⟩,.int .i64 0,.int .i64 0,.int .i64 0,.bool false,.slice none 0 0],.bool false]) (by simp[results,Tryz.results131,go_sem, *]) rfl ⟨?_,.inr ⟨HH.out,rfl⟩⟩;exact tN (ag (sy _) (ag (sy _) (ag (sy _) (ag (sy _) (ag (sy _) (ag (sy _) (ag (sy _) (HB.out)))))))) ft _
 ·obtain⟨x,hx,hn⟩:=er hh;have hj:pl Nd.n xs t<len:=by have:=(sv.1 hx).1;omega
  obtain⟨b,o,y,rfl,hbl,hy,hat⟩:=bq HR.out hj;rw[hx] at hy;obtain rfl:=sx hy;obtain⟨va,vl,vc,hvr,z0,z1,c0,c1,c2,c3,c4,c5,c6⟩:=aK hat;obtain⟨hbw,e0,e1,e2,e3⟩:=oY;obtain⟨e4,e5,e6⟩:=pD;have HI:Hid (lC xs t r w (.returned (.tuple #[.agg #[.string x.n,.string x.z,.int .i64 x.c,.int .i64 x.s,.int .i64 x.u,.bool x.d,.slice va vl vc],.bool true])) w):=⟨sB _ _,.inl ⟨hh,x,va,vl,vc,hx,hn,rfl,z0,z1,hvr⟩⟩;clear c0 c1 c2 c3 c4 c5 c6 hat hx hn hy hh z0 z1 hvr HR HRW hb1;obtain⟨j,hjj⟩:∃j,pl Nd.n xs t=j:=⟨_,rfl⟩;rw[hjj] at hj;simp only[hjj] at*;clear hjj;go_wp2;refine bodyPost_ret (v:=.tuple #[.agg #[.string x.n,.string x.z,.int .i64 x.c,.int .i64 x.s,.int .i64 x.u,.bool x.d,.slice va vl vc],.bool true]) (by simp[results,Tryz.results131,go_sem, *]) rfl ⟨?_,HI.2⟩;exact ag (sy _) (ag (sy _) (ag (sy _) (ag (sy _) (ag (sy _) (ag (sy _) (ag (sy _) (HB.out)))))))

theorem dn (d:Ad) (now:Int) (xs:List Nd) (t:ByteArray) (r w:World) (hr:aA r d.a1 d.l1 d.c1 7 (xs.map ndF)) (hrw:Below r.heap.size r w):
  Calls Tryz.prog 109 #[.agg #[.slice d.a1 d.l1 d.c1,.slice d.a2 d.l2 d.c2,.slice d.a3 d.l3 d.c3,.slice d.a4 d.l4 d.c4,.slice d.a5 d.l5 d.c5,.int .i64 now],.string t] w (lC xs t r w):=by
 have HR:=aa hr;have HRW:=aa (hrw.trans ((aB w (.cells (clv d now) 36) (.cells #[.string ⟨#[]⟩,.string ⟨#[]⟩,.int .i64 0,.int .i64 0,.int .i64 0,.bool false,.slice none 0 0] 56)).mono hrw.size));clear hr hrw;go_enter Tryz.func109,Tryz.ntmps109;go_wp2_with fail;refine (kx _ _ _ xs t r _ HR.out HRW.out).mono ?_;rintro e w1 ⟨hb,hf⟩;have g1:=(hb.block (w.heap.size+1) aT).trans (bB _ _ _);obtain⟨d0,f0,d1,f1,d2,f2,d3,f3⟩:=eV;obtain⟨d4,f4,d5,f5,d6,f6⟩:=kR;have HB:Hid (Below w.heap.size w w1):=(aB _ _ _).trans (hb.mono cC);clear g1 hb HR HRW;rcases hf with ⟨hh,x,va,vl,vc,hx,hn,rfl,z0,z1,hvr⟩|⟨hh,rfl⟩
 ·have HI:Hid (lC xs t r w (.returned (.tuple #[.agg #[.string x.n,.string x.z,.int .i64 x.c,.int .i64 x.s,.int .i64 x.u,.bool x.d,.slice va vl vc],.bool true])) w):=⟨sB _ _,.inl ⟨hh,x,va,vl,vc,hx,hn,rfl,z0,z1,hvr⟩⟩;clear hx hn hh z0 z1 hvr;go_wp2;refine bodyPost_ret (v:=.tuple #[.agg #[.string x.n,.string x.z,.int .i64 x.c,.int .i64 x.s,.int .i64 x.u,.bool x.d,.slice va vl vc],.bool true]) (by simp[results,Tryz.results109,go_sem, *]) rfl ⟨?_,HI.2⟩;exact qg
 ·have HH:=aa hh;clear hh;go_wp2;refine bodyPost_ret (v:=.tuple #[.agg #[.string ⟨#[]⟩,.string ⟨#[]⟩,.int .i64 0,.int .i64 0,.int .i64 0,.bool false,.slice none 0 0],.bool false]) (by simp[results,Tryz.results109,go_sem, *]) rfl ⟨?_,.inr ⟨HH.out,rfl⟩⟩;exact qg

theorem jJ (a:Option Addr) (len cap:Nat) (xs:List Nd) (most:Int) (w:World) (hr:aA w a len cap 7 (xs.map ndF)):
  Calls Tryz.prog 140 #[.slice a len cap,.int .i64 most] w (al (cA jU Nd.n xs most) w):=by
 obtain⟨HR,hxl,hlc⟩:=ea;clear hr;have hmcalled:∀(v:Value) (w:World),(method 343 56 v "loop.example/g00571/impl.called").run Tryz.prog w=.ok (179,v) w:=fun _ _=>by kernel_rfl
 have hmright:∀(v:Value) (w:World),(method 343 56 v "loop.example/g00571/impl.right").run Tryz.prog w=.ok (180,v) w:=fun _ _=>by kernel_rfl
 by_cases hmo:most<(len:Int)
 ·go_enter Tryz.func140,Tryz.ntmps140;exact iO
 go_enter Tryz.func140,Tryz.ntmps140;go_wp2;go_loopw [5,14] (fun q i wr=> ∃(k:Nat) (y:ByteArray),k<=len/\q=.string y/\i=.int .i64 k/\Hid (k=0->y=⟨#[]⟩)/\Hid (∀z,0<k->xs[k - 1]?=some z->z.n=y)/\Hid (∀(j:Nat) z,j<k->xs[j]?=some z->jU z)/\Hid (∀(j:Nat) z u,j+1<k->xs[j+1]?=some z->xs[j]?=some u->sJ u.n.toList z.n.toList=true)/\Hid (Below w.heap.size w wr)) (fun _ i _=>len - (intOf i).toNat);case atStart=>exact⟨0,_,by omega,rfl,rfl,fun _=>rfl,fun _ h=>absurd h af,fun _ _ h=>absurd h af,fun _ _ _ h=>absurd h af,sB _ _⟩
 case round=>
  obtain⟨k,y,hk,rfl,rfl,H0,H1,HE,HO,HB⟩:=hrel;by_cases hlt:k<len
  ·obtain⟨b,o,x,rfl,hb,hx,hat⟩:=bq (HR.below HB.out) hlt;obtain⟨va,vl,vc,hvr,z0,z1,c0,c1,c2,c3,c4,c5,c6⟩:=aK hat;have HX:=aa hx;have HC:=aa (fun v:World=>ck x va vl vc v);have HB1:=aa (HB.alloc HB.size (.cells (nov x va vl vc) 56));have HRt:=aa (iu x va vl vc (wr.alloc (.cells (nov x va vl vc) 56)) z0 z1 (hvr.below (aj _ _)));clear hat hx z0 z1 hvr;go_wp2_with fail;refine HRt.mono ?_;rintro e w1 ⟨r,rfl,hrt,hb1⟩;obtain⟨g1,-,-⟩:=bE hb1;have hs1:=hb1.size;rw[show (wr.alloc (.cells (nov x va vl vc) 56)).heap.size=wr.heap.size+1 from by simp] at hs1;obtain⟨HB2,d0,d1,d2,d3⟩:=d_;have d4:=ck4 g1;have d5:=ck5 g1;have d6:=ck6 g1;have HG:=aa g1;have HI:=aa hrt;clear g1 hb1 HB1 HRt hrt c0 c1 c2 c3 c4 c5 c6;cases r
   ·exact iR
   have HOK:=aa (HI.1 rfl);clear HI;go_wp2_with fail;refine (HC.out _).mono ?_;rintro e w2 ⟨rfl,hb2⟩;obtain⟨HB3,g2,hs2,htri⟩:=iK;clear HG hb2 HB2 d0 d1 d2 d3 d4 d5 d6;have d0:=ck0 g2;have d1:=ck1 g2;have d2:=ck2 g2;have d3:=ck3 g2;have d4:=ck4 g2;have d5:=ck5 g2;have d6:=ck6 g2;clear g2;cases hless:sJ y.toList x.n.toList
   ·exact nb
   ·rw[hless] at htri;go_wp2_with fail;refine (HC.out _).mono ?_;rintro e w3 ⟨rfl,hb3⟩;have HB4:=aa (HB3.trans (hb3.mono (sC HB.size af)));clear hb3 d0 d1 d2 d3 d4 d5 d6;exact nq
  ·exact ja

def sj (xs:List Nd) (t:ByteArray) (w:World) (e:Ending) (w':World):Prop:=
 Below w.heap.size w w'/\((∃(j:Nat) (x:Nd),xs[j]?=some x/\x.n=t/\e=.returned (.int .i64 j))\/((∀(j:Nat) x,xs[j]?=some x->¬x.n=t)/\e=.returned (.int .i64 (-1))))

theorem dW (d:Ad) (now:Int) (xs:List Nd) (t:ByteArray) (w:World) (hr:aA w d.a1 d.l1 d.c1 7 (xs.map ndF)):
  Calls Tryz.prog 51 #[.agg #[.slice d.a1 d.l1 d.c1,.slice d.a2 d.l2 d.c2,.slice d.a3 d.l3 d.c3,.slice d.a4 d.l4 d.c4,.slice d.a5 d.l5 d.c5,.int .i64 now],.string t] w (sj xs t w):=by
 have HR:=aa hr;have hxl:xs.length=d.l1:=de
 have hlc:=sC hr.2.1 hr.2.2.1;clear hr;go_enter Tryz.func51,Tryz.ntmps51;go_wp2;go_loopw [5] (fun i wr=> ∃k:Nat,k<=d.l1/\i=.int .i64 k/\wr=w.alloc (.cells #[.slice d.a1 d.l1 d.c1,.slice d.a2 d.l2 d.c2,.slice d.a3 d.l3 d.c3,.slice d.a4 d.l4 d.c4,.slice d.a5 d.l5 d.c5,.int .i64 now] 36)/\Hid (∀(j:Nat) z,j<k->xs[j]?=some z->¬z.n=t)) (fun i _=>d.l1 - (intOf i).toNat);case atStart=>exact⟨0,by omega,rfl,rfl,fun _ _ h=>absurd h af⟩
 case round=>
  obtain⟨k,hk,rfl,rfl,HE⟩:=hrel;by_cases hlt:k<d.l1
  ·obtain⟨b,o,x,ha,hb,hx,hat⟩:=bq HR.out hlt;obtain⟨va,vl,vc,hvr,-,-,c0,-,-,-,-,-,-⟩:=aK hat;have HX:=aa hx;clear hat hx hvr;exact lg
  ·obtain rfl:k=d.l1:=af
   exact k9

theorem eC (x:Kd)  (w:World):
  Calls Tryz.prog 195 #[.agg #[.string x.n,.bool x.x,.bool x.y,.string x.z]] w fun e w'=>e=.returned (.string x.n)/\Below w.heap.size w w':=by
 go_enter Tryz.func195,Tryz.ntmps195;go_wp2;go_ret;exact⟨rfl,aj _ _⟩

theorem iv (x:Kd)  (w:World) (hn:x.n.size<=9223372036854775807) (hz:x.z.size<=9223372036854775807):
  Calls Tryz.prog 196 #[.agg #[.string x.n,.bool x.x,.bool x.y,.string x.z]] w (al (j7 x) w):=by
 skip;skip;go_enter Tryz.func196,Tryz.ntmps196;go_wp2_with fail;refine (kh x.n x.z x.x x.y _ hn hz).mono ?_;exact iV

theorem je (a:Option Addr) (len cap:Nat) (xs:List Kd) (t:ByteArray) (w:World) (hr:aA w a len cap 4 (xs.map kdF)):
  Calls Tryz.prog 163 #[.slice a len cap,.string t] w fun e w'=>e=.returned (.tuple #[.int .i64 (pl Kd.n xs t:Nat),.bool (hit Kd.n xs t)])/\Below w.heap.size w w':=by
 obtain⟨HR,hxl,hlc⟩:=ea;clear hr;have hmcalled:∀(v:Value) (w:World),(method 343 106 v "loop.example/g00571/impl.called").run Tryz.prog w=.ok (195,v) w:=fun _ _=>by kernel_rfl
 go_enter Tryz.func163,Tryz.ntmps163;go_wp2;go_loopw [10] (fun i wr=> ∃k:Nat,k<=len/\i=.int .i64 k/\Hid (∀(j:Nat) y,j<k->xs[j]?=some y->sJ y.n.toList t.toList=true)/\Hid (Below w.heap.size w wr)) (fun i _=>len - (intOf i).toNat);case atStart=>exact⟨0,by omega,rfl,fun j y hj=>by omega,sB _ _⟩
 case round=>
  obtain⟨k,hk,rfl,HE,HB⟩:=hrel;by_cases hlt:k<len
  ·obtain⟨b,o,x,rfl,hb,hx,hat⟩:=dH (HR.below HB.out) hlt;obtain⟨z0,z3,c0,c1,c2,c3⟩:=bl hat;have HX:=aa hx;clear hat hx z0 z3;have HC:=aa (fun v:World=>eC x v);have HB1:=aa (HB.alloc HB.size (.cells #[.string x.n,.bool x.x,.bool x.y,.string x.z] 106));go_wp2_with fail;refine (HC.out _).mono ?_;rintro e w1 ⟨rfl,hb1⟩;obtain⟨g1,-,-⟩:=bE hb1;have hs1:=hb1.size;rw[show (wr.alloc (.cells #[.string x.n,.bool x.x,.bool x.y,.string x.z] 106)).heap.size=wr.heap.size+1 from by simp] at hs1;obtain⟨HB2,d0,d1,d2,d3⟩:=d_;clear g1 hb1 c0 c1 c2 c3 HB1;cases hless:sJ x.n.toList t.toList
   ·go_wp2_with fail;refine (HC.out _).mono ?_;rintro e w2 ⟨rfl,hb2⟩;obtain⟨HB3,hp⟩:=kT;clear hb2;go_wp2_with fail;refine bodyPost_ret (v:=.tuple #[.int .i64 k,.bool (x.n.toList==t.toList)]) (by simp[results,Tryz.results163,go_sem]) rfl ⟨?_,HB3.out⟩;unfold hit;rw[hp,HX.out]
   ·exact lf
  ·obtain rfl:k=len:=af
   have hp:pl Kd.n xs t=xs.length:=fG (fun j y hy=>HE.out j y kN hy);have hh:hit Kd.n xs t=false:=by unfold hit;rw[hp,s9 (sy _)]
   have HP:=aa hp;have HH:=aa hh;clear hp hh;go_wp2;exact bodyPost_ret (v:=.tuple #[.int .i64 k,.bool false]) (by simp[results,Tryz.results163,go_sem]) rfl ⟨by rw[HP.out,HH.out,hxl],HB.out⟩

def lD (xs:List Kd) (t:ByteArray) (_r w:World) (e:Ending) (w':World):Prop:=
 Below w.heap.size w w'/\((hit Kd.n xs t=true/\∃(x:Kd),xs[pl Kd.n xs t]?=some x/\x.n=t/\e=.returned (.tuple #[.agg #[.string x.n,.bool x.x,.bool x.y,.string x.z],.bool true])/\x.n.size<=9223372036854775807/\x.z.size<=9223372036854775807)\/(hit Kd.n xs t=false/\e=.returned (.tuple #[.agg #[.string ⟨#[]⟩,.bool false,.bool false,.string ⟨#[]⟩],.bool false])))

theorem ky (a:Option Addr) (len cap:Nat) (xs:List Kd) (t:ByteArray) (r w:World) (hr:aA r a len cap 4 (xs.map kdF)) (hrw:Below r.heap.size r w):
  Calls Tryz.prog 161 #[.slice a len cap,.string t] w (lD xs t r w):=by
 have HR:=aa hr;have HRW:=aa hrw;have hxl:xs.length=len:=de
 have HR1:=aa ((hr.below hrw).below (aj w (.cells #[.string ⟨#[]⟩,.bool false,.bool false,.string ⟨#[]⟩] 106)));clear hr hrw;go_enter Tryz.func161,Tryz.ntmps161;go_wp2_with fail;refine (je a len cap xs t _ HR1.out).mono ?_;rintro e w1 ⟨rfl,hb⟩;obtain⟨g1,hb1,-⟩:=bE hb;obtain⟨d0,f0,d1,f1,d2,f2,d3,f3⟩:=eV;have HB:=aa hb1;have hs1:=hb.size;rw[show (w.alloc (.cells #[.string ⟨#[]⟩,.bool false,.bool false,.string ⟨#[]⟩] 106)).heap.size=w.heap.size+1 from by simp] at hs1;have hlt1:w.heap.size<w1.heap.size:=af
 clear hb g1 HR1 hs1;cases hh:hit Kd.n xs t
 ·generalize pl Kd.n xs t=j;have HH:=aa hh;clear hh hb1 HR hxl;go_wp2;refine bodyPost_ret (v:=.tuple #[.agg #[.string ⟨#[]⟩,.bool false,.bool false,.string ⟨#[]⟩],.bool false]) (by simp[results,Tryz.results161,go_sem, *]) rfl ⟨?_,.inr ⟨HH.out,rfl⟩⟩;exact tN (ag (sy _) (ag (sy _) (ag (sy _) (ag (sy _) (HB.out))))) ft _
 ·obtain⟨x,hx,hn⟩:=er hh;have hj:pl Kd.n xs t<len:=by have:=(sv.1 hx).1;omega
  obtain⟨b,o,y,rfl,hbl,hy,hat⟩:=dH HR.out hj;rw[hx] at hy;obtain rfl:=sx hy;obtain⟨z0,z3,c0,c1,c2,c3⟩:=bl hat;obtain⟨hbw,e0,e1,e2,e3⟩:=oY;have HI:Hid (lD xs t r w (.returned (.tuple #[.agg #[.string x.n,.bool x.x,.bool x.y,.string x.z],.bool true])) w):=⟨sB _ _,.inl ⟨hh,x,hx,hn,rfl,z0,z3⟩⟩;clear c0 c1 c2 c3 hat hx hn hy hh z0 z3 HR HRW hb1;obtain⟨j,hjj⟩:∃j,pl Kd.n xs t=j:=⟨_,rfl⟩;rw[hjj] at hj;simp only[hjj] at*;clear hjj;go_wp2;refine bodyPost_ret (v:=.tuple #[.agg #[.string x.n,.bool x.x,.bool x.y,.string x.z],.bool true]) (by simp[results,Tryz.results161,go_sem, *]) rfl ⟨?_,HI.2⟩;exact ag (sy _) (ag (sy _) (ag (sy _) (ag (sy _) (HB.out))))

theorem lI (d:Ad) (now:Int) (xs:List Kd) (t:ByteArray) (r w:World) (hr:aA r d.a2 d.l2 d.c2 4 (xs.map kdF)) (hrw:Below r.heap.size r w):
  Calls Tryz.prog 157 #[.agg #[.slice d.a1 d.l1 d.c1,.slice d.a2 d.l2 d.c2,.slice d.a3 d.l3 d.c3,.slice d.a4 d.l4 d.c4,.slice d.a5 d.l5 d.c5,.int .i64 now],.string t] w (lD xs t r w):=by
 have HR:=aa hr;have HRW:=aa (hrw.trans ((aB w (.cells (clv d now) 36) (.cells #[.string ⟨#[]⟩,.bool false,.bool false,.string ⟨#[]⟩] 106)).mono hrw.size));clear hr hrw;go_enter Tryz.func157,Tryz.ntmps157;go_wp2_with fail;refine (ky _ _ _ xs t r _ HR.out HRW.out).mono ?_;rintro e w1 ⟨hb,hf⟩;have g1:=(hb.block (w.heap.size+1) aT).trans (bB _ _ _);obtain⟨d0,f0,d1,f1,d2,f2,d3,f3⟩:=eV;have HB:Hid (Below w.heap.size w w1):=(aB _ _ _).trans (hb.mono cC);clear g1 hb HR HRW;rcases hf with ⟨hh,x,hx,hn,rfl,z0,z3⟩|⟨hh,rfl⟩
 ·have HI:Hid (lD xs t r w (.returned (.tuple #[.agg #[.string x.n,.bool x.x,.bool x.y,.string x.z],.bool true])) w):=⟨sB _ _,.inl ⟨hh,x,hx,hn,rfl,z0,z3⟩⟩;clear hx hn hh z0 z3;go_wp2;refine bodyPost_ret (v:=.tuple #[.agg #[.string x.n,.bool x.x,.bool x.y,.string x.z],.bool true]) (by simp[results,Tryz.results157,go_sem, *]) rfl ⟨?_,HI.2⟩;exact nV
 ·have HH:=aa hh;clear hh;go_wp2;refine bodyPost_ret (v:=.tuple #[.agg #[.string ⟨#[]⟩,.bool false,.bool false,.string ⟨#[]⟩],.bool false]) (by simp[results,Tryz.results157,go_sem, *]) rfl ⟨?_,.inr ⟨HH.out,rfl⟩⟩;exact nV

theorem jK (a:Option Addr) (len cap:Nat) (xs:List Kd) (most:Int) (w:World) (hr:aA w a len cap 4 (xs.map kdF)):
  Calls Tryz.prog 141 #[.slice a len cap,.int .i64 most] w (al (cA j7 Kd.n xs most) w):=by
 obtain⟨HR,hxl,hlc⟩:=ea;clear hr;have hmcalled:∀(v:Value) (w:World),(method 343 106 v "loop.example/g00571/impl.called").run Tryz.prog w=.ok (195,v) w:=fun _ _=>by kernel_rfl
 have hmright:∀(v:Value) (w:World),(method 343 106 v "loop.example/g00571/impl.right").run Tryz.prog w=.ok (196,v) w:=fun _ _=>by kernel_rfl
 by_cases hmo:most<(len:Int)
 ·go_enter Tryz.func141,Tryz.ntmps141;exact iO
 go_enter Tryz.func141,Tryz.ntmps141;go_wp2;go_loopw [5,14] (fun q i wr=> ∃(k:Nat) (y:ByteArray),k<=len/\q=.string y/\i=.int .i64 k/\Hid (k=0->y=⟨#[]⟩)/\Hid (∀z,0<k->xs[k - 1]?=some z->z.n=y)/\Hid (∀(j:Nat) z,j<k->xs[j]?=some z->j7 z)/\Hid (∀(j:Nat) z u,j+1<k->xs[j+1]?=some z->xs[j]?=some u->sJ u.n.toList z.n.toList=true)/\Hid (Below w.heap.size w wr)) (fun _ i _=>len - (intOf i).toNat);case atStart=>exact⟨0,_,by omega,rfl,rfl,fun _=>rfl,fun _ h=>absurd h af,fun _ _ h=>absurd h af,fun _ _ _ h=>absurd h af,sB _ _⟩
 case round=>
  obtain⟨k,y,hk,rfl,rfl,H0,H1,HE,HO,HB⟩:=hrel;by_cases hlt:k<len
  ·obtain⟨b,o,x,rfl,hb,hx,hat⟩:=dH (HR.below HB.out) hlt;obtain⟨z0,z3,c0,c1,c2,c3⟩:=bl hat;have HX:=aa hx;have HC:=aa (fun v:World=>eC x v);have HB1:=aa (HB.alloc HB.size (.cells #[.string x.n,.bool x.x,.bool x.y,.string x.z] 106));have HRt:=aa (iv x (wr.alloc (.cells #[.string x.n,.bool x.x,.bool x.y,.string x.z] 106)) z0 z3);clear hat hx z0 z3;go_wp2_with fail;refine HRt.mono ?_;rintro e w1 ⟨r,rfl,hrt,hb1⟩;obtain⟨g1,-,-⟩:=bE hb1;have hs1:=hb1.size;rw[show (wr.alloc (.cells #[.string x.n,.bool x.x,.bool x.y,.string x.z] 106)).heap.size=wr.heap.size+1 from by simp] at hs1;obtain⟨HB2,d0,d1,d2,d3⟩:=d_;have HG:=aa g1;have HI:=aa hrt;clear g1 hb1 HB1 HRt hrt c0 c1 c2 c3;cases r
   ·exact iR
   have HOK:=aa (HI.1 rfl);clear HI;go_wp2_with fail;refine (HC.out _).mono ?_;rintro e w2 ⟨rfl,hb2⟩;obtain⟨HB3,g2,hs2,htri⟩:=iK;clear HG hb2 HB2 d0 d1 d2 d3;have d0:=ck0 g2;have d1:=ck1 g2;have d2:=ck2 g2;have d3:=ck3 g2;clear g2;cases hless:sJ y.toList x.n.toList
   ·exact nb
   ·rw[hless] at htri;go_wp2_with fail;refine (HC.out _).mono ?_;rintro e w3 ⟨rfl,hb3⟩;have HB4:=aa (HB3.trans (hb3.mono (sC HB.size af)));clear hb3 d0 d1 d2 d3;exact nq
  ·exact ja

def sk (xs:List Kd) (t:ByteArray) (w:World) (e:Ending) (w':World):Prop:=
 Below w.heap.size w w'/\((∃(j:Nat) (x:Kd),xs[j]?=some x/\x.n=t/\e=.returned (.int .i64 j))\/((∀(j:Nat) x,xs[j]?=some x->¬x.n=t)/\e=.returned (.int .i64 (-1))))

theorem ib (d:Ad) (now:Int) (xs:List Kd) (t:ByteArray) (w:World) (hr:aA w d.a2 d.l2 d.c2 4 (xs.map kdF)):
  Calls Tryz.prog 121 #[.agg #[.slice d.a1 d.l1 d.c1,.slice d.a2 d.l2 d.c2,.slice d.a3 d.l3 d.c3,.slice d.a4 d.l4 d.c4,.slice d.a5 d.l5 d.c5,.int .i64 now],.string t] w (sk xs t w):=by
 have HR:=aa hr;have hxl:xs.length=d.l2:=de
 have hlc:=sC hr.2.1 hr.2.2.1;clear hr;go_enter Tryz.func121,Tryz.ntmps121;go_wp2;go_loopw [5] (fun i wr=> ∃k:Nat,k<=d.l2/\i=.int .i64 k/\wr=w.alloc (.cells #[.slice d.a1 d.l1 d.c1,.slice d.a2 d.l2 d.c2,.slice d.a3 d.l3 d.c3,.slice d.a4 d.l4 d.c4,.slice d.a5 d.l5 d.c5,.int .i64 now] 36)/\Hid (∀(j:Nat) z,j<k->xs[j]?=some z->¬z.n=t)) (fun i _=>d.l2 - (intOf i).toNat);case atStart=>exact⟨0,by omega,rfl,rfl,fun _ _ h=>absurd h af⟩
 case round=>
  obtain⟨k,hk,rfl,rfl,HE⟩:=hrel;by_cases hlt:k<d.l2
  ·obtain⟨b,o,x,ha,hb,hx,hat⟩:=dH HR.out hlt;obtain⟨-,-,c0,-,-,-⟩:=bl hat;have HX:=aa hx;clear hat hx;exact lg
  ·obtain rfl:k=d.l2:=af
   exact k9

theorem eB (x:Vd) (va:Option Addr) (vl vc:Nat) (w:World):
  Calls Tryz.prog 186 #[.agg #[.string x.n,.int .i64 x.c,.string x.z,.string x.k,.bool x.x,.string x.m,.bool x.y,.slice va vl vc]] w fun e w'=>e=.returned (.string x.n)/\Below w.heap.size w w':=by
 go_enter Tryz.func186,Tryz.ntmps186;go_wp2;go_ret;exact⟨rfl,aj _ _⟩

theorem iq (x:Vd) (va:Option Addr) (vl vc:Nat) (w:World) (hn:x.n.size<=9223372036854775807) (hz:x.z.size<=9223372036854775807) (hk:x.k.size<=9223372036854775807) (hm:x.m.size<=9223372036854775807) (hr:ar w va vl vc x.zs):
  Calls Tryz.prog 187 #[.agg #[.string x.n,.int .i64 x.c,.string x.z,.string x.k,.bool x.x,.string x.m,.bool x.y,.slice va vl vc]] w (al (jy x) w):=by
 have HR:=aa (hr.below (aj w (.cells (vov x va vl vc) 101)));clear hr;go_enter Tryz.func187,Tryz.ntmps187;go_wp2_with fail;refine (oq x.n x.c x.z x.k x.x x.m x.y va vl vc x.zs _ hn hz hk hm HR.out).mono ?_;exact iV

theorem jd (a:Option Addr) (len cap:Nat) (xs:List Vd) (t:ByteArray) (w:World) (hr:aA w a len cap 8 (xs.map vdF)):
  Calls Tryz.prog 160 #[.slice a len cap,.string t] w fun e w'=>e=.returned (.tuple #[.int .i64 (pl Vd.n xs t:Nat),.bool (hit Vd.n xs t)])/\Below w.heap.size w w':=by
 obtain⟨HR,hxl,hlc⟩:=ea;clear hr;have hmcalled:∀(v:Value) (w:World),(method 343 101 v "loop.example/g00571/impl.called").run Tryz.prog w=.ok (186,v) w:=fun _ _=>by kernel_rfl
 go_enter Tryz.func160,Tryz.ntmps160;go_wp2;go_loopw [10] (fun i wr=> ∃k:Nat,k<=len/\i=.int .i64 k/\Hid (∀(j:Nat) y,j<k->xs[j]?=some y->sJ y.n.toList t.toList=true)/\Hid (Below w.heap.size w wr)) (fun i _=>len - (intOf i).toNat);case atStart=>exact⟨0,by omega,rfl,fun j y hj=>by omega,sB _ _⟩
 case round=>
  obtain⟨k,hk,rfl,HE,HB⟩:=hrel;by_cases hlt:k<len
  ·obtain⟨b,o,x,rfl,hb,hx,hat⟩:=bk (HR.below HB.out) hlt;obtain⟨va,vl,vc,hvr,z0,z2,z3,z5,c0,c1,c2,c3,c4,c5,c6,c7⟩:=aE hat;have HX:=aa hx;clear hat hx z0 z2 z3 z5 hvr;have HC:=aa (fun v:World=>eB x va vl vc v);have HB1:=aa (HB.alloc HB.size (.cells (vov x va vl vc) 101));go_wp2_with fail;refine (HC.out _).mono ?_;rintro e w1 ⟨rfl,hb1⟩;obtain⟨g1,-,-⟩:=bE hb1;have hs1:=hb1.size;rw[show (wr.alloc (.cells (vov x va vl vc) 101)).heap.size=wr.heap.size+1 from by simp] at hs1;obtain⟨HB2,d0,d1,d2,d3⟩:=d_;have d4:=ck4 g1;have d5:=ck5 g1;have d6:=ck6 g1;have d7:=ck7 g1;clear g1 hb1 c0 c1 c2 c3 c4 c5 c6 c7 HB1;cases hless:sJ x.n.toList t.toList
   ·go_wp2_with fail;refine (HC.out _).mono ?_;rintro e w2 ⟨rfl,hb2⟩;obtain⟨HB3,hp⟩:=kT;clear hb2;go_wp2_with fail;refine bodyPost_ret (v:=.tuple #[.int .i64 k,.bool (x.n.toList==t.toList)]) (by simp[results,Tryz.results160,go_sem]) rfl ⟨?_,HB3.out⟩;unfold hit;rw[hp,HX.out]
   ·exact lf
  ·obtain rfl:k=len:=af
   have hp:pl Vd.n xs t=xs.length:=fG (fun j y hy=>HE.out j y kN hy);have hh:hit Vd.n xs t=false:=by unfold hit;rw[hp,s9 (sy _)]
   have HP:=aa hp;have HH:=aa hh;clear hp hh;go_wp2;exact bodyPost_ret (v:=.tuple #[.int .i64 k,.bool false]) (by simp[results,Tryz.results160,go_sem]) rfl ⟨by rw[HP.out,HH.out,hxl],HB.out⟩

def lB (xs:List Vd) (t:ByteArray) (r w:World) (e:Ending) (w':World):Prop:=
 Below w.heap.size w w'/\((hit Vd.n xs t=true/\∃(x:Vd) (va:Option Addr) (vl vc:Nat),xs[pl Vd.n xs t]?=some x/\x.n=t/\e=.returned (.tuple #[.agg #[.string x.n,.int .i64 x.c,.string x.z,.string x.k,.bool x.x,.string x.m,.bool x.y,.slice va vl vc],.bool true])/\x.n.size<=9223372036854775807/\x.z.size<=9223372036854775807/\x.k.size<=9223372036854775807/\x.m.size<=9223372036854775807/\ar r va vl vc x.zs)\/(hit Vd.n xs t=false/\e=.returned (.tuple #[.agg #[.string ⟨#[]⟩,.int .i64 0,.string ⟨#[]⟩,.string ⟨#[]⟩,.bool false,.string ⟨#[]⟩,.bool false,.slice none 0 0],.bool false])))

theorem kv (a:Option Addr) (len cap:Nat) (xs:List Vd) (t:ByteArray) (r w:World) (hr:aA r a len cap 8 (xs.map vdF)) (hrw:Below r.heap.size r w):
  Calls Tryz.prog 155 #[.slice a len cap,.string t] w (lB xs t r w):=by
 have HR:=aa hr;have HRW:=aa hrw;have hxl:xs.length=len:=de
 have HR1:=aa ((hr.below hrw).below (aj w (.cells #[.string ⟨#[]⟩,.int .i64 0,.string ⟨#[]⟩,.string ⟨#[]⟩,.bool false,.string ⟨#[]⟩,.bool false,.slice none 0 0] 101)));clear hr hrw;go_enter Tryz.func155,Tryz.ntmps155;go_wp2_with fail;refine (jd a len cap xs t _ HR1.out).mono ?_;rintro e w1 ⟨rfl,hb⟩;obtain⟨g1,hb1,-⟩:=bE hb;obtain⟨d0,f0,d1,f1,d2,f2,d3,f3⟩:=eV;obtain⟨d4,f4,d5,f5,d6,f6⟩:=kR;have d7:=ck7 g1;have f7:=aq g1 7;have HB:=aa hb1;have hs1:=hb.size;rw[show (w.alloc (.cells #[.string ⟨#[]⟩,.int .i64 0,.string ⟨#[]⟩,.string ⟨#[]⟩,.bool false,.string ⟨#[]⟩,.bool false,.slice none 0 0] 101)).heap.size=w.heap.size+1 from by simp] at hs1;have hlt1:w.heap.size<w1.heap.size:=af
 clear hb g1 HR1 hs1;cases hh:hit Vd.n xs t
 ·generalize pl Vd.n xs t=j;have HH:=aa hh;clear hh hb1 HR hxl;go_wp2;refine bodyPost_ret (v:=.tuple #[.agg #[.string ⟨#[]⟩,.int .i64 0,.string ⟨#[]⟩,.string ⟨#[]⟩,.bool false,.string ⟨#[]⟩,.bool false,.slice none 0 0],.bool false]) (by simp[results,Tryz.results155,go_sem, *]) rfl ⟨?_,.inr ⟨HH.out,rfl⟩⟩;exact tN (ag (sy _) (ag (sy _) (ag (sy _) (ag (sy _) (ag (sy _) (ag (sy _) (ag (sy _) (ag (sy _) (HB.out))))))))) ft _
 ·obtain⟨x,hx,hn⟩:=er hh;have hj:pl Vd.n xs t<len:=by have:=(sv.1 hx).1;omega
  obtain⟨b,o,y,rfl,hbl,hy,hat⟩:=bk HR.out hj;rw[hx] at hy;obtain rfl:=sx hy;obtain⟨va,vl,vc,hvr,z0,z2,z3,z5,c0,c1,c2,c3,c4,c5,c6,c7⟩:=aE hat;obtain⟨hbw,e0,e1,e2,e3⟩:=oY;obtain⟨e4,e5,e6⟩:=pD;have e7:=(ai hb1 hbw).trans ((ai HRW.out hbl).trans c7);have HI:Hid (lB xs t r w (.returned (.tuple #[.agg #[.string x.n,.int .i64 x.c,.string x.z,.string x.k,.bool x.x,.string x.m,.bool x.y,.slice va vl vc],.bool true])) w):=⟨sB _ _,.inl ⟨hh,x,va,vl,vc,hx,hn,rfl,z0,z2,z3,z5,hvr⟩⟩;clear c0 c1 c2 c3 c4 c5 c6 c7 hat hx hn hy hh z0 z2 z3 z5 hvr HR HRW hb1;obtain⟨j,hjj⟩:∃j,pl Vd.n xs t=j:=⟨_,rfl⟩;rw[hjj] at hj;simp only[hjj] at*;clear hjj;go_wp2;refine bodyPost_ret (v:=.tuple #[.agg #[.string x.n,.int .i64 x.c,.string x.z,.string x.k,.bool x.x,.string x.m,.bool x.y,.slice va vl vc],.bool true]) (by simp[results,Tryz.results155,go_sem, *]) rfl ⟨?_,HI.2⟩;exact ag (sy _) (ag (sy _) (ag (sy _) (ag (sy _) (ag (sy _) (ag (sy _) (ag (sy _) (ag (sy _) (HB.out))))))))

theorem cN (d:Ad) (now:Int) (xs:List Vd) (t:ByteArray) (r w:World) (hr:aA r d.a3 d.l3 d.c3 8 (xs.map vdF)) (hrw:Below r.heap.size r w):
  Calls Tryz.prog 133 #[.agg #[.slice d.a1 d.l1 d.c1,.slice d.a2 d.l2 d.c2,.slice d.a3 d.l3 d.c3,.slice d.a4 d.l4 d.c4,.slice d.a5 d.l5 d.c5,.int .i64 now],.string t] w (lB xs t r w):=by
 have HR:=aa hr;have HRW:=aa (hrw.trans ((aB w (.cells (clv d now) 36) (.cells #[.string ⟨#[]⟩,.int .i64 0,.string ⟨#[]⟩,.string ⟨#[]⟩,.bool false,.string ⟨#[]⟩,.bool false,.slice none 0 0] 101)).mono hrw.size));clear hr hrw;go_enter Tryz.func133,Tryz.ntmps133;go_wp2_with fail;refine (kv _ _ _ xs t r _ HR.out HRW.out).mono ?_;rintro e w1 ⟨hb,hf⟩;have g1:=(hb.block (w.heap.size+1) aT).trans (bB _ _ _);obtain⟨d0,f0,d1,f1,d2,f2,d3,f3⟩:=eV;obtain⟨d4,f4,d5,f5,d6,f6⟩:=kR;have d7:=ck7 g1;have f7:=aq g1 7;have HB:Hid (Below w.heap.size w w1):=(aB _ _ _).trans (hb.mono cC);clear g1 hb HR HRW;rcases hf with ⟨hh,x,va,vl,vc,hx,hn,rfl,z0,z2,z3,z5,hvr⟩|⟨hh,rfl⟩
 ·have HI:Hid (lB xs t r w (.returned (.tuple #[.agg #[.string x.n,.int .i64 x.c,.string x.z,.string x.k,.bool x.x,.string x.m,.bool x.y,.slice va vl vc],.bool true])) w):=⟨sB _ _,.inl ⟨hh,x,va,vl,vc,hx,hn,rfl,z0,z2,z3,z5,hvr⟩⟩;clear hx hn hh z0 z2 z3 z5 hvr;go_wp2;refine bodyPost_ret (v:=.tuple #[.agg #[.string x.n,.int .i64 x.c,.string x.z,.string x.k,.bool x.x,.string x.m,.bool x.y,.slice va vl vc],.bool true]) (by simp[results,Tryz.results133,go_sem, *]) rfl ⟨?_,HI.2⟩;exact qk
 ·have HH:=aa hh;clear hh;go_wp2;refine bodyPost_ret (v:=.tuple #[.agg #[.string ⟨#[]⟩,.int .i64 0,.string ⟨#[]⟩,.string ⟨#[]⟩,.bool false,.string ⟨#[]⟩,.bool false,.slice none 0 0],.bool false]) (by simp[results,Tryz.results133,go_sem, *]) rfl ⟨?_,.inr ⟨HH.out,rfl⟩⟩;exact qk

theorem jH (a:Option Addr) (len cap:Nat) (xs:List Vd) (most:Int) (w:World) (hr:aA w a len cap 8 (xs.map vdF)):
  Calls Tryz.prog 142 #[.slice a len cap,.int .i64 most] w (al (cA jy Vd.n xs most) w):=by
 obtain⟨HR,hxl,hlc⟩:=ea;clear hr;have hmcalled:∀(v:Value) (w:World),(method 343 101 v "loop.example/g00571/impl.called").run Tryz.prog w=.ok (186,v) w:=fun _ _=>by kernel_rfl
 have hmright:∀(v:Value) (w:World),(method 343 101 v "loop.example/g00571/impl.right").run Tryz.prog w=.ok (187,v) w:=fun _ _=>by kernel_rfl
 by_cases hmo:most<(len:Int)
 ·go_enter Tryz.func142,Tryz.ntmps142;exact iO
 go_enter Tryz.func142,Tryz.ntmps142;go_wp2;go_loopw [5,14] (fun q i wr=> ∃(k:Nat) (y:ByteArray),k<=len/\q=.string y/\i=.int .i64 k/\Hid (k=0->y=⟨#[]⟩)/\Hid (∀z,0<k->xs[k - 1]?=some z->z.n=y)/\Hid (∀(j:Nat) z,j<k->xs[j]?=some z->jy z)/\Hid (∀(j:Nat) z u,j+1<k->xs[j+1]?=some z->xs[j]?=some u->sJ u.n.toList z.n.toList=true)/\Hid (Below w.heap.size w wr)) (fun _ i _=>len - (intOf i).toNat);case atStart=>exact⟨0,_,by omega,rfl,rfl,fun _=>rfl,fun _ h=>absurd h af,fun _ _ h=>absurd h af,fun _ _ _ h=>absurd h af,sB _ _⟩
 case round=>
  obtain⟨k,y,hk,rfl,rfl,H0,H1,HE,HO,HB⟩:=hrel;by_cases hlt:k<len
  ·obtain⟨b,o,x,rfl,hb,hx,hat⟩:=bk (HR.below HB.out) hlt;obtain⟨va,vl,vc,hvr,z0,z2,z3,z5,c0,c1,c2,c3,c4,c5,c6,c7⟩:=aE hat;have HX:=aa hx;have HC:=aa (fun v:World=>eB x va vl vc v);have HB1:=aa (HB.alloc HB.size (.cells (vov x va vl vc) 101));have HRt:=aa (iq x va vl vc (wr.alloc (.cells (vov x va vl vc) 101)) z0 z2 z3 z5 (hvr.below (aj _ _)));clear hat hx z0 z2 z3 z5 hvr;go_wp2_with fail;refine HRt.mono ?_;rintro e w1 ⟨r,rfl,hrt,hb1⟩;obtain⟨g1,-,-⟩:=bE hb1;have hs1:=hb1.size;rw[show (wr.alloc (.cells (vov x va vl vc) 101)).heap.size=wr.heap.size+1 from by simp] at hs1;obtain⟨HB2,d0,d1,d2,d3⟩:=d_;have d4:=ck4 g1;have d5:=ck5 g1;have d6:=ck6 g1;have d7:=ck7 g1;have HG:=aa g1;have HI:=aa hrt;clear g1 hb1 HB1 HRt hrt c0 c1 c2 c3 c4 c5 c6 c7;cases r
   ·exact iR
   have HOK:=aa (HI.1 rfl);clear HI;go_wp2_with fail;refine (HC.out _).mono ?_;rintro e w2 ⟨rfl,hb2⟩;obtain⟨HB3,g2,hs2,htri⟩:=iK;clear HG hb2 HB2 d0 d1 d2 d3 d4 d5 d6 d7;have d0:=ck0 g2;have d1:=ck1 g2;have d2:=ck2 g2;have d3:=ck3 g2;have d4:=ck4 g2;have d5:=ck5 g2;have d6:=ck6 g2;have d7:=ck7 g2;clear g2;cases hless:sJ y.toList x.n.toList
   ·exact nb
   ·rw[hless] at htri;go_wp2_with fail;refine (HC.out _).mono ?_;rintro e w3 ⟨rfl,hb3⟩;have HB4:=aa (HB3.trans (hb3.mono (sC HB.size af)));clear hb3 d0 d1 d2 d3 d4 d5 d6 d7;exact nq
  ·exact ja

def si (xs:List Vd) (t:ByteArray) (w:World) (e:Ending) (w':World):Prop:=
 Below w.heap.size w w'/\((∃(j:Nat) (x:Vd),xs[j]?=some x/\x.n=t/\e=.returned (.int .i64 j))\/((∀(j:Nat) x,xs[j]?=some x->¬x.n=t)/\e=.returned (.int .i64 (-1))))

theorem fo (d:Ad) (now:Int) (xs:List Vd) (t:ByteArray) (w:World) (hr:aA w d.a3 d.l3 d.c3 8 (xs.map vdF)):
  Calls Tryz.prog 106 #[.agg #[.slice d.a1 d.l1 d.c1,.slice d.a2 d.l2 d.c2,.slice d.a3 d.l3 d.c3,.slice d.a4 d.l4 d.c4,.slice d.a5 d.l5 d.c5,.int .i64 now],.string t] w (si xs t w):=by
 have HR:=aa hr;have hxl:xs.length=d.l3:=de
 have hlc:=sC hr.2.1 hr.2.2.1;clear hr;go_enter Tryz.func106,Tryz.ntmps106;go_wp2;go_loopw [5] (fun i wr=> ∃k:Nat,k<=d.l3/\i=.int .i64 k/\wr=w.alloc (.cells #[.slice d.a1 d.l1 d.c1,.slice d.a2 d.l2 d.c2,.slice d.a3 d.l3 d.c3,.slice d.a4 d.l4 d.c4,.slice d.a5 d.l5 d.c5,.int .i64 now] 36)/\Hid (∀(j:Nat) z,j<k->xs[j]?=some z->¬z.n=t)) (fun i _=>d.l3 - (intOf i).toNat);case atStart=>exact⟨0,by omega,rfl,rfl,fun _ _ h=>absurd h af⟩
 case round=>
  obtain⟨k,hk,rfl,rfl,HE⟩:=hrel;by_cases hlt:k<d.l3
  ·obtain⟨b,o,x,ha,hb,hx,hat⟩:=bk HR.out hlt;obtain⟨va,vl,vc,hvr,-,-,-,-,c0,-,-,-,-,-,-,-⟩:=aE hat;have HX:=aa hx;clear hat hx hvr;exact lg
  ·obtain rfl:k=d.l3:=af
   exact k9

theorem eA (x:Xd)  (w:World):
  Calls Tryz.prog 198 #[.agg #[.string x.n,.int .i64 x.z,.string x.k,.bool x.x,.string x.v]] w fun e w'=>e=.returned (.string x.n)/\Below w.heap.size w w':=by
 go_enter Tryz.func198,Tryz.ntmps198;go_wp2;go_ret;exact⟨rfl,aj _ _⟩

theorem im (x:Xd)  (w:World) (hn:x.n.size<=9223372036854775807) (hk:x.k.size<=9223372036854775807) (hv:x.v.size<=9223372036854775807):
  Calls Tryz.prog 199 #[.agg #[.string x.n,.int .i64 x.z,.string x.k,.bool x.x,.string x.v]] w (al (ju x) w):=by
 skip;skip;go_enter Tryz.func199,Tryz.ntmps199;go_wp2_with fail;refine (ki x.n x.z x.k x.x x.v _ hn hk hv).mono ?_;exact iV

theorem jc (a:Option Addr) (len cap:Nat) (xs:List Xd) (t:ByteArray) (w:World) (hr:aA w a len cap 5 (xs.map xdF)):
  Calls Tryz.prog 159 #[.slice a len cap,.string t] w fun e w'=>e=.returned (.tuple #[.int .i64 (pl Xd.n xs t:Nat),.bool (hit Xd.n xs t)])/\Below w.heap.size w w':=by
 obtain⟨HR,hxl,hlc⟩:=ea;clear hr;have hmcalled:∀(v:Value) (w:World),(method 343 109 v "loop.example/g00571/impl.called").run Tryz.prog w=.ok (198,v) w:=fun _ _=>by kernel_rfl
 go_enter Tryz.func159,Tryz.ntmps159;go_wp2;go_loopw [10] (fun i wr=> ∃k:Nat,k<=len/\i=.int .i64 k/\Hid (∀(j:Nat) y,j<k->xs[j]?=some y->sJ y.n.toList t.toList=true)/\Hid (Below w.heap.size w wr)) (fun i _=>len - (intOf i).toNat);case atStart=>exact⟨0,by omega,rfl,fun j y hj=>by omega,sB _ _⟩
 case round=>
  obtain⟨k,hk,rfl,HE,HB⟩:=hrel;by_cases hlt:k<len
  ·obtain⟨b,o,x,rfl,hb,hx,hat⟩:=cD (HR.below HB.out) hlt;obtain⟨z0,z2,z4,c0,c1,c2,c3,c4⟩:=aU hat;have HX:=aa hx;clear hat hx z0 z2 z4;have HC:=aa (fun v:World=>eA x v);have HB1:=aa (HB.alloc HB.size (.cells (xov x) 109));go_wp2_with fail;refine (HC.out _).mono ?_;rintro e w1 ⟨rfl,hb1⟩;obtain⟨g1,-,-⟩:=bE hb1;have hs1:=hb1.size;rw[show (wr.alloc (.cells (xov x) 109)).heap.size=wr.heap.size+1 from by simp] at hs1;obtain⟨HB2,d0,d1,d2,d3⟩:=d_;have d4:=ck4 g1;clear g1 hb1 c0 c1 c2 c3 c4 HB1;cases hless:sJ x.n.toList t.toList
   ·go_wp2_with fail;refine (HC.out _).mono ?_;rintro e w2 ⟨rfl,hb2⟩;obtain⟨HB3,hp⟩:=kT;clear hb2;go_wp2_with fail;refine bodyPost_ret (v:=.tuple #[.int .i64 k,.bool (x.n.toList==t.toList)]) (by simp[results,Tryz.results159,go_sem]) rfl ⟨?_,HB3.out⟩;unfold hit;rw[hp,HX.out]
   ·exact lf
  ·obtain rfl:k=len:=af
   have hp:pl Xd.n xs t=xs.length:=fG (fun j y hy=>HE.out j y kN hy);have hh:hit Xd.n xs t=false:=by unfold hit;rw[hp,s9 (sy _)]
   have HP:=aa hp;have HH:=aa hh;clear hp hh;go_wp2;exact bodyPost_ret (v:=.tuple #[.int .i64 k,.bool false]) (by simp[results,Tryz.results159,go_sem]) rfl ⟨by rw[HP.out,HH.out,hxl],HB.out⟩

def lA (xs:List Xd) (t:ByteArray) (_r w:World) (e:Ending) (w':World):Prop:=
 Below w.heap.size w w'/\((hit Xd.n xs t=true/\∃(x:Xd),xs[pl Xd.n xs t]?=some x/\x.n=t/\e=.returned (.tuple #[.agg #[.string x.n,.int .i64 x.z,.string x.k,.bool x.x,.string x.v],.bool true])/\x.n.size<=9223372036854775807/\x.k.size<=9223372036854775807/\x.v.size<=9223372036854775807)\/(hit Xd.n xs t=false/\e=.returned (.tuple #[.agg #[.string ⟨#[]⟩,.int .i64 0,.string ⟨#[]⟩,.bool false,.string ⟨#[]⟩],.bool false])))

theorem ku (a:Option Addr) (len cap:Nat) (xs:List Xd) (t:ByteArray) (r w:World) (hr:aA r a len cap 5 (xs.map xdF)) (hrw:Below r.heap.size r w):
  Calls Tryz.prog 154 #[.slice a len cap,.string t] w (lA xs t r w):=by
 have HR:=aa hr;have HRW:=aa hrw;have hxl:xs.length=len:=de
 have HR1:=aa ((hr.below hrw).below (aj w (.cells #[.string ⟨#[]⟩,.int .i64 0,.string ⟨#[]⟩,.bool false,.string ⟨#[]⟩] 109)));clear hr hrw;go_enter Tryz.func154,Tryz.ntmps154;go_wp2_with fail;refine (jc a len cap xs t _ HR1.out).mono ?_;rintro e w1 ⟨rfl,hb⟩;obtain⟨g1,hb1,-⟩:=bE hb;obtain⟨d0,f0,d1,f1,d2,f2,d3,f3⟩:=eV;have d4:=ck4 g1;have f4:=aq g1 4;have HB:=aa hb1;have hs1:=hb.size;rw[show (w.alloc (.cells #[.string ⟨#[]⟩,.int .i64 0,.string ⟨#[]⟩,.bool false,.string ⟨#[]⟩] 109)).heap.size=w.heap.size+1 from by simp] at hs1;have hlt1:w.heap.size<w1.heap.size:=af
 clear hb g1 HR1 hs1;cases hh:hit Xd.n xs t
 ·generalize pl Xd.n xs t=j;have HH:=aa hh;clear hh hb1 HR hxl;go_wp2;refine bodyPost_ret (v:=.tuple #[.agg #[.string ⟨#[]⟩,.int .i64 0,.string ⟨#[]⟩,.bool false,.string ⟨#[]⟩],.bool false]) (by simp[results,Tryz.results154,go_sem, *]) rfl ⟨?_,.inr ⟨HH.out,rfl⟩⟩;exact tN (ag (sy _) (ag (sy _) (ag (sy _) (ag (sy _) (ag (sy _) (HB.out)))))) ft _
 ·obtain⟨x,hx,hn⟩:=er hh;have hj:pl Xd.n xs t<len:=by have:=(sv.1 hx).1;omega
  obtain⟨b,o,y,rfl,hbl,hy,hat⟩:=cD HR.out hj;rw[hx] at hy;obtain rfl:=sx hy;obtain⟨z0,z2,z4,c0,c1,c2,c3,c4⟩:=aU hat;obtain⟨hbw,e0,e1,e2,e3⟩:=oY;have e4:=(ai hb1 hbw).trans ((ai HRW.out hbl).trans c4);have HI:Hid (lA xs t r w (.returned (.tuple #[.agg #[.string x.n,.int .i64 x.z,.string x.k,.bool x.x,.string x.v],.bool true])) w):=⟨sB _ _,.inl ⟨hh,x,hx,hn,rfl,z0,z2,z4⟩⟩;clear c0 c1 c2 c3 c4 hat hx hn hy hh z0 z2 z4 HR HRW hb1;obtain⟨j,hjj⟩:∃j,pl Xd.n xs t=j:=⟨_,rfl⟩;rw[hjj] at hj;simp only[hjj] at*;clear hjj;go_wp2;refine bodyPost_ret (v:=.tuple #[.agg #[.string x.n,.int .i64 x.z,.string x.k,.bool x.x,.string x.v],.bool true]) (by simp[results,Tryz.results154,go_sem, *]) rfl ⟨?_,HI.2⟩;exact ag (sy _) (ag (sy _) (ag (sy _) (ag (sy _) (ag (sy _) (HB.out)))))

theorem eD (d:Ad) (now:Int) (xs:List Xd) (t:ByteArray) (r w:World) (hr:aA r d.a4 d.l4 d.c4 5 (xs.map xdF)) (hrw:Below r.heap.size r w):
  Calls Tryz.prog 132 #[.agg #[.slice d.a1 d.l1 d.c1,.slice d.a2 d.l2 d.c2,.slice d.a3 d.l3 d.c3,.slice d.a4 d.l4 d.c4,.slice d.a5 d.l5 d.c5,.int .i64 now],.string t] w (lA xs t r w):=by
 have HR:=aa hr;have HRW:=aa (hrw.trans ((aB w (.cells (clv d now) 36) (.cells #[.string ⟨#[]⟩,.int .i64 0,.string ⟨#[]⟩,.bool false,.string ⟨#[]⟩] 109)).mono hrw.size));clear hr hrw;go_enter Tryz.func132,Tryz.ntmps132;go_wp2_with fail;refine (ku _ _ _ xs t r _ HR.out HRW.out).mono ?_;rintro e w1 ⟨hb,hf⟩;have g1:=(hb.block (w.heap.size+1) aT).trans (bB _ _ _);obtain⟨d0,f0,d1,f1,d2,f2,d3,f3⟩:=eV;have d4:=ck4 g1;have f4:=aq g1 4;have HB:Hid (Below w.heap.size w w1):=(aB _ _ _).trans (hb.mono cC);clear g1 hb HR HRW;rcases hf with ⟨hh,x,hx,hn,rfl,z0,z2,z4⟩|⟨hh,rfl⟩
 ·have HI:Hid (lA xs t r w (.returned (.tuple #[.agg #[.string x.n,.int .i64 x.z,.string x.k,.bool x.x,.string x.v],.bool true])) w):=⟨sB _ _,.inl ⟨hh,x,hx,hn,rfl,z0,z2,z4⟩⟩;clear hx hn hh z0 z2 z4;go_wp2;refine bodyPost_ret (v:=.tuple #[.agg #[.string x.n,.int .i64 x.z,.string x.k,.bool x.x,.string x.v],.bool true]) (by simp[results,Tryz.results132,go_sem, *]) rfl ⟨?_,HI.2⟩;exact pY
 ·have HH:=aa hh;clear hh;go_wp2;refine bodyPost_ret (v:=.tuple #[.agg #[.string ⟨#[]⟩,.int .i64 0,.string ⟨#[]⟩,.bool false,.string ⟨#[]⟩],.bool false]) (by simp[results,Tryz.results132,go_sem, *]) rfl ⟨?_,.inr ⟨HH.out,rfl⟩⟩;exact pY

theorem jG (a:Option Addr) (len cap:Nat) (xs:List Xd) (most:Int) (w:World) (hr:aA w a len cap 5 (xs.map xdF)):
  Calls Tryz.prog 143 #[.slice a len cap,.int .i64 most] w (al (cA ju Xd.n xs most) w):=by
 obtain⟨HR,hxl,hlc⟩:=ea;clear hr;have hmcalled:∀(v:Value) (w:World),(method 343 109 v "loop.example/g00571/impl.called").run Tryz.prog w=.ok (198,v) w:=fun _ _=>by kernel_rfl
 have hmright:∀(v:Value) (w:World),(method 343 109 v "loop.example/g00571/impl.right").run Tryz.prog w=.ok (199,v) w:=fun _ _=>by kernel_rfl
 by_cases hmo:most<(len:Int)
 ·go_enter Tryz.func143,Tryz.ntmps143;exact iO
 go_enter Tryz.func143,Tryz.ntmps143;go_wp2;go_loopw [5,14] (fun q i wr=> ∃(k:Nat) (y:ByteArray),k<=len/\q=.string y/\i=.int .i64 k/\Hid (k=0->y=⟨#[]⟩)/\Hid (∀z,0<k->xs[k - 1]?=some z->z.n=y)/\Hid (∀(j:Nat) z,j<k->xs[j]?=some z->ju z)/\Hid (∀(j:Nat) z u,j+1<k->xs[j+1]?=some z->xs[j]?=some u->sJ u.n.toList z.n.toList=true)/\Hid (Below w.heap.size w wr)) (fun _ i _=>len - (intOf i).toNat);case atStart=>exact⟨0,_,by omega,rfl,rfl,fun _=>rfl,fun _ h=>absurd h af,fun _ _ h=>absurd h af,fun _ _ _ h=>absurd h af,sB _ _⟩
 case round=>
  obtain⟨k,y,hk,rfl,rfl,H0,H1,HE,HO,HB⟩:=hrel;by_cases hlt:k<len
  ·obtain⟨b,o,x,rfl,hb,hx,hat⟩:=cD (HR.below HB.out) hlt;obtain⟨z0,z2,z4,c0,c1,c2,c3,c4⟩:=aU hat;have HX:=aa hx;have HC:=aa (fun v:World=>eA x v);have HB1:=aa (HB.alloc HB.size (.cells (xov x) 109));have HRt:=aa (im x (wr.alloc (.cells (xov x) 109)) z0 z2 z4);clear hat hx z0 z2 z4;go_wp2_with fail;refine HRt.mono ?_;rintro e w1 ⟨r,rfl,hrt,hb1⟩;obtain⟨g1,-,-⟩:=bE hb1;have hs1:=hb1.size;rw[show (wr.alloc (.cells (xov x) 109)).heap.size=wr.heap.size+1 from by simp] at hs1;obtain⟨HB2,d0,d1,d2,d3⟩:=d_;have d4:=ck4 g1;have HG:=aa g1;have HI:=aa hrt;clear g1 hb1 HB1 HRt hrt c0 c1 c2 c3 c4;cases r
   ·exact iR
   have HOK:=aa (HI.1 rfl);clear HI;go_wp2_with fail;refine (HC.out _).mono ?_;rintro e w2 ⟨rfl,hb2⟩;obtain⟨HB3,g2,hs2,htri⟩:=iK;clear HG hb2 HB2 d0 d1 d2 d3 d4;have d0:=ck0 g2;have d1:=ck1 g2;have d2:=ck2 g2;have d3:=ck3 g2;have d4:=ck4 g2;clear g2;cases hless:sJ y.toList x.n.toList
   ·exact nb
   ·rw[hless] at htri;go_wp2_with fail;refine (HC.out _).mono ?_;rintro e w3 ⟨rfl,hb3⟩;have HB4:=aa (HB3.trans (hb3.mono (sC HB.size af)));clear hb3 d0 d1 d2 d3 d4;exact nq
  ·exact ja

def sh (xs:List Xd) (t:ByteArray) (w:World) (e:Ending) (w':World):Prop:=
 Below w.heap.size w w'/\((∃(j:Nat) (x:Xd),xs[j]?=some x/\x.n=t/\e=.returned (.int .i64 j))\/((∀(j:Nat) x,xs[j]?=some x->¬x.n=t)/\e=.returned (.int .i64 (-1))))

theorem dV (d:Ad) (now:Int) (xs:List Xd) (t:ByteArray) (w:World) (hr:aA w d.a4 d.l4 d.c4 5 (xs.map xdF)):
  Calls Tryz.prog 105 #[.agg #[.slice d.a1 d.l1 d.c1,.slice d.a2 d.l2 d.c2,.slice d.a3 d.l3 d.c3,.slice d.a4 d.l4 d.c4,.slice d.a5 d.l5 d.c5,.int .i64 now],.string t] w (sh xs t w):=by
 have HR:=aa hr;have hxl:xs.length=d.l4:=de
 have hlc:=sC hr.2.1 hr.2.2.1;clear hr;go_enter Tryz.func105,Tryz.ntmps105;go_wp2;go_loopw [5] (fun i wr=> ∃k:Nat,k<=d.l4/\i=.int .i64 k/\wr=w.alloc (.cells #[.slice d.a1 d.l1 d.c1,.slice d.a2 d.l2 d.c2,.slice d.a3 d.l3 d.c3,.slice d.a4 d.l4 d.c4,.slice d.a5 d.l5 d.c5,.int .i64 now] 36)/\Hid (∀(j:Nat) z,j<k->xs[j]?=some z->¬z.n=t)) (fun i _=>d.l4 - (intOf i).toNat);case atStart=>exact⟨0,by omega,rfl,rfl,fun _ _ h=>absurd h af⟩
 case round=>
  obtain⟨k,hk,rfl,rfl,HE⟩:=hrel;by_cases hlt:k<d.l4
  ·obtain⟨b,o,x,ha,hb,hx,hat⟩:=cD HR.out hlt;obtain⟨-,-,-,c0,-,-,-,-⟩:=aU hat;have HX:=aa hx;clear hat hx;exact lg
  ·obtain rfl:k=d.l4:=af
   exact k9

theorem gS (x:Pd) (va:Option Addr) (vl vc:Nat) (w:World):
  Calls Tryz.prog 191 #[.agg #[.string x.n,.int .i64 x.c,.string x.z,.slice va vl vc,.string x.d,.int .i64 x.p]] w fun e w'=>e=.returned (.string x.n)/\Below w.heap.size w w':=by
 go_enter Tryz.func191,Tryz.ntmps191;go_wp2;go_ret;exact⟨rfl,aj _ _⟩

theorem ir (x:Pd) (va:Option Addr) (vl vc:Nat) (w:World) (hn:x.n.size<=9223372036854775807) (hz:x.z.size<=9223372036854775807) (hd:x.d.size<=9223372036854775807) (hr:ar w va vl vc x.zs):
  Calls Tryz.prog 192 #[.agg #[.string x.n,.int .i64 x.c,.string x.z,.slice va vl vc,.string x.d,.int .i64 x.p]] w (al (jQ x) w):=by
 have HR:=aa (hr.below (aj w (.cells (pov x va vl vc) 103)));clear hr;go_enter Tryz.func192,Tryz.ntmps192;go_wp2_with fail;refine (oz x.n x.c x.z va vl vc x.zs x.d x.p _ hn hz hd HR.out).mono ?_;exact iV

theorem jI (a:Option Addr) (len cap:Nat) (xs:List Pd) (most:Int) (w:World) (hr:aA w a len cap 6 (xs.map pdF)):
  Calls Tryz.prog 144 #[.slice a len cap,.int .i64 most] w (al (cA jQ Pd.n xs most) w):=by
 obtain⟨HR,hxl,hlc⟩:=ea;clear hr;have hmcalled:∀(v:Value) (w:World),(method 343 103 v "loop.example/g00571/impl.called").run Tryz.prog w=.ok (191,v) w:=fun _ _=>by kernel_rfl
 have hmright:∀(v:Value) (w:World),(method 343 103 v "loop.example/g00571/impl.right").run Tryz.prog w=.ok (192,v) w:=fun _ _=>by kernel_rfl
 by_cases hmo:most<(len:Int)
 ·go_enter Tryz.func144,Tryz.ntmps144;exact iO
 go_enter Tryz.func144,Tryz.ntmps144;go_wp2;go_loopw [5,14] (fun q i wr=> ∃(k:Nat) (y:ByteArray),k<=len/\q=.string y/\i=.int .i64 k/\Hid (k=0->y=⟨#[]⟩)/\Hid (∀z,0<k->xs[k - 1]?=some z->z.n=y)/\Hid (∀(j:Nat) z,j<k->xs[j]?=some z->jQ z)/\Hid (∀(j:Nat) z u,j+1<k->xs[j+1]?=some z->xs[j]?=some u->sJ u.n.toList z.n.toList=true)/\Hid (Below w.heap.size w wr)) (fun _ i _=>len - (intOf i).toNat);case atStart=>exact⟨0,_,by omega,rfl,rfl,fun _=>rfl,fun _ h=>absurd h af,fun _ _ h=>absurd h af,fun _ _ _ h=>absurd h af,sB _ _⟩
 case round=>
  obtain⟨k,y,hk,rfl,rfl,H0,H1,HE,HO,HB⟩:=hrel;by_cases hlt:k<len
  ·obtain⟨b,o,x,rfl,hb,hx,hat⟩:=bR (HR.below HB.out) hlt;obtain⟨va,vl,vc,hvr,z0,z2,z4,c0,c1,c2,c3,c4,c5⟩:=aO hat;have HX:=aa hx;have HC:=aa (fun v:World=>gS x va vl vc v);have HB1:=aa (HB.alloc HB.size (.cells (pov x va vl vc) 103));have HRt:=aa (ir x va vl vc (wr.alloc (.cells (pov x va vl vc) 103)) z0 z2 z4 (hvr.below (aj _ _)));clear hat hx z0 z2 z4 hvr;go_wp2_with fail;refine HRt.mono ?_;rintro e w1 ⟨r,rfl,hrt,hb1⟩;obtain⟨g1,-,-⟩:=bE hb1;have hs1:=hb1.size;rw[show (wr.alloc (.cells (pov x va vl vc) 103)).heap.size=wr.heap.size+1 from by simp] at hs1;obtain⟨HB2,d0,d1,d2,d3⟩:=d_;have d4:=ck4 g1;have d5:=ck5 g1;have HG:=aa g1;have HI:=aa hrt;clear g1 hb1 HB1 HRt hrt c0 c1 c2 c3 c4 c5;cases r
   ·exact iR
   have HOK:=aa (HI.1 rfl);clear HI;go_wp2_with fail;refine (HC.out _).mono ?_;rintro e w2 ⟨rfl,hb2⟩;obtain⟨HB3,g2,hs2,htri⟩:=iK;clear HG hb2 HB2 d0 d1 d2 d3 d4 d5;have d0:=ck0 g2;have d1:=ck1 g2;have d2:=ck2 g2;have d3:=ck3 g2;have d4:=ck4 g2;have d5:=ck5 g2;clear g2;cases hless:sJ y.toList x.n.toList
   ·exact nb
   ·rw[hless] at htri;go_wp2_with fail;refine (HC.out _).mono ?_;rintro e w3 ⟨rfl,hb3⟩;have HB4:=aa (HB3.trans (hb3.mono (sC HB.size af)));clear hb3 d0 d1 d2 d3 d4 d5;exact nq
  ·exact ja

def ens (w:World):Prop:=∃T v,w.cell? ⟨3,0,none⟩=some (.iface T v)
theorem ens.lt {w:World} (h:ens w):3<w.heap.size:=by
 obtain⟨T,v,h⟩:=h;rcases Nat.lt_or_ge (3) w.heap.size with h1|h1
 ·exact h1
 ·simp[World.cell?,Array.getElem?_eq_none h1] at h
theorem ens.below {w w':World} (h:ens w) (hb:Below w.heap.size w w'):ens w':=by
 have hl:=h.lt;obtain⟨T,v,h⟩:=h;exact⟨T,v,(ai hb hl).trans h⟩
theorem cH {s:ByteArray} (h:s=⟨#[]⟩):s.toList.isEmpty=true:=by rw[h];exact lq
def rH (p:Prop) (w:World) (e:Ending) (w':World):Prop:=Below w.heap.size w w'/\((p/\e=.returned .nilIface)\/(¬p/\∃T v,e=.returned (.iface T v)))

theorem dI (d:Ad) (now:Int) (xs:List Kd) (t:ByteArray) (w:World) (hr:aA w d.a2 d.l2 d.c2 4 (xs.map kdF)) (hG:ens w):
  Calls Tryz.prog 145 #[.agg #[.slice d.a1 d.l1 d.c1,.slice d.a2 d.l2 d.c2,.slice d.a3 d.l3 d.c3,.slice d.a4 d.l4 d.c4,.slice d.a5 d.l5 d.c5,.int .i64 now],.string t] w (rH (hit Kd.n xs t=true) w):=by
 have HR:=aa hr;obtain⟨HE,HB⟩:=fu;clear hr hG;go_enter Tryz.func145,Tryz.ntmps145;go_wp2_with fail;refine (lI d now xs t w _ HR.out (aj _ _)).mono ?_;rintro e w1 ⟨hb,hf⟩;obtain⟨HA0,hbx⟩:=aJ hb;replace HB:=upB HB hbx;clear hb hbx HA0;obtain⟨T,v,hv⟩:=HE.below HB.out;have hl:=(HE.below HB.out).lt;clear HE HR;rcases hf with ⟨hh,x,hx,hn,rfl,z0,z3⟩|⟨hh,rfl⟩
 ·have HH:=aa hh;clear hh hx hn z0 z3;go_wp2;go_ret;exact⟨(HB.alloc HB.size _),.inl ⟨HH.out,rfl⟩⟩
 ·have HH:=aa hh;clear hh;go_wp2;go_ret;exact⟨(HB.alloc HB.size _),.inr ⟨by rw[HH.out];decide,T,v,rfl⟩⟩

def rn (c:Cl) (t s:ByteArray):Prop:=∃(i j:Nat) (x:Xd) (v:Vd),c.xs[i]?=some x/\x.n=t/\c.vs[j]?=some v/\v.n=s/\x.v=s/\v.m=t/\x.z<=v.c/\v.k=x.k/\v.x=x.x

theorem gm (d:Ad) (c:Cl) (t s:ByteArray) (w:World) (hr:aL w d c.raw) (hx:aG Xd.n c.xs) (hv:aG Vd.n c.vs):
  Calls Tryz.prog 146 #[.agg #[.slice d.a1 d.l1 d.c1,.slice d.a2 d.l2 d.c2,.slice d.a3 d.l3 d.c3,.slice d.a4 d.l4 d.c4,.slice d.a5 d.l5 d.c5,.int .i64 c.now],.string t,.string s] w (al (rn c t s) w):=by
 obtain⟨HR,HB⟩:=eS;have HX:=aa hx;have HV:=aa hv;clear hr hx hv;go_enter Tryz.func146,Tryz.ntmps146;go_wp2_with fail;refine (eD d c.now c.xs t w _ HR.x (aj _ _)).mono ?_;rintro e w1 ⟨hb,hf⟩;obtain⟨HA0,hbx⟩:=aJ hb;have Bk:=aa HA0;replace HB:=upB HB hbx;clear hb hbx HA0;rcases hf with ⟨hh,x,hx,hn,rfl,z0,z2,z4⟩|⟨hh,rfl⟩
 ·have HX1:=aa hx;have HN1:=aa hn;clear hx hn hh z0 z2 z4;obtain⟨k0,k1,k2,k3,k4,k5⟩:=cs6 Bk;have ltk_1:=ae Bk.out;go_wp2_with fail;refine (cN d c.now c.vs s w _ HR.v (HB.trans ((aj _ _).mono HB.size))).mono ?_;rintro e w2 ⟨hb,hf⟩;clear k0 k1 k2 k3 k4 k5 ltk_1;obtain⟨HA0,hbx⟩:=aJ hb;replace Bk:=upK Bk hbx;have Bx:=aa HA0;replace HB:=upB HB hbx;clear hb hbx HA0;rcases hf with ⟨hh,v,va,vl,vc,hx,hn,rfl,z0,z2,z3,z5,hvr⟩|⟨hh,rfl⟩
  ·have HX2:=aa hx;have HN2:=aa hn;clear hx hn hh z0 z2 z3 z5 hvr;obtain⟨x0,x1,x2,x3,x4⟩:=cs5 Bx;have ltx_2:=ae Bx.out;cases q1:(x.v.toList==s.toList)
   ·go_wp2;go_ret;refine al.f (fun ⟨i,j,x',v',e1,e2,e3,e4,e5,_⟩=>?_) (HB.alloc HB.size _);obtain⟨_,rfl⟩:=HX.inj e1 HX1.out (e2.trans HN1.symm);rw[ba e5] at q1;cases q1
   cases q2:(v.m.toList==t.toList)
   ·go_wp2;go_ret;refine al.f (fun ⟨i,j,x',v',e1,e2,e3,e4,e5,e6,_⟩=>?_) (HB.alloc HB.size _);obtain⟨_,rfl⟩:=HV.inj e3 HX2.out (e4.trans HN2.symm);rw[ba e6] at q2;cases q2
   by_cases q3:x.z<=v.c;rotate_left
   ·go_wp2;go_ret;refine al.f (fun ⟨i,j,x',v',e1,e2,e3,e4,e5,e6,e7,_⟩=>?_) (HB.alloc HB.size _);obtain⟨_,rfl⟩:=HX.inj e1 HX1.out (e2.trans HN1.symm);obtain⟨_,rfl⟩:=HV.inj e3 HX2.out (e4.trans HN2.symm);omega
   cases q4:(v.k.toList==x.k.toList)
   ·go_wp2;go_ret;refine al.f (fun ⟨i,j,x',v',e1,e2,e3,e4,e5,e6,e7,e8,_⟩=>?_) (HB.alloc HB.size _);obtain⟨_,rfl⟩:=HX.inj e1 HX1.out (e2.trans HN1.symm);obtain⟨_,rfl⟩:=HV.inj e3 HX2.out (e4.trans HN2.symm);rw[ba e8] at q4;cases q4
   cases q5:(v.x==x.x)
   ·go_wp2;go_ret;refine al.f (fun ⟨i,j,x',v',e1,e2,e3,e4,e5,e6,e7,e8,e9⟩=>?_) (HB.alloc HB.size _);obtain⟨_,rfl⟩:=HX.inj e1 HX1.out (e2.trans HN1.symm);obtain⟨_,rfl⟩:=HV.inj e3 HX2.out (e4.trans HN2.symm);rw[e9] at q5;simp at q5
   ·go_wp2;go_ret;exact al.t ⟨_,_,x,v,HX1.out,HN1.out,HX2.out,HN2.out,gz q1,gz q2,q3,gz q4,by simpa using q5⟩ (HB.alloc HB.size _)
  ·have HH2:=aa hh;clear hh;obtain⟨x0,x1,x2,x3,x4⟩:=cs5 Bx;have ltx_2:=ae Bx.out;go_wp2;go_ret;refine al.f (fun ⟨i,j,x',v',e1,e2,e3,e4,_⟩=>?_) (HB.alloc HB.size _);have:=(cx HV.out e3 e4).2;rw[HH2.out] at this;cases this
 ·have HH1:=aa hh;clear hh;obtain⟨k0,k1,k2,k3,k4,k5⟩:=cs6 Bk;have ltk_1:=ae Bk.out;go_wp2_with fail;refine (cN d c.now c.vs s w _ HR.v (HB.trans ((aj _ _).mono HB.size))).mono ?_;rintro e w2 ⟨hb,hf⟩;clear k0 k1 k2 k3 k4 k5 ltk_1;obtain⟨HA0,hbx⟩:=aJ hb;replace Bk:=upK Bk hbx;have Bx:=aa HA0;replace HB:=upB HB hbx;clear hb hbx HA0;rcases hf with ⟨hh,v,va,vl,vc,hx,hn,rfl,z0,z2,z3,z5,hvr⟩|⟨hh,rfl⟩
  ·have HX2:=aa hx;have HN2:=aa hn;clear hx hn hh z0 z2 z3 z5 hvr;exact qn
  ·have HH2:=aa hh;clear hh;exact qn

def QV (c:Cl) (v:Vd):Prop:=hit Kd.n c.ks v.k=true/\(v.m=⟨#[]⟩\/rn c v.m v.n)
def QX (c:Cl) (x:Xd):Prop:=hit Kd.n c.ks x.k=true/\(x.v=⟨#[]⟩\/rn c x.n x.v)
def kG (c:Cl):Prop:=(∀(j:Nat) v,c.vs[j]?=some v->QV c v)/\(∀(j:Nat) x,c.xs[j]?=some x->QX c x)

theorem kj (d:Ad) (c:Cl) (w:World) (hr:aL w d c.raw) (hxr:aG Xd.n c.xs) (hvr:aG Vd.n c.vs) (hG:ens w):
  Calls Tryz.prog 127 #[.agg #[.slice d.a1 d.l1 d.c1,.slice d.a2 d.l2 d.c2,.slice d.a3 d.l3 d.c3,.slice d.a4 d.l4 d.c4,.slice d.a5 d.l5 d.c5,.int .i64 c.now]] w (al (kG c) w):=by
 obtain⟨a1,l1,y1,a2,l2,y2,a3,l3,y3,a4,l4,y4,a5,l5,y5⟩:=d;dsimp only;have HR:=aa hr;have hl3:c.vs.length=l3:=iA
 have hm3:l3<=9223372036854775807:=sC hr.v.2.1 hr.v.2.2.1;have hl4:c.xs.length=l4:=mJ
 have hm4:l4<=9223372036854775807:=sC hr.x.2.1 hr.x.2.2.1;clear hr;have HE:=aa hG;have HXR:=aa hxr;have HVR:=aa hvr;clear hG hxr hvr;go_enter Tryz.func127,Tryz.ntmps127;go_wp2;go_loopw [10] (fun i wr=> ∃k:Nat,k<=l3/\i=.int .i64 k/\Hid (∀(j:Nat) z,j<k->c.vs[j]?=some z->QV c z)/\Hid (Below w.heap.size w wr)/\Hid (wr.heap[w.heap.size]?=some (.cells (clo6 a1 l1 y1 a2 l2 y2 a3 l3 y3 a4 l4 y4 a5 l5 y5 c.now) 36 (0,0)))) (fun i _=>l3 - (intOf i).toNat);case atStart=>exact⟨0,by omega,rfl,fun _ _ h=>absurd h af,aj _ _,sH⟩
 case round=>
  obtain⟨k,hk,rfl,HQ,HB,Bk⟩:=hrel;by_cases hlt:k<l3
  ·obtain⟨b,o,v,rfl,hb,hx,hat⟩:=bk (HR.v.below HB.out) hlt;obtain⟨va,vl,vc,hvr,z0,z2,z3,z5,c0,c1,c2,c3,c4,c5,c6,c7⟩:=aE hat;have HXv:=aa hx;clear hat hx z0 z2 z3 z5 hvr;obtain⟨k0,k1,k2,k3,k4,k5⟩:=cs6 Bk;have ltk_0:=ae Bk.out;go_wp2_with fail;refine (dI ⟨a1,l1,y1,a2,l2,y2,(some ⟨b,o,none⟩),l3,y3,a4,l4,y4,a5,l5,y5⟩ c.now c.ks v.k _ (HR.k.below (HB.trans ((aj _ _).mono HB.size))) (HE.below (HB.trans ((aj _ _).mono HB.size)))).mono ?_;rintro e w1 ⟨hb2,hf⟩;clear k0 k1 k2 k3 k4 k5 ltk_0;obtain⟨HA0,hbx⟩:=aJ hb2;replace Bk:=upK Bk hbx;have Br:=aa HA0;replace HB:=upB HB hbx;clear hb2 hbx HA0;clear hb c0 c1 c2 c3 c4 c5 c6 c7;rcases hf with ⟨hh,rfl⟩|⟨hh,T,q,rfl⟩;rotate_left
   ·have HH:=aa hh;clear hh;obtain⟨k0,k1,k2,k3,k4,k5⟩:=cs6 Bk;obtain⟨r0,r1,r2,r3,r4,r5,r6,r7⟩:=cs8 Br;go_wp2;go_ret;exact al.f (fun h=>HH.out (h.1 k v HXv.out).1) HB.out
   have HH:=aa hh;clear hh;by_cases he:v.m=⟨#[]⟩
   ·have hq:=cH he;have HEm:=aa he;clear he;obtain⟨k0,k1,k2,k3,k4,k5⟩:=cs6 Bk;obtain⟨r0,r1,r2,r3,r4,r5,r6,r7⟩:=cs8 Br;go_wp2_with fail;refine⟨⟨k+1,by omega,by go_num,fun j z hj hz=>?_,HB.out,Bk.out⟩,by simp[intOf];omega⟩;by_cases e:j=k
    ·subst e;rw[HXv.out] at hz;exact jO
    ·exact HQ.out j z af hz
   ·have hq:=aZ he;have HEm:=aa he;clear he;obtain⟨k0,k1,k2,k3,k4,k5⟩:=cs6 Bk;obtain⟨r0,r1,r2,r3,r4,r5,r6,r7⟩:=cs8 Br;go_wp2_with fail;refine (gm ⟨a1,l1,y1,a2,l2,y2,(some ⟨b,o,none⟩),l3,y3,a4,l4,y4,a5,l5,y5⟩ c v.m v.n _ (HR.below HB.out) HXR.out HVR.out).mono ?_;rintro e w2 ⟨r,rfl,hi,hb3⟩;clear k0 k1 k2 k3 k4 k5 r0 r1 r2 r3 r4 r5 r6 r7;replace Bk:=upK Bk hb3;replace Br:=upK Br hb3;replace HB:=upB HB hb3;clear hb3;have HI:=aa hi;clear hi;cases r
    ·go_wp2;go_ret;refine al.f (fun h=>?_) HB.out;rcases (h.1 k v HXv.out).2 with h2|h2
     ·exact HEm.out h2
     ·have:=HI.2 h2;cases this
    ·go_wp2_with fail;refine⟨⟨k+1,by omega,by go_num,fun j z hj hz=>?_,HB.out,Bk.out⟩,by simp[intOf];omega⟩;by_cases e:j=k
     ·subst e;rw[HXv.out] at hz;exact mY
     ·exact HQ.out j z af hz
  ·obtain rfl:l3=k:=af
   have HQ1:Hid (∀(j:Nat) z,c.vs[j]?=some z->QV c z):=fun j z hz=>HQ.out j z bI hz;clear HQ;have k3:=ck3 Bk;go_wp2;go_loopw [37] (fun i wr=> ∃k:Nat,k<=l4/\i=.int .i64 k/\Hid (∀(j:Nat) z,j<k->c.xs[j]?=some z->QX c z)/\Hid (Below w.heap.size w wr)/\Hid (wr.heap[w.heap.size]?=some (.cells (clo6 a1 l1 y1 a2 l2 y2 a3 l3 y3 a4 l4 y4 a5 l5 y5 c.now) 36 (0,0)))) (fun i _=>l4 - (intOf i).toNat);case atStart=>exact⟨0,by omega,rfl,fun _ _ h=>absurd h af,HB.out,Bk.out⟩
   case round=>
    obtain⟨k,hk,rfl,HQ,HB,Bk⟩:=hrel;by_cases hlt:k<l4
    ·obtain⟨b,o,x,rfl,hb,hx,hat⟩:=cD (HR.x.below HB.out) hlt;obtain⟨z0,z2,z4,c0,c1,c2,c3,c4⟩:=aU hat;have HXx:=aa hx;clear hat hx z0 z2 z4;obtain⟨k0,k1,k2,k3,k4,k5⟩:=cs6 Bk;have ltk_0:=ae Bk.out;go_wp2_with fail;refine (dI ⟨a1,l1,y1,a2,l2,y2,a3,l3,y3,(some ⟨b,o,none⟩),l4,y4,a5,l5,y5⟩ c.now c.ks x.k _ (HR.k.below (HB.trans ((aj _ _).mono HB.size))) (HE.below (HB.trans ((aj _ _).mono HB.size)))).mono ?_;rintro e w1 ⟨hb2,hf⟩;clear k0 k1 k2 k3 k4 k5 ltk_0;obtain⟨HA0,hbx⟩:=aJ hb2;replace Bk:=upK Bk hbx;have Br:=aa HA0;replace HB:=upB HB hbx;clear hb2 hbx HA0;clear hb c0 c1 c2 c3 c4;rcases hf with ⟨hh,rfl⟩|⟨hh,T,q,rfl⟩;rotate_left
     ·have HH:=aa hh;clear hh;obtain⟨k0,k1,k2,k3,k4,k5⟩:=cs6 Bk;obtain⟨r0,r1,r2,r3,r4⟩:=cs5 Br;go_wp2;go_ret;exact al.f (fun h=>HH.out (h.2 k x HXx.out).1) HB.out
     have HH:=aa hh;clear hh;by_cases he:x.v=⟨#[]⟩
     ·have hq:=cH he;have HEm:=aa he;clear he;obtain⟨k0,k1,k2,k3,k4,k5⟩:=cs6 Bk;obtain⟨r0,r1,r2,r3,r4⟩:=cs5 Br;go_wp2_with fail;refine⟨⟨k+1,by omega,by go_num,fun j z hj hz=>?_,HB.out,Bk.out⟩,by simp[intOf];omega⟩;by_cases e:j=k
      ·subst e;rw[HXx.out] at hz;exact jO
      ·exact HQ.out j z af hz
     ·have hq:=aZ he;have HEm:=aa he;clear he;obtain⟨k0,k1,k2,k3,k4,k5⟩:=cs6 Bk;obtain⟨r0,r1,r2,r3,r4⟩:=cs5 Br;go_wp2_with fail;refine (gm ⟨a1,l1,y1,a2,l2,y2,a3,l3,y3,(some ⟨b,o,none⟩),l4,y4,a5,l5,y5⟩ c x.n x.v _ (HR.below HB.out) HXR.out HVR.out).mono ?_;rintro e w2 ⟨r,rfl,hi,hb3⟩;clear k0 k1 k2 k3 k4 k5 r0 r1 r2 r3 r4;replace Bk:=upK Bk hb3;replace Br:=upK Br hb3;replace HB:=upB HB hb3;clear hb3;have HI:=aa hi;clear hi;cases r
      ·go_wp2;go_ret;refine al.f (fun h=>?_) HB.out;rcases (h.2 k x HXx.out).2 with h2|h2
       ·exact HEm.out h2
       ·have:=HI.2 h2;cases this
      ·go_wp2_with fail;refine⟨⟨k+1,by omega,by go_num,fun j z hj hz=>?_,HB.out,Bk.out⟩,by simp[intOf];omega⟩;by_cases e:j=k
       ·subst e;rw[HXx.out] at hz;exact mY
       ·exact HQ.out j z af hz
    ·obtain rfl:l4=k:=af
     have HQ2:Hid (∀(j:Nat) z,c.xs[j]?=some z->QX c z):=fun j z hz=>HQ.out j z bI hz;exact kW

def InL (zs:List ByteArray) (t:ByteArray):Prop:=∃j:Nat,zs[j]?=some t

theorem kg (a:Option Addr) (len cap:Nat) (zs:List ByteArray) (t:ByteArray) (w:World) (hr:ar w a len cap zs):
  Calls Tryz.prog 162 #[.slice a len cap,.string t] w fun e w'=>(∃r:Int,e=.returned (.int .i64 r)/\((0<=r/\InL zs t)\/(r= -1/\¬InL zs t)))/\w'=w:=by
 have HR:=aa hr;have hlc:=sC hr.2.1 hr.2.2.1;have hzl:=hr.1;clear hr;go_enter Tryz.func162,Tryz.ntmps162;go_wp2;go_loop [8] (fun i=> ∃k:Nat,k<=len/\i=.int .i64 k/\Hid (∀(j:Nat) x,j<k->zs[j]?=some x->¬x=t)) (fun i=>len - (intOf i).toNat);case atStart=>exact⟨0,by omega,rfl,fun _ _ h=>absurd h af⟩
 case round=>
  obtain⟨k,hk,rfl,HE⟩:=hrel;by_cases hlt:k<len
  ·obtain⟨b,o,x,rfl,hb,hx,hc,hsz⟩:=HR.at hlt;have HX:=aa hx;clear hx;by_cases hn:t=x
   ·have hq:=ba hn;have HN:=aa hn;clear hn;go_wp2;go_ret;exact⟨⟨k,rfl,.inl ⟨by omega,k,by rw[HX.out,HN.out]⟩⟩,rfl⟩
   ·have hq:=bz hn;have HN:=aa hn;clear hn;go_wp2;refine⟨⟨k+1,by omega,by go_num,fun j z hj hz=>?_⟩,by simp[intOf];omega⟩;by_cases e:j=k
    ·subst e;rw[HX.out] at hz;obtain rfl:=sx hz;exact fun q=>HN.out q.symm
    ·exact HE.out j z af hz
  ·obtain rfl:len=k:=af
   go_wp2;go_ret;exact⟨⟨-1,rfl,.inr ⟨rfl,fun ⟨j,hj⟩=>HE.out j t mI hj rfl⟩⟩,rfl⟩

theorem bX (a:Option Addr) (len cap:Nat) (zs:List ByteArray) (t:ByteArray) (w:World) (hr:ar w a len cap zs):
  Calls Tryz.prog 158 #[.slice a len cap,.string t] w (al (InL zs t) w):=by
 have HR:=aa hr;clear hr;go_enter Tryz.func158,Tryz.ntmps158;go_wp2_with fail;refine (kg a len cap zs t _ HR.out).mono ?_;rintro e w1 ⟨⟨r,rfl,hr⟩,rfl⟩;rcases hr with ⟨h0,hi⟩|⟨rfl,hi⟩
 ·go_wp2;go_ret;exact al.t hi (sB _ _)
 ·go_wp2;go_ret;exact al.f hi (sB _ _)

theorem fN (d:Ad) (now:Int) (xs:List Xd) (a:Option Addr) (len cap:Nat) (zs:List ByteArray) (w:World) (hr:aA w d.a4 d.l4 d.c4 5 (xs.map xdF)) (hz:ar w a len cap zs) (hG:ens w):
  Calls Tryz.prog 147 #[.agg #[.slice d.a1 d.l1 d.c1,.slice d.a2 d.l2 d.c2,.slice d.a3 d.l3 d.c3,.slice d.a4 d.l4 d.c4,.slice d.a5 d.l5 d.c5,.int .i64 now],.slice a len cap] w (rH (∀(j:Nat) t,zs[j]?=some t->hit Xd.n xs t=true) w):=by
 have HR:=aa hr;have HE:=aa hG;have HZ:=aa hz;have hlc:=sC hz.2.1 hz.2.2.1;have hzl:=hz.1;clear hr hG hz;go_enter Tryz.func147,Tryz.ntmps147;go_wp2;go_loopw [11] (fun i wr=> ∃k:Nat,k<=len/\i=.int .i64 k/\Hid (∀(j:Nat) t,j<k->zs[j]?=some t->hit Xd.n xs t=true)/\Hid (Below w.heap.size w wr)/\Hid (wr.heap[w.heap.size]?=some (.cells (clv d now) 36 (0,0)))) (fun i _=>len - (intOf i).toNat);case atStart=>exact⟨0,by omega,rfl,fun _ _ h=>absurd h af,aj _ _,sH⟩
 case round=>
  obtain⟨k,hk,rfl,HQ,HB,Bk⟩:=hrel;by_cases hlt:k<len
  ·obtain⟨b,o,t,rfl,hb,hx,hc,hsz⟩:=(HZ.below HB.out).at hlt;have HX:=aa hx;clear hx;obtain⟨k0,k1,k2,k3,k4,k5⟩:=cs6 Bk;go_wp2_with fail;refine (eD d now xs t w _ HR.out HB.out).mono ?_;rintro e w1 ⟨hb2,hf⟩;clear k0 k1 k2 k3 k4 k5;replace Bk:=upK Bk hb2;replace HB:=upB HB hb2;clear hb2;clear hb hc hsz;obtain⟨T,q,hv⟩:=HE.below HB.out;have hl:=(HE.below HB.out).lt;rcases hf with ⟨hh,x,hx,hn,rfl,z0,z2,z4⟩|⟨hh,rfl⟩
   ·have HH:=aa hh;clear hh hx hn z0 z2 z4 hv hl;go_wp2;refine⟨⟨k+1,by omega,by go_num,fun j z hj hz=>?_,HB.alloc HB.size _,(sR _ _ _ (ae Bk.out)).trans Bk.out⟩,by simp[intOf];omega⟩;by_cases e:j=k
    ·subst e;rw[HX.out] at hz;obtain rfl:=sx hz;exact HH.out
    ·exact HQ.out j z af hz
   ·have HH:=aa hh;clear hh;go_wp2;go_ret;exact⟨HB.alloc HB.size _,.inr ⟨fun h=>(by have:=h k t HX.out;rw[HH.out] at this;cases this),T,q,rfl⟩⟩
  ·obtain rfl:len=k:=af
   go_wp2;go_ret;exact⟨HB.out,.inl ⟨fun j t ht=>HQ.out j t kO ht,rfl⟩⟩

def bm (c:Cl) (t:ByteArray) (v:Vd):Prop:=∃(i j:Nat) (x:Xd),c.xs[i]?=some x/\x.n=t/\c.vs[j]?=some v/\v.n=x.v
def rN (c:Cl) (t:ByteArray) (r w:World) (e:Ending) (w':World):Prop:=
 Below w.heap.size w w'/\((∃(v:Vd) (va:Option Addr) (vl vc:Nat),bm c t v/\e=.returned (.tuple #[.agg #[.string v.n,.int .i64 v.c,.string v.z,.string v.k,.bool v.x,.string v.m,.bool v.y,.slice va vl vc],.bool true])/\v.n.size<=9223372036854775807/\v.z.size<=9223372036854775807/\ar r va vl vc v.zs)\/((∀v,¬bm c t v)/\e=.returned (.tuple #[.agg #[.string ⟨#[]⟩,.int .i64 0,.string ⟨#[]⟩,.string ⟨#[]⟩,.bool false,.string ⟨#[]⟩,.bool false,.slice none 0 0],.bool false])))

theorem lu (d:Ad) (c:Cl) (t:ByteArray) (r:World) (w:World) (hr:aL r d c.raw) (hrw:Below r.heap.size r w) (hx:aG Xd.n c.xs) (hv:aG Vd.n c.vs) (hne:∀(j:Nat) v,c.vs[j]?=some v->¬v.n=⟨#[]⟩):
  Calls Tryz.prog 112 #[.agg #[.slice d.a1 d.l1 d.c1,.slice d.a2 d.l2 d.c2,.slice d.a3 d.l3 d.c3,.slice d.a4 d.l4 d.c4,.slice d.a5 d.l5 d.c5,.int .i64 c.now],.string t] w (rN c t r w):=by
 have HR:=aa hr;have HRW:=aa hrw;obtain⟨HX,HV,HNE⟩:=eR;have HB:=aa (sB w.heap.size w);clear hr hx hv hrw hne;go_enter Tryz.func112,Tryz.ntmps112;go_wp2_with fail;refine (eD d c.now c.xs t r _ HR.x (HRW.trans ((aB _ _ _).mono HRW.size))).mono ?_;rintro e w1 ⟨hb,hf⟩;obtain⟨HA0,HA1,hbx⟩:=bS hb;have Bk:=aa HA0;have Bs:=aa HA1;replace HB:=upB HB hbx;clear hb hbx HA0 HA1;rcases hf with ⟨hh,x,hx,hn,rfl,z0,z2,z4⟩|⟨hh,rfl⟩
 ·have HX1:=aa hx;have HN1:=aa hn;clear hx hn hh z0 z2 z4;obtain⟨k0,k1,k2,k3,k4,k5⟩:=cs6 Bk;have ltk_1:=ae Bk.out;go_wp2_with fail;refine (cN d c.now c.vs x.v r _ HR.v (HRW.trans ((HB.trans ((aj _ _).mono HB.size)).mono HRW.size))).mono ?_;rintro e w2 ⟨hb,hf⟩;clear k0 k1 k2 k3 k4 k5 ltk_1;obtain⟨HA0,hbx⟩:=aJ hb;replace Bk:=upK Bk hbx;replace Bs:=upK Bs hbx;have Bx:=aa HA0;replace HB:=upB HB hbx;clear hb hbx HA0;rcases hf with ⟨hh,v,va,vl,vc,hx,hn,rfl,z0,z2,z3,z5,hvr⟩|⟨hh,rfl⟩
  ·have HX2:=aa hx;have HN2:=aa hn;have HT:=aa hvr;have HZ0:=aa z0;have HZ2:=aa z2;clear hx hn hh z0 z2 z3 z5 hvr;obtain⟨s0,s1,s2,s3,s4,s5,s6,s7⟩:=cs8 Bs;obtain⟨fr0,fr1,fr2,fr3,fr4,fr5,fr6,fr7⟩:=mQ;go_wp2;refine bodyPost_ret (v:=.tuple #[.agg #[.string v.n,.int .i64 v.c,.string v.z,.string v.k,.bool v.x,.string v.m,.bool v.y,.slice va vl vc],.bool true]) mG rfl ⟨ag (sN _) (ag (sN _) (ag (sN _) (ag (sN _) (ag (sN _) (ag (sN _) (ag (sN _) (ag (sN _) (HB.out)))))))),.inl ⟨v,va,vl,vc,⟨_,_,x,HX1.out,HN1.out,HX2.out,HN2.out⟩,rfl,HZ0.out,HZ2.out,HT.out⟩⟩
  ·have HH2:=aa hh;clear hh;obtain⟨s0,s1,s2,s3,s4,s5,s6,s7⟩:=cs8 Bs;obtain⟨fr0,fr1,fr2,fr3,fr4,fr5,fr6,fr7⟩:=mQ;go_wp2;refine bodyPost_ret (v:=.tuple #[.agg #[.string ⟨#[]⟩,.int .i64 0,.string ⟨#[]⟩,.string ⟨#[]⟩,.bool false,.string ⟨#[]⟩,.bool false,.slice none 0 0],.bool false]) mG rfl ⟨ag (sN _) (ag (sN _) (ag (sN _) (ag (sN _) (ag (sN _) (ag (sN _) (ag (sN _) (ag (sN _) (HB.out)))))))),.inr ⟨fun v ⟨i,j,x2,e1,e2,e3,e4⟩=>(by obtain⟨_,rfl⟩:=HX.inj e1 HX1.out (e2.trans HN1.symm);have:=(cx HV.out e3 e4).2;rw[HH2.out] at this;cases this),rfl⟩⟩
 ·have HH1:=aa hh;clear hh;obtain⟨k0,k1,k2,k3,k4,k5⟩:=cs6 Bk;have ltk_1:=ae Bk.out;go_wp2_with fail;refine (cN d c.now c.vs ⟨#[]⟩ r _ HR.v (HRW.trans ((HB.trans ((aj _ _).mono HB.size)).mono HRW.size))).mono ?_;rintro e w2 ⟨hb,hf⟩;clear k0 k1 k2 k3 k4 k5 ltk_1;obtain⟨HA0,hbx⟩:=aJ hb;replace Bk:=upK Bk hbx;replace Bs:=upK Bs hbx;have Bx:=aa HA0;replace HB:=upB HB hbx;clear hb hbx HA0;rcases hf with ⟨hh,v,va,vl,vc,hx,hn,rfl,z0,z2,z3,z5,hvr⟩|⟨hh,rfl⟩
  ·have HX2:=aa hx;have HN2:=aa hn;have HT:=aa hvr;have HZ0:=aa z0;have HZ2:=aa z2;clear hx hn hh z0 z2 z3 z5 hvr;exact absurd HN2.out (HNE.out _ _ HX2.out)
  ·have HH2:=aa hh;clear hh;obtain⟨s0,s1,s2,s3,s4,s5,s6,s7⟩:=cs8 Bs;obtain⟨fr0,fr1,fr2,fr3,fr4,fr5,fr6,fr7⟩:=mQ;go_wp2;refine bodyPost_ret (v:=.tuple #[.agg #[.string ⟨#[]⟩,.int .i64 0,.string ⟨#[]⟩,.string ⟨#[]⟩,.bool false,.string ⟨#[]⟩,.bool false,.slice none 0 0],.bool false]) mG rfl ⟨ag (sN _) (ag (sN _) (ag (sN _) (ag (sN _) (ag (sN _) (ag (sN _) (ag (sN _) (ag (sN _) (HB.out)))))))),.inr ⟨fun v ⟨i,j,x2,e1,e2,e3,e4⟩=>(by have:=(cx HX.out e1 e2).2;rw[HH1.out] at this;cases this),rfl⟩⟩

def cpuOf (t:ByteArray):List Pd->Int
 | []=>0
 | p ::ps=>(if p.d=t then p.c else 0)+cpuOf t ps
theorem ez (t:ByteArray):∀ps qs:List Pd,cpuOf t (ps++qs)=cpuOf t ps+cpuOf t qs
 | [],qs=>by simp[cpuOf]
 | p ::ps,qs=>by simp[cpuOf,ez t ps];omega
theorem c9 {t:ByteArray} {ps:List Pd} {k:Nat} {p:Pd} (h:ps[k]?=some p):cpuOf t (ps.take (k+1))=cpuOf t (ps.take k)+(if p.d=t then p.c else 0):=by
 rw[tc,h,ez];simp[cpuOf]

theorem gJ (d:Ad) (now:Int) (ps:List Pd) (t:ByteArray) (w:World) (hr:aA w d.a5 d.l5 d.c5 6 (ps.map pdF)) (hl:ps.length<=8) (hp:∀(j:Nat) p,ps[j]?=some p->0<=p.c/\p.c<=1000000):
  Calls Tryz.prog 149 #[.agg #[.slice d.a1 d.l1 d.c1,.slice d.a2 d.l2 d.c2,.slice d.a3 d.l3 d.c3,.slice d.a4 d.l4 d.c4,.slice d.a5 d.l5 d.c5,.int .i64 now],.string t] w fun e w'=>e=.returned (.int .i64 (cpuOf t ps))/\Below w.heap.size w w':=by
 obtain⟨a1,l1,y1,a2,l2,y2,a3,l3,y3,a4,l4,y4,a5,l5,y5⟩:=d;dsimp only at hr ⊢;have HR:=aa hr;have hxl:ps.length=l5:=de
 have HP:=aa hp;clear hr hp;go_enter Tryz.func149,Tryz.ntmps149;go_wp2;go_loopw [5,11] (fun q i wr=> ∃(k:Nat) (s:Int),k<=l5/\q=.int .i64 s/\i=.int .i64 k/\Hid (s=cpuOf t (ps.take k))/\0<=s/\s<=k*1000000/\Hid (Below w.heap.size w wr)) (fun _ i _=>l5 - (intOf i).toNat);case atStart=>exact⟨0,0,by omega,rfl,rfl,rfl,by omega,by omega,aj _ _⟩
 case round=>
  obtain⟨k,s,hk,rfl,rfl,HS,hs0,hs1,HB⟩:=hrel;by_cases hlt:k<l5
  ·obtain⟨b,o,p,rfl,hb,hx,hat⟩:=bR (HR.below HB.out) hlt;obtain⟨va,vl,vc,hvr,z0,z2,z4,c0,c1,c2,c3,c4,c5⟩:=aO hat;have HX:=aa hx;have hpc:=HP.out k p hx;clear hat hx z0 z2 z4 hvr;by_cases hn:p.d=t
   ·have hq:=ba hn;have HN:=aa hn;clear hn;go_wp2;refine⟨⟨k+1,s+p.c,by omega,by go_num,by go_num,?_,by omega,by omega,HB.alloc HB.size _⟩,by simp[intOf];omega⟩;show _=_;rw[c9 HX.out,if_pos HN.out,<-HS.out]
   ·have hq:=bz hn;have HN:=aa hn;clear hn;go_wp2;refine⟨⟨k+1,s,by omega,rfl,by go_num,?_,by omega,by omega,HB.alloc HB.size _⟩,by simp[intOf];omega⟩;show _=_;rw[c9 HX.out,if_neg HN.out,<-HS.out,Int.add_zero]
  ·obtain rfl:l5=k:=af
   exact nj

def lz (c:Cl) (t:ByteArray):Prop:=∀(i j:Nat) p q,c.ps[i]?=some p->c.ps[j]?=some q->¬p.d=⟨#[]⟩->¬q.d=⟨#[]⟩->InL p.zs t->InL q.zs t->p.d=q.d

theorem oA (d:Ad) (c:Cl) (t:ByteArray) (w:World) (hr:aL w d c.raw):
  Calls Tryz.prog 150 #[.agg #[.slice d.a1 d.l1 d.c1,.slice d.a2 d.l2 d.c2,.slice d.a3 d.l3 d.c3,.slice d.a4 d.l4 d.c4,.slice d.a5 d.l5 d.c5,.int .i64 c.now],.string t] w (al (lz c t) w):=by
 obtain⟨a1,l1,y1,a2,l2,y2,a3,l3,y3,a4,l4,y4,a5,l5,y5⟩:=d;dsimp only;have HR:=aa hr;obtain⟨hl5,hm5⟩:=iI;clear hr;go_enter Tryz.func150,Tryz.ntmps150;go_wp2;go_loopw [5,11] (fun q i wr=> ∃(k:Nat) (s:ByteArray),k<=l5/\q=.string s/\i=.int .i64 k/\Hid (∀(j:Nat) p,j<k->c.ps[j]?=some p->¬p.d=⟨#[]⟩->InL p.zs t->p.d=s)/\Hid (s=⟨#[]⟩\/∃(j:Nat) (p:Pd),j<k/\c.ps[j]?=some p/\¬p.d=⟨#[]⟩/\InL p.zs t/\p.d=s)/\Hid (Below w.heap.size w wr)) (fun _ i _=>l5 - (intOf i).toNat);case atStart=>exact⟨0,_,by omega,rfl,rfl,fun _ _ h=>absurd h af,.inl rfl,aj _ _⟩
 case round=>
  obtain⟨k,s,hk,rfl,rfl,HQ,HS,HB⟩:=hrel;by_cases hlt:k<l5
  ·obtain⟨b,o,p,rfl,hb,hx,hat⟩:=bR (HR.p.below HB.out) hlt;obtain⟨va,vl,vc,hvr,z0,z2,z4,c0,c1,c2,c3,c4,c5⟩:=aO hat;have HX:=aa hx;have HT:=aa hvr;clear hat hx z0 z2 z4 hvr;have skip:(p.d=⟨#[]⟩\/¬InL p.zs t)->∀(j:Nat) q,j<k+1->c.ps[j]?=some q->¬q.d=⟨#[]⟩->InL q.zs t->q.d=s:=by
    intro h j q hj hq h1 h2;by_cases e:j=k
    ·subst e;rw[HX.out] at hq;obtain rfl:=sx hq;rcases h with h|h
     ·exact absurd h h1
     ·exact absurd h2 h
    ·exact HQ.out j q af hq h1 h2
   have SK:=aa skip;clear skip;have keepS:s=⟨#[]⟩\/∃(j:Nat) (p:Pd),j<k+1/\c.ps[j]?=some p/\¬p.d=⟨#[]⟩/\InL p.zs t/\p.d=s:=HS.imp id (fun ⟨j,p,h1,h2⟩=>⟨j,p,by omega,h2⟩);have KS:=aa keepS;clear keepS;by_cases he:p.d=⟨#[]⟩
   ·have hq:=cH he;have HEm:=aa he;clear he;go_wp2;exact⟨⟨k+1,s,by omega,rfl,by go_num,SK.out (.inl HEm.out),KS.out,HB.alloc HB.size _⟩,by simp[intOf];omega⟩
   ·have hq:=aZ he;have HEm:=aa he;clear he;go_wp2_with fail;refine (bX va vl vc p.zs t _ (HT.below (aj _ _))).mono ?_;rintro e w1 ⟨r,rfl,hi,hb2⟩;obtain⟨HA0,hbx⟩:=aJ hb2;have Br:=aa HA0;replace HB:=upB HB hbx;clear hb2 hbx HA0;have HI:=aa hi;clear hi c0 c1 c2 c3 c4 c5 hb;cases r
    ·obtain⟨r0,r1,r2,r3,r4,r5⟩:=cs6 Br;go_wp2;exact⟨⟨k+1,s,by omega,rfl,by go_num,SK.out (.inr (fun h=>by have:=HI.2 h;cases this)),KS.out,HB.out⟩,by simp[intOf];omega⟩
    ·have HIn:=aa (HI.1 bA);clear HI;by_cases hs:s=⟨#[]⟩
     ·have hq2:=cH hs;have HSe:=aa hs;clear hs;obtain⟨r0,r1,r2,r3,r4,r5⟩:=cs6 Br;go_wp2_with fail;refine⟨⟨k+1,p.d,by omega,rfl,by go_num,fun j q hj hq h1 h2=>?_,.inr ⟨k,p,by omega,HX.out,HEm.out,HIn.out,rfl⟩,HB.out⟩,by simp[intOf];omega⟩;by_cases e:j=k
      ·subst e;rw[HX.out] at hq;obtain rfl:=sx hq;rfl
      ·exact absurd (HSe.out ▸ HQ.out j q af hq h1 h2) h1
     ·have hq2:=aZ hs;have HSe:=aa hs;clear hs;by_cases hd:p.d=s
      ·have hq3:=ba hd;have HD:=aa hd;clear hd;obtain⟨r0,r1,r2,r3,r4,r5⟩:=cs6 Br;go_wp2_with fail;refine⟨⟨k+1,p.d,by omega,rfl,by go_num,fun j q hj hq h1 h2=>?_,.inr ⟨k,p,by omega,HX.out,HEm.out,HIn.out,rfl⟩,HB.out⟩,by simp[intOf];omega⟩;by_cases e:j=k
       ·subst e;rw[HX.out] at hq;obtain rfl:=sx hq;rfl
       ·exact (HQ.out j q af hq h1 h2).trans HD.symm
      ·have hq3:=bz hd;have HD:=aa hd;clear hd;obtain⟨r0,r1,r2,r3,r4,r5⟩:=cs6 Br;go_wp2;go_ret;refine al.f (fun h=>?_) HB.out;rcases HS.out with h1|⟨j,q,h1,h2,h3,h4,h5⟩
       ·exact HSe.out h1
       ·exact HD.out ((h k j p q HX.out h2 HEm.out h3 HIn.out h4).trans h5)
  ·obtain rfl:l5=k:=af
   go_wp2;go_ret;refine al.t (fun i j p q hi hj h1 h2 h3 h4=>?_) HB.out;rw[HQ.out i p (by have:=(sv.1 hi).1;omega) hi h1 h3,HQ.out j q mI hj h2 h4]

theorem bm.inj {c:Cl} {t:ByteArray} {v v':Vd} (hx:aG Xd.n c.xs) (hv:aG Vd.n c.vs) (h:bm c t v) (h':bm c t v'):v=v':=by
 obtain⟨i,j,x,e1,e2,e3,e4⟩:=h;obtain⟨i',j',x',f1,f2,f3,f4⟩:=h';obtain⟨_,rfl⟩:=hx.inj e1 f1 (e2.trans f2.symm);exact (hv.inj e3 f3 (e4.trans f4.symm)).2
def qR (c:Cl) (p:Pd):Prop:=∃(i:Nat) (n:Nd),c.ns[i]?=some n/\n.n=p.d/\(p.z=⟨#[]⟩\/p.z=n.z)/\∀(j:Nat) t,p.zs[j]?=some t->∃v,bm c t v/\v.z=n.z
def rK (c:Cl) (p:Pd):Prop:=∃(i:Nat) (n:Nd),c.ns[i]?=some n/\n.n=p.d/\n.d=false/\∀(j:Nat) t,p.zs[j]?=some t->∃v,bm c t v/\InL n.zs v.n
def mi (c:Cl) (n:Nd):Prop:=∀(j:Nat) t,n.zs[j]?=some t->∃(i:Nat) (v:Vd),c.vs[i]?=some v/\v.n=t/\(n.d=true\/InL v.zs n.n)

theorem lW (d:Ad) (c:Cl) (p:Pd) (pa:Option Addr) (pl pc:Nat) (w:World) (hr:aL w d c.raw) (hn:aG Nd.n c.ns) (hx:aG Xd.n c.xs) (hv:aG Vd.n c.vs) (hne:∀(j:Nat) v,c.vs[j]?=some v->¬v.n=⟨#[]⟩) (hp:ar w pa pl pc p.zs):
  Calls Tryz.prog 148 #[.agg #[.slice d.a1 d.l1 d.c1,.slice d.a2 d.l2 d.c2,.slice d.a3 d.l3 d.c3,.slice d.a4 d.l4 d.c4,.slice d.a5 d.l5 d.c5,.int .i64 c.now],.agg #[.string p.n,.int .i64 p.c,.string p.z,.slice pa pl pc,.string p.d,.int .i64 p.p]] w (al (qR c p) w):=by
 have HR:=aa hr;have HN:=aa hn;obtain⟨HX,HV,HNE⟩:=eR;have HP:=aa hp;have hlc:=sC hp.2.1 hp.2.2.1;have hzl:=hp.1;have HB:=aa (sB w.heap.size w);clear hr hn hx hv hne hp;go_enter Tryz.func148,Tryz.ntmps148;go_wp2_with fail;refine (dn d c.now c.ns p.d w _ HR.n (aB _ _ _)).mono ?_;rintro e w1 ⟨hb,hf⟩;obtain⟨HA0,HA1,hbx⟩:=bS hb;have Bk:=aa HA0;have Bp:=aa HA1;replace HB:=upB HB hbx;clear hb hbx HA0 HA1;rcases hf with ⟨hh,n,va,vl,vc,hx,hn,rfl,z0,z1,hvr⟩|⟨hh,rfl⟩;rotate_left
 ·exact qu
 have HX1:=aa hx;have HN1:=aa hn;have HT1:=aa hvr;clear hx hn hh z0 z1 hvr;have hz:(p.z=⟨#[]⟩\/p.z=n.z)\/¬(p.z=⟨#[]⟩\/p.z=n.z):=Classical.em _;rcases hz with hz|hz;rotate_left
 ·have q1:=aZ (fun e=>hz (.inl e));have q2:=bz (fun e=>hz (.inr e));have HC:=aa hz;clear hz;obtain⟨k0,k1,k2,k3,k4,k5⟩:=cs6 Bk;obtain⟨p0,p1,p2,p3,p4,p5⟩:=cs6 Bp;have ltp_1:=ae Bp.out;go_wp2;go_ret;refine al.f (fun ⟨i,m,e1,e2,e3,_⟩=>?_) (HB.alloc HB.size _);obtain⟨_,rfl⟩:=HN.inj e1 HX1.out (e2.trans HN1.symm);exact HC.out e3
 have HC:=aa hz;have hq:(p.z.toList.isEmpty=true)\/(p.z.toList.isEmpty=false/\(p.z.toList==n.z.toList)=true):=by
  by_cases e:p.z=⟨#[]⟩
  ·exact .inl (cH e)
  ·exact .inr ⟨aZ e,ba (HC.resolve_left e)⟩
 clear hz;rcases hq with hq|⟨hq,hq2⟩
 ·exact ry
 ·exact ry

theorem ox (d:Ad) (c:Cl) (p:Pd) (pa:Option Addr) (pl pc:Nat) (w:World) (hr:aL w d c.raw) (hn:aG Nd.n c.ns) (hx:aG Xd.n c.xs) (hv:aG Vd.n c.vs) (hne:∀(j:Nat) v,c.vs[j]?=some v->¬v.n=⟨#[]⟩) (hp:ar w pa pl pc p.zs):
  Calls Tryz.prog 153 #[.agg #[.slice d.a1 d.l1 d.c1,.slice d.a2 d.l2 d.c2,.slice d.a3 d.l3 d.c3,.slice d.a4 d.l4 d.c4,.slice d.a5 d.l5 d.c5,.int .i64 c.now],.agg #[.string p.n,.int .i64 p.c,.string p.z,.slice pa pl pc,.string p.d,.int .i64 p.p]] w (al (rK c p) w):=by
 have HR:=aa hr;have HN:=aa hn;obtain⟨HX,HV,HNE⟩:=eR;have HP:=aa hp;have hlc:=sC hp.2.1 hp.2.2.1;have hzl:=hp.1;have HB:=aa (sB w.heap.size w);clear hr hn hx hv hne hp;go_enter Tryz.func153,Tryz.ntmps153;go_wp2_with fail;refine (dn d c.now c.ns p.d w _ HR.n (aB _ _ _)).mono ?_;rintro e w1 ⟨hb,hf⟩;obtain⟨HA0,HA1,hbx⟩:=bS hb;have Bk:=aa HA0;have Bp:=aa HA1;replace HB:=upB HB hbx;clear hb hbx HA0 HA1;rcases hf with ⟨hh,n,va,vl,vc,hx,hn,rfl,z0,z1,hvr⟩|⟨hh,rfl⟩;rotate_left
 ·exact qu
 have HX1:=aa hx;have HN1:=aa hn;have HT1:=aa hvr;clear hx hn hh z0 z1 hvr;cases hd:n.d;rotate_left
 ·obtain⟨k0,k1,k2,k3,k4,k5⟩:=cs6 Bk;obtain⟨p0,p1,p2,p3,p4,p5⟩:=cs6 Bp;have ltp_1:=ae Bp.out;go_wp2;go_ret;refine al.f (fun ⟨i,m,e1,e2,e3,_⟩=>?_) (HB.alloc HB.size _);obtain⟨_,rfl⟩:=HN.inj e1 HX1.out (e2.trans HN1.symm);rw[hd] at e3;cases e3
 have HC:=aa hd;clear hd;obtain⟨k0,k1,k2,k3,k4,k5⟩:=cs6 Bk;obtain⟨p0,p1,p2,p3,p4,p5⟩:=cs6 Bp;have ltp_1:=ae Bp.out;go_wp2;go_loopw [27] (fun i wr=> ∃k:Nat,k<=pl/\i=.int .i64 k/\Hid (∀(j:Nat) t,j<k->p.zs[j]?=some t->∃v,bm c t v/\InL n.zs v.n)/\Hid (Below w.heap.size w wr)/\Hid (wr.heap[w.heap.size]?=some (.cells (clv d c.now) 36 (0,0)))/\Hid (wr.heap[w1.heap.size]?=some (.cells #[.string n.n,.string n.z,.int .i64 n.c,.int .i64 n.s,.int .i64 n.u,.bool false,.slice va vl vc] 56 (0,0)))) (fun i _=>pl - (intOf i).toNat);case atStart=>exact⟨0,by omega,rfl,fun _ _ h=>absurd h af,HB.alloc HB.size _,(sR _ _ _ (ae Bk.out)).trans Bk.out,sH⟩
 case round=>
  obtain⟨k,hk,rfl,HQ,HB,Bk,Bn⟩:=hrel;by_cases hlt:k<pl
  ·obtain⟨b,o,t,rfl,hb,hx,hc,hsz⟩:=(HP.below HB.out).at hlt;have HXt:=aa hx;clear hx hsz;obtain⟨k0,k1,k2,k3,k4,k5⟩:=cs6 Bk;obtain⟨n0,n1,n2,n3,n4,n5,n6⟩:=cs7 Bn;go_wp2_with fail;refine (lu d c t w _ HR.out HB.out HX.out HV.out HNE.out).mono ?_;rintro e w2 ⟨hb2,hf⟩;clear k0 k1 k2 k3 k4 k5 n0 n1 n2 n3 n4 n5 n6;replace Bk:=upK Bk hb2;replace Bn:=upK Bn hb2;replace HB:=upB HB hb2;clear hb2;clear hb hc;rcases hf with ⟨v,xa,xl,xc,hbd,rfl,z0,z2,hxr⟩|⟨hbd,rfl⟩;rotate_left
   ·exact nK
   have HD:=aa hbd;clear hbd hxr z0 z2;obtain⟨k0,k1,k2,k3,k4,k5⟩:=cs6 Bk;obtain⟨n0,n1,n2,n3,n4,n5,n6⟩:=cs7 Bn;have ltn_1:=ae Bn.out;go_wp2_with fail;refine (bX va vl vc n.zs v.n _ (HT1.below (HB.trans ((aj _ _).mono HB.size)))).mono ?_;rintro e w3 ⟨r,rfl,hi,hb3⟩;clear k0 k1 k2 k3 k4 k5 n0 n1 n2 n3 n4 n5 n6 ltn_1;obtain⟨HA0,hbx⟩:=aJ hb3;replace Bk:=upK Bk hbx;replace Bn:=upK Bn hbx;replace HB:=upB HB hbx;clear hb3 hbx HA0;have HI:=aa hi;clear hi;cases r
   ·go_wp2;go_ret;refine al.f (fun ⟨i,m,e1,e2,e3,e4⟩=>?_) HB.out;obtain⟨_,rfl⟩:=HN.inj e1 HX1.out (e2.trans HN1.symm);obtain⟨v',e5,e6⟩:=e4 k t HXt.out;obtain rfl:=bm.inj HX.out HV.out HD.out e5;have:=HI.2 e6;cases this
   ·go_wp2_with fail;refine⟨⟨k+1,by omega,by go_num,fun j s hj hs=>?_,HB.out,Bk.out,Bn.out⟩,by simp[intOf];omega⟩;by_cases e:j=k
    ·subst e;rw[HXt.out] at hs;obtain rfl:=sx hs;exact⟨v,HD.out,HI.1 bA⟩
    ·exact HQ.out j s af hs
  ·exact nG

theorem oD (d:Ad) (c:Cl) (n:Nd) (pa:Option Addr) (pl pc:Nat) (w:World) (hr:aL w d c.raw) (hv:aG Vd.n c.vs) (hp:ar w pa pl pc n.zs):
  Calls Tryz.prog 152 #[.agg #[.slice d.a1 d.l1 d.c1,.slice d.a2 d.l2 d.c2,.slice d.a3 d.l3 d.c3,.slice d.a4 d.l4 d.c4,.slice d.a5 d.l5 d.c5,.int .i64 c.now],.agg #[.string n.n,.string n.z,.int .i64 n.c,.int .i64 n.s,.int .i64 n.u,.bool n.d,.slice pa pl pc]] w (al (mi c n) w):=by
 have HR:=aa hr;have HV:=aa hv;have HP:=aa hp;have hlc:=sC hp.2.1 hp.2.2.1;have hzl:=hp.1;clear hr hv hp;go_enter Tryz.func152,Tryz.ntmps152;go_wp2;go_loopw [12] (fun i wr=> ∃k:Nat,k<=pl/\i=.int .i64 k/\Hid (∀(j:Nat) t,j<k->n.zs[j]?=some t->∃(i:Nat) (v:Vd),c.vs[i]?=some v/\v.n=t/\(n.d=true\/InL v.zs n.n))/\Hid (Below w.heap.size w wr)/\Hid (wr.heap[w.heap.size]?=some (.cells (clv d c.now) 36 (0,0)))/\Hid (wr.heap[w.heap.size+1]?=some (.cells (nov n pa pl pc) 56 (0,0)))) (fun i _=>pl - (intOf i).toNat);case atStart=>exact⟨0,by omega,rfl,fun _ _ h=>absurd h af,aB _ _ _,cY _ _ _,bB _ _ _⟩
 case round=>
  obtain⟨k,hk,rfl,HQ,HB,Bk,Bn⟩:=hrel;by_cases hlt:k<pl
  ·obtain⟨b,o,t,rfl,hb,hx,hc,hsz⟩:=(HP.below HB.out).at hlt;have HXt:=aa hx;clear hx hsz;obtain⟨k0,k1,k2,k3,k4,k5⟩:=cs6 Bk;obtain⟨n0,n1,n2,n3,n4,n5,n6⟩:=cs7 Bn;go_wp2_with fail;refine (cN d c.now c.vs t w _ HR.v HB.out).mono ?_;rintro e w2 ⟨hb2,hf⟩;clear k0 k1 k2 k3 k4 k5 n0 n1 n2 n3 n4 n5 n6;replace Bk:=upK Bk hb2;replace Bn:=upK Bn hb2;replace HB:=upB HB hb2;clear hb2;clear hb hc;rcases hf with ⟨hh,v,va,vl,vc,hx,hn,rfl,z0,z2,z3,z5,hvr⟩|⟨hh,rfl⟩;rotate_left
   ·have HH:=aa hh;clear hh;obtain⟨k0,k1,k2,k3,k4,k5⟩:=cs6 Bk;obtain⟨n0,n1,n2,n3,n4,n5,n6⟩:=cs7 Bn;have ltn_1:=ae Bn.out;go_wp2;go_ret;refine al.f (fun h=>?_) (HB.alloc HB.size _);obtain⟨i,v,e1,e2,_⟩:=h k t HXt.out;have:=(cx HV.out e1 e2).2;rw[HH.out] at this;cases this
   have HXv:=aa hx;have HNv:=aa hn;have HTv:=aa hvr;clear hx hn hh z0 z2 z3 z5 hvr;rcases tE n.d with hd|hd
   ·have HD:=aa hd;clear hd;obtain⟨k0,k1,k2,k3,k4,k5⟩:=cs6 Bk;obtain⟨n0,n1,n2,n3,n4,-,n6⟩:=cs7 Bn;have ltn_1:=ae Bn.out;have n5:=(ay Bn.out 5).trans (congrArg (fun z=>some (Value.bool z)) HD.out);go_wp2_with fail;refine⟨⟨k+1,by omega,by go_num,fun j s hj hs=>?_,(HB.alloc HB.size _),(sR _ _ _ (ae Bk.out)).trans Bk.out,(sR _ _ _ (ae Bn.out)).trans Bn.out⟩,by simp[intOf];omega⟩;by_cases e:j=k
    ·subst e;rw[HXt.out] at hs;obtain rfl:=sx hs;exact⟨_,v,HXv.out,HNv.out,.inl HD.out⟩
    ·exact HQ.out j s af hs
   ·have HD:=aa hd;clear hd;obtain⟨k0,k1,k2,k3,k4,k5⟩:=cs6 Bk;obtain⟨n0,n1,n2,n3,n4,-,n6⟩:=cs7 Bn;have ltn_1:=ae Bn.out;have n5:=(ay Bn.out 5).trans (congrArg (fun z=>some (Value.bool z)) HD.out);go_wp2_with fail;refine (bX va vl vc v.zs n.n _ (HTv.below (HB.trans ((aj _ _).mono HB.size)))).mono ?_;rintro e w3 ⟨r,rfl,hi,hb3⟩;clear k0 k1 k2 k3 k4 k5 n0 n1 n2 n3 n4 n6 ltn_1 n5;obtain⟨HA0,hbx⟩:=aJ hb3;replace Bk:=upK Bk hbx;replace Bn:=upK Bn hbx;have Bv:=aa HA0;replace HB:=upB HB hbx;clear hb3 hbx HA0;have HI:=aa hi;clear hi;cases r
    ·go_wp2;go_ret;refine al.f (fun h=>?_) HB.out;obtain⟨i,v',e1,e2,e3⟩:=h k t HXt.out;obtain⟨_,rfl⟩:=HV.inj e1 HXv.out (e2.trans HNv.symm);rcases e3 with e3|e3
     ·rw[HD.out] at e3;cases e3
     ·have:=HI.2 e3;cases this
    ·go_wp2_with fail;refine⟨⟨k+1,by omega,by go_num,fun j s hj hs=>?_,HB.out,Bk.out,Bn.out⟩,by simp[intOf];omega⟩;by_cases e:j=k
     ·subst e;rw[HXt.out] at hs;obtain rfl:=sx hs;exact⟨_,v,HXv.out,HNv.out,.inr (HI.1 bA)⟩
     ·exact HQ.out j s af hs
  ·exact pX

open Classical in
noncomputable def onOf (t:ByteArray):List Vd->Int
 | []=>0
 | v ::vs=>(if InL v.zs t then 1 else 0)+onOf t vs
theorem eY (t:ByteArray):∀vs us:List Vd,onOf t (vs++us)=onOf t vs+onOf t us
 | [],us=>by simp[onOf]
 | v ::vs,us=>by simp[onOf,eY t vs];omega
open Classical in
theorem eK {t:ByteArray} {vs:List Vd} {k:Nat} {v:Vd} (h:vs[k]?=some v):onOf t (vs.take (k+1))=onOf t (vs.take k)+(if InL v.zs t then 1 else 0):=by
 rw[tc,h,eY];simp[onOf]

theorem fK (d:Ad) (now:Int) (vs:List Vd) (t:ByteArray) (w:World) (hr:aA w d.a3 d.l3 d.c3 8 (vs.map vdF)) (hl:vs.length<=8):
  Calls Tryz.prog 151 #[.agg #[.slice d.a1 d.l1 d.c1,.slice d.a2 d.l2 d.c2,.slice d.a3 d.l3 d.c3,.slice d.a4 d.l4 d.c4,.slice d.a5 d.l5 d.c5,.int .i64 now],.string t] w fun e w'=>e=.returned (.int .i64 (onOf t vs))/\Below w.heap.size w w':=by
 obtain⟨a1,l1,y1,a2,l2,y2,a3,l3,y3,a4,l4,y4,a5,l5,y5⟩:=d;dsimp only at hr ⊢;have HR:=aa hr;have hxl:vs.length=l3:=de
 clear hr;go_enter Tryz.func151,Tryz.ntmps151;go_wp2;go_loopw [5,11] (fun q i wr=> ∃(k:Nat) (s:Int),k<=l3/\q=.int .i64 s/\i=.int .i64 k/\Hid (s=onOf t (vs.take k))/\0<=s/\s<=k/\Hid (Below w.heap.size w wr)) (fun _ i _=>l3 - (intOf i).toNat);case atStart=>exact⟨0,0,by omega,rfl,rfl,rfl,by omega,by omega,aj _ _⟩
 case round=>
  obtain⟨k,s,hk,rfl,rfl,HS,hs0,hs1,HB⟩:=hrel;by_cases hlt:k<l3
  ·obtain⟨b,o,v,rfl,hb,hx,hat⟩:=bk (HR.below HB.out) hlt;obtain⟨va,vl,vc,hvr,z0,z2,z3,z5,c0,c1,c2,c3,c4,c5,c6,c7⟩:=aE hat;have HX:=aa hx;have HT:=aa hvr;clear hat hx z0 z2 z3 z5 hvr;go_wp2_with fail;refine (bX va vl vc v.zs t _ (HT.below (aj _ _))).mono ?_;rintro e w1 ⟨r,rfl,hi,hb2⟩;obtain⟨HA0,hbx⟩:=aJ hb2;replace HB:=upB HB hbx;clear hb2 hbx HA0;have HI:=aa hi;clear hi hb c0 c1 c2 c3 c4 c5 c6 c7;cases r
   ·go_wp2;refine⟨⟨k+1,s,by omega,rfl,by go_num,?_,by omega,by omega,HB.out⟩,by simp[intOf];omega⟩;exact nS
   ·go_wp2;refine⟨⟨k+1,s+1,by omega,by go_num,by go_num,?_,by omega,by omega,HB.out⟩,by simp[intOf];omega⟩;show _=_;rw[eK HX.out,if_pos (HI.1 bA),<-HS.out]
  ·obtain rfl:l3=k:=af
   exact nj

def PQ1 (c:Cl) (p:Pd):Prop:=(∀(j:Nat) t,p.zs[j]?=some t->hit Xd.n c.xs t=true)/\(p.d=⟨#[]⟩\/qR c p)
def PQ2 (c:Cl) (n:Nd):Prop:=cpuOf n.n c.ps<=n.c
def PQ3 (c:Cl) (v:Vd):Prop:=v.x=true->¬v.m=⟨#[]⟩->lz c v.m
def gU (c:Cl):Prop:=(∀(j:Nat) z,c.ps[j]?=some z->PQ1 c z)/\(∀(j:Nat) z,c.ns[j]?=some z->PQ2 c z)/\(∀(j:Nat) z,c.vs[j]?=some z->PQ3 c z)

theorem jl (d:Ad) (c:Cl) (w:World) (hr:aL w d c.raw) (hn:aG Nd.n c.ns) (hx:aG Xd.n c.xs) (hv:aG Vd.n c.vs) (hne:∀(j:Nat) v,c.vs[j]?=some v->¬v.n=⟨#[]⟩) (hps8:c.ps.length<=8) (hpc:∀(j:Nat) p,c.ps[j]?=some p->0<=p.c/\p.c<=1000000) (hG:ens w):
  Calls Tryz.prog 128 #[.agg #[.slice d.a1 d.l1 d.c1,.slice d.a2 d.l2 d.c2,.slice d.a3 d.l3 d.c3,.slice d.a4 d.l4 d.c4,.slice d.a5 d.l5 d.c5,.int .i64 c.now]] w (al (gU c) w):=by
 obtain⟨a1,l1,y1,a2,l2,y2,a3,l3,y3,a4,l4,y4,a5,l5,y5⟩:=d;dsimp only;obtain⟨HR,hl1,hm1,hl3⟩:=mN;have hm3:l3<=9223372036854775807:=sC hr.v.2.1 hr.v.2.2.1;obtain⟨hl5,hm5⟩:=iI;clear hr;have HE:=aa hG;have HNR:=aa hn;have HXR:=aa hx;have HVR:=aa hv;have HNE:=aa hne;have HL5:=aa hps8;have HPC:=aa hpc;clear hn hx hv hne hps8 hpc hG;go_enter Tryz.func128,Tryz.ntmps128;go_wp2;go_loopw [12] (fun i wr=> ∃k:Nat,k<=l5/\i=.int .i64 k/\Hid (∀(j:Nat) z,j<k->c.ps[j]?=some z->PQ1 c z)/\Hid (Below w.heap.size w wr)/\Hid (wr.heap[w.heap.size]?=some (.cells (clo6 a1 l1 y1 a2 l2 y2 a3 l3 y3 a4 l4 y4 a5 l5 y5 c.now) 36 (0,0)))) (fun i _=>l5 - (intOf i).toNat);case atStart=>exact⟨0,by omega,rfl,fun _ _ h=>absurd h af,aj _ _,sH⟩
 case round=>
  obtain⟨k,hk,rfl,HQ,HB,Bk⟩:=hrel;by_cases hlt:k<l5
  ·obtain⟨b,o,p,rfl,hb,hx,hat⟩:=bR (HR.p.below HB.out) hlt;obtain⟨va,vl,vc,hvr,z0,z2,z4,c0,c1,c2,c3,c4,c5⟩:=aO hat;have HXp:=aa hx;have HTp:=aa hvr;clear hat hx z0 z2 z4 hvr;obtain⟨k0,k1,k2,k3,k4,k5⟩:=cs6 Bk;have ltk_0:=ae Bk.out;go_wp2_with fail;refine (fN ⟨a1,l1,y1,a2,l2,y2,a3,l3,y3,a4,l4,y4,(some ⟨b,o,none⟩),l5,y5⟩ c.now c.xs va vl vc p.zs _ (HR.x.below (HB.trans ((aj _ _).mono HB.size))) (HTp.below (aj _ _)) (HE.below (HB.trans ((aj _ _).mono HB.size)))).mono ?_;rintro e w1 ⟨hb2,hf⟩;clear k0 k1 k2 k3 k4 k5 ltk_0;obtain⟨HA0,hbx⟩:=aJ hb2;replace Bk:=upK Bk hbx;have Br:=aa HA0;replace HTp:=aa (HTp.below hbx);replace HB:=upB HB hbx;clear hb2 hbx HA0;clear hb c0 c1 c2 c3 c4 c5;rcases hf with ⟨hh,rfl⟩|⟨hh,T,q,rfl⟩;rotate_left
   ·have HH:=aa hh;clear hh;obtain⟨k0,k1,k2,k3,k4,k5⟩:=cs6 Bk;obtain⟨r0,r1,r2,r3,r4,r5⟩:=cs6 Br;go_wp2;go_ret;exact al.f (fun h=>HH.out (h.1 k p HXp.out).1) HB.out
   have HH:=aa hh;clear hh;by_cases he:p.d=⟨#[]⟩
   ·have hq:=cH he;have HEm:=aa he;clear he;obtain⟨k0,k1,k2,k3,k4,k5⟩:=cs6 Bk;obtain⟨r0,r1,r2,r3,r4,r5⟩:=cs6 Br;go_wp2_with fail;refine⟨⟨k+1,by omega,by go_num,fun j z hj hz=>?_,HB.out,Bk.out⟩,by simp[intOf];omega⟩;by_cases e:j=k
    ·subst e;rw[HXp.out] at hz;exact jO
    ·exact HQ.out j z af hz
   ·have hq:=aZ he;have HEm:=aa he;clear he;obtain⟨k0,k1,k2,k3,k4,k5⟩:=cs6 Bk;obtain⟨r0,r1,r2,r3,r4,r5⟩:=cs6 Br;go_wp2_with fail;refine (lW ⟨a1,l1,y1,a2,l2,y2,a3,l3,y3,a4,l4,y4,(some ⟨b,o,none⟩),l5,y5⟩ c p va vl vc _ (HR.below HB.out) HNR.out HXR.out HVR.out HNE.out HTp.out).mono ?_;rintro e w2 ⟨r,rfl,hi,hb3⟩;clear k0 k1 k2 k3 k4 k5 r0 r1 r2 r3 r4 r5;replace Bk:=upK Bk hb3;replace Br:=upK Br hb3;replace HTp:=aa (HTp.below hb3);replace HB:=upB HB hb3;clear hb3;have HI:=aa hi;clear hi;cases r
    ·go_wp2;go_ret;refine al.f (fun h=>?_) HB.out;rcases (h.1 k p HXp.out).2 with h2|h2
     ·exact HEm.out h2
     ·have:=HI.2 h2;cases this
    ·go_wp2_with fail;refine⟨⟨k+1,by omega,by go_num,fun j z hj hz=>?_,HB.out,Bk.out⟩,by simp[intOf];omega⟩;by_cases e:j=k
     ·subst e;rw[HXp.out] at hz;exact mY
     ·exact HQ.out j z af hz
  ·obtain rfl:l5=k:=af
   have HQ1:Hid (∀(j:Nat) z,c.ps[j]?=some z->PQ1 c z):=fun j z hz=>HQ.out j z bI hz;clear HQ;have kc:=ck0 Bk;go_wp2;go_loopw [36] (fun i wr=> ∃k:Nat,k<=l1/\i=.int .i64 k/\Hid (∀(j:Nat) z,j<k->c.ns[j]?=some z->PQ2 c z)/\Hid (Below w.heap.size w wr)/\Hid (wr.heap[w.heap.size]?=some (.cells (clo6 a1 l1 y1 a2 l2 y2 a3 l3 y3 a4 l4 y4 a5 l5 y5 c.now) 36 (0,0)))) (fun i _=>l1 - (intOf i).toNat);case atStart=>exact⟨0,by omega,rfl,fun _ _ h=>absurd h af,HB.out,Bk.out⟩
   case round=>
    obtain⟨k,hk,rfl,HQ,HB,Bk⟩:=hrel;by_cases hlt:k<l1
    ·obtain⟨b,o,n,rfl,hb,hx,hat⟩:=bq (HR.n.below HB.out) hlt;obtain⟨va,vl,vc,hvr,z0,z1,c0,c1,c2,c3,c4,c5,c6⟩:=aK hat;have HXn:=aa hx;clear hat hx z0 z1 hvr;obtain⟨GK,GR,HW⟩:=pQ;obtain⟨k0,k1,k2,k3,k4,k5⟩:=sl6 GK;obtain⟨r0,r1,r2,r3,r4,r5⟩:=sl6 GR;have hne0:=Wd.ne (wr.alloc (.cells (nov n va vl vc) 56));have HC:=aa (fun q:Wd (wr.alloc (.cells (nov n va vl vc) 56))=>gJ ⟨(some ⟨b,o,none⟩),l1,y1,a2,l2,y2,a3,l3,y3,a4,l4,y4,a5,l5,y5⟩ c.now c.ps n.n q.w (HR.p.below (HW.trans (q.b.mono HW.size))) HL5.out HPC.out);go_wp2_with fail;refine ah an an ?_;repeat (go_big_quiet_step (first|(go_at_call 149;exact Calls.wide (HC.out _))|fail))
     refine wpQuiet_nil ?_;rintro _ ⟨q,rfl⟩;have HB2:=upB HW q.b;have Bk2:=upK GK q.b;clear HC hne0 k0 k1 k2 k3 k4 k5 r0 r1 r2 r3 r4 r5 c0 c1 c2 c3 c4 c5 c6 hb HB Bk HW GK GR;have HB:=HB2;have Bk:=Bk2;clear HB2 Bk2;by_cases hq:cpuOf n.n c.ps<=n.c
     ·exact qo
     ·have HQ2:=aa hq;go_wp2;go_ret;exact al.f (fun h=>by have h1:cpuOf n.n c.ps<=n.c:=(h.2.1 k n HXn.out);have h2:=HQ2.out;omega) HB.out
    ·obtain rfl:l1=k:=af
     have HQ2:Hid (∀(j:Nat) z,c.ns[j]?=some z->PQ2 c z):=fun j z hz=>HQ.out j z bI hz;clear HQ;have kc:=ck2 Bk;go_wp2;go_loopw [51] (fun i wr=> ∃k:Nat,k<=l3/\i=.int .i64 k/\Hid (∀(j:Nat) z,j<k->c.vs[j]?=some z->PQ3 c z)/\Hid (Below w.heap.size w wr)/\Hid (wr.heap[w.heap.size]?=some (.cells (clo6 a1 l1 y1 a2 l2 y2 a3 l3 y3 a4 l4 y4 a5 l5 y5 c.now) 36 (0,0)))) (fun i _=>l3 - (intOf i).toNat);case atStart=>exact⟨0,by omega,rfl,fun _ _ h=>absurd h af,HB.out,Bk.out⟩
     case round=>
      obtain⟨k,hk,rfl,HQ,HB,Bk⟩:=hrel;by_cases hlt:k<l3
      ·obtain⟨b,o,v,rfl,hb,hx,hat⟩:=bk (HR.v.below HB.out) hlt;obtain⟨va,vl,vc,hvr,z0,z2,z3,z5,c0,c1,c2,c3,c4,c5,c6,c7⟩:=aE hat;have HXv:=aa hx;clear hat hx z0 z2 z3 z5 hvr;have hcase:(v.x=false\/v.m=⟨#[]⟩)\/(v.x=true/\¬v.m=⟨#[]⟩):=by
        rcases tE v.x with h|h
        ·by_cases e:v.m=⟨#[]⟩
         ·exact .inl (.inr e)
         ·exact .inr ⟨h,e⟩
        ·exact .inl (.inl h)
       rcases hcase with hcase|⟨hs,he⟩
       ·have HCs:=aa hcase;rcases hcase with hs|he
        ·exact nv
        ·have hq:=cH he;clear he;rcases tE v.x with hs|hs
         ·exact nv
         ·exact nv
       ·have hq:=aZ he;have HEm:=aa he;have HSi:=aa hs;rw[hs] at c4;clear he hs;obtain⟨k0,k1,k2,k3,k4,k5⟩:=cs6 Bk;have ltk_0:=ae Bk.out;go_wp2_with fail;refine (oA ⟨a1,l1,y1,a2,l2,y2,(some ⟨b,o,none⟩),l3,y3,a4,l4,y4,a5,l5,y5⟩ c v.m _ (HR.below (HB.trans ((aj _ _).mono HB.size)))).mono ?_;rintro e w2 ⟨r,rfl,hi,hb3⟩;clear k0 k1 k2 k3 k4 k5 ltk_0;obtain⟨HA0,hbx⟩:=aJ hb3;replace Bk:=upK Bk hbx;have Br:=aa HA0;replace HB:=upB HB hbx;clear hb3 hbx HA0;have HI:=aa hi;clear hi hb c0 c1 c2 c3 c4 c5 c6 c7;cases r
        ·go_wp2;go_ret;exact al.f (fun h=>by have:=HI.2 ((h.2.2 k v HXv.out) HSi.out HEm.out);cases this) HB.out
        ·go_wp2_with fail;refine⟨⟨k+1,by omega,by go_num,fun j z hj hz=>?_,HB.out,Bk.out⟩,by simp[intOf];omega⟩;by_cases e:j=k
         ·subst e;rw[HXv.out] at hz;obtain rfl:=sx hz;exact fun _ _=>HI.1 bA
         ·exact HQ.out j z af hz
      ·obtain rfl:l3=k:=af
       have HQ3:Hid (∀(j:Nat) z,c.vs[j]?=some z->PQ3 c z):=fun j z hz=>HQ.out j z bI hz;clear HQ;go_wp2;go_ret;exact al.t ⟨HQ1.out,HQ2.out,HQ3.out⟩ HB.out

def AQ1 (c:Cl) (v:Vd):Prop:=∀(j:Nat) t,v.zs[j]?=some t->∃(i:Nat) (n:Nd),c.ns[i]?=some n/\n.n=t/\n.z=v.z
def AQ2 (c:Cl) (n:Nd):Prop:=onOf n.n c.vs<=n.s
def gv (c:Cl):Prop:=(∀(j:Nat) z,c.vs[j]?=some z->AQ1 c z)/\(∀(j:Nat) z,c.ns[j]?=some z->AQ2 c z)

theorem fT (d:Ad) (c:Cl) (w:World) (hr:aL w d c.raw) (hn:aG Nd.n c.ns) (hvs8:c.vs.length<=8):
  Calls Tryz.prog 129 #[.agg #[.slice d.a1 d.l1 d.c1,.slice d.a2 d.l2 d.c2,.slice d.a3 d.l3 d.c3,.slice d.a4 d.l4 d.c4,.slice d.a5 d.l5 d.c5,.int .i64 c.now]] w (al (gv c) w):=by
 obtain⟨a1,l1,y1,a2,l2,y2,a3,l3,y3,a4,l4,y4,a5,l5,y5⟩:=d;dsimp only;obtain⟨HR,hl1,hm1,hl3⟩:=mN;have hm3:l3<=9223372036854775807:=sC hr.v.2.1 hr.v.2.2.1;clear hr;have HNR:=aa hn;have HL3:=aa hvs8;clear hn hvs8;go_enter Tryz.func129,Tryz.ntmps129;go_wp2;go_loopw [14] (fun i wr=> ∃k:Nat,k<=l3/\i=.int .i64 k/\Hid (∀(j:Nat) z,j<k->c.vs[j]?=some z->AQ1 c z)/\Hid (Below w.heap.size w wr)/\Hid (wr.heap[w.heap.size]?=some (.cells (clo6 a1 l1 y1 a2 l2 y2 a3 l3 y3 a4 l4 y4 a5 l5 y5 c.now) 36 (0,0)))) (fun i _=>l3 - (intOf i).toNat);case atStart=>exact⟨0,by omega,rfl,fun _ _ h=>absurd h af,aj _ _,sH⟩
 case round=>
  obtain⟨k,hk,rfl,HQ,HB,Bk⟩:=hrel;by_cases hlt:k<l3
  ·obtain⟨b,o,v,rfl,hb,hx,hat⟩:=bk (HR.v.below HB.out) hlt;obtain⟨va,vl,vc,hvr,z0,z2,z3,z5,c0,c1,c2,c3,c4,c5,c6,c7⟩:=aE hat;have HXv:=aa hx;have HTv:=aa hvr;clear hat hx z0 z2 z3 z5 hvr;have hvl:=HTv.1;have hvc:=sC HTv.2.1 HTv.2.2.1;have HVL:=aa hvl;clear hvl;have KV:=aa ((sR wr (.cells (vov v va vl vc) 101) _ (ae Bk.out)).trans Bk.out);obtain⟨GV,BV⟩:=pH;have TV:=aa (HTv.below (aj wr (.cells (vov v va vl vc) 101)));obtain⟨W,hW⟩:∃W,W=wr.alloc (.cells (vov v va vl vc) 101):=⟨_,rfl⟩;obtain⟨gb,hgb⟩:∃gb,gb=wr.heap.size:=⟨_,rfl⟩;rw[<-hW] at KV GV BV TV;rw[<-hgb] at GV;go_wp2;rw[<-hW,<-hgb];clear hW hgb HB Bk HTv c0 c1 c2 c3 c4 c5 c6 c7 hb;go_loopw [21] (fun i wr=> ∃kq:Nat,kq<=vl/\i=.int .i64 kq/\Hid (∀(j:Nat) t,j<kq->v.zs[j]?=some t->∃(i:Nat) (n:Nd),c.ns[i]?=some n/\n.n=t/\n.z=v.z)/\Hid (Below W.heap.size W wr)) (fun i _=>vl - (intOf i).toNat);case atStart=>exact⟨0,by omega,rfl,fun _ _ h=>absurd h af,sB _ _⟩
   case round=>
    obtain⟨kq,hkq,rfl,HQ2,HBW⟩:=hrel;obtain⟨HB,Bk⟩:=iD;have Bv:=upK GV HBW.out;by_cases hlt2:kq<vl
    ·obtain⟨b2,o2,t,rfl,hb,hx,hc,hsz⟩:=(TV.below HBW.out).at hlt2;have HXt:=aa hx;clear hx hsz;obtain⟨k0,k1,k2,k3,k4,k5⟩:=cs6 Bk;obtain⟨v0,v1,v2,v3,v4,v5,v6,v7⟩:=cs8 Bv;go_wp2_with fail;refine (dn ⟨a1,l1,y1,a2,l2,y2,(some ⟨b,o,none⟩),l3,y3,a4,l4,y4,a5,l5,y5⟩ c.now c.ns t w _ HR.n HB.out).mono ?_;rintro e w1 ⟨hb2,hf⟩;have HBW1:=upB HBW hb2;clear k0 k1 k2 k3 k4 k5 v0 v1 v2 v3 v4 v5 v6 v7;replace Bk:=upK Bk hb2;replace Bv:=upK Bv hb2;replace HB:=upB HB hb2;clear hb2;clear hb hc;rcases hf with ⟨hh,m,ma,ml,mc,hx,hn,rfl,z0,z1,hmr⟩|⟨hh,rfl⟩;rotate_left
     ·have HH:=aa hh;clear hh;obtain⟨k0,k1,k2,k3,k4,k5⟩:=cs6 Bk;obtain⟨v0,v1,v2,v3,v4,v5,v6,v7⟩:=cs8 Bv;have ltv_1:=ae Bv.out;go_wp2;go_ret;refine al.f (fun h=>?_) (HB.alloc HB.size _);obtain⟨i,m,e1,e2,_⟩:=(h.1 k v HXv.out) kq t HXt.out;have:=(cx HNR.out e1 e2).2;rw[HH.out] at this;cases this
     have HXm:=aa hx;have HNm:=aa hn;clear hx hn hh z0 z1 hmr;by_cases hz:m.z=v.z
     ·have q1:=ba hz;have HZ:=aa hz;clear hz;obtain⟨k0,k1,k2,k3,k4,k5⟩:=cs6 Bk;obtain⟨v0,v1,v2,v3,v4,v5,v6,v7⟩:=cs8 Bv;have ltv_1:=ae Bv.out;go_wp2_with fail;refine⟨⟨kq+1,by omega,by go_num,fun j s hj hs=>?_,HBW1.alloc HBW1.size _⟩,by simp[intOf];omega⟩;by_cases e:j=kq
      ·subst e;rw[HXt.out] at hs;obtain rfl:=sx hs;exact⟨_,m,HXm.out,HNm.out,HZ.out⟩
      ·exact HQ2.out j s af hs
     ·have q1:=bz hz;have HZ:=aa hz;clear hz;obtain⟨k0,k1,k2,k3,k4,k5⟩:=cs6 Bk;obtain⟨v0,v1,v2,v3,v4,v5,v6,v7⟩:=cs8 Bv;have ltv_1:=ae Bv.out;go_wp2;go_ret;refine al.f (fun h=>?_) (HB.alloc HB.size _);obtain⟨i,m2,e1,e2,e3⟩:=(h.1 k v HXv.out) kq t HXt.out;obtain⟨_,rfl⟩:=HNR.inj e1 HXm.out (e2.trans HNm.symm);exact HZ.out e3
    ·exact qD
  ·obtain rfl:l3=k:=af
   have HQ1:Hid (∀(j:Nat) z,c.vs[j]?=some z->AQ1 c z):=fun j z hz=>HQ.out j z bI hz;clear HQ;have kc:=ck0 Bk;go_wp2;go_loopw [45] (fun i wr=> ∃k:Nat,k<=l1/\i=.int .i64 k/\Hid (∀(j:Nat) z,j<k->c.ns[j]?=some z->AQ2 c z)/\Hid (Below w.heap.size w wr)/\Hid (wr.heap[w.heap.size]?=some (.cells (clo6 a1 l1 y1 a2 l2 y2 a3 l3 y3 a4 l4 y4 a5 l5 y5 c.now) 36 (0,0)))) (fun i _=>l1 - (intOf i).toNat);case atStart=>exact⟨0,by omega,rfl,fun _ _ h=>absurd h af,HB.out,Bk.out⟩
   case round=>
    obtain⟨k,hk,rfl,HQ,HB,Bk⟩:=hrel;by_cases hlt:k<l1
    ·obtain⟨b,o,n,rfl,hb,hx,hat⟩:=bq (HR.n.below HB.out) hlt;obtain⟨va,vl,vc,hvr,z0,z1,c0,c1,c2,c3,c4,c5,c6⟩:=aK hat;have HXn:=aa hx;clear hat hx z0 z1 hvr;obtain⟨GK,GR,HW⟩:=pQ;obtain⟨k0,k1,k2,k3,k4,k5⟩:=sl6 GK;have r0:=fun q:Wd (wr.alloc (.cells (nov n va vl vc) 56))=>q.slot (o:=0) GR.out rfl;have r3:=fun q:Wd (wr.alloc (.cells (nov n va vl vc) 56))=>q.slot (o:=3) GR.out rfl;have hne0:=Wd.ne (wr.alloc (.cells (nov n va vl vc) 56));have HC:=aa (fun q:Wd (wr.alloc (.cells (nov n va vl vc) 56))=>fK ⟨(some ⟨b,o,none⟩),l1,y1,a2,l2,y2,a3,l3,y3,a4,l4,y4,a5,l5,y5⟩ c.now c.vs n.n q.w (HR.v.below (HW.trans (q.b.mono HW.size))) HL3.out);go_wp2_with fail;refine ah an an ?_;repeat (go_big_quiet_step (first|(go_at_call 151;exact Calls.wide (HC.out _))|fail))
     refine wpQuiet_nil ?_;rintro _ ⟨q,rfl⟩;have HB2:=upB HW q.b;have Bk2:=upK GK q.b;clear HC hne0 k0 k1 k2 k3 k4 k5 r0 r3 c0 c1 c2 c3 c4 c5 c6 hb HB Bk HW GK GR;have HB:=HB2;have Bk:=Bk2;clear HB2 Bk2;by_cases hq:onOf n.n c.vs<=n.s
     ·exact qo
     ·have HQ2:=aa hq;go_wp2;go_ret;exact al.f (fun h=>by have h1:onOf n.n c.vs<=n.s:=(h.2 k n HXn.out);have h2:=HQ2.out;omega) HB.out
    ·obtain rfl:l1=k:=af
     have HQ2:Hid (∀(j:Nat) z,c.ns[j]?=some z->AQ2 c z):=fun j z hz=>HQ.out j z bI hz;exact kW

def MQ2 (c:Cl) (p:Pd):Prop:=p.p=2->rK c p
def fO (c:Cl):Prop:=(∀(j:Nat) z,c.ns[j]?=some z->mi c z)/\(∀(j:Nat) z,c.ps[j]?=some z->MQ2 c z)

theorem gP (d:Ad) (c:Cl) (w:World) (hr:aL w d c.raw) (hn:aG Nd.n c.ns) (hx:aG Xd.n c.xs) (hv:aG Vd.n c.vs) (hne:∀(j:Nat) v,c.vs[j]?=some v->¬v.n=⟨#[]⟩):
  Calls Tryz.prog 130 #[.agg #[.slice d.a1 d.l1 d.c1,.slice d.a2 d.l2 d.c2,.slice d.a3 d.l3 d.c3,.slice d.a4 d.l4 d.c4,.slice d.a5 d.l5 d.c5,.int .i64 c.now]] w (al (fO c) w):=by
 obtain⟨a1,l1,y1,a2,l2,y2,a3,l3,y3,a4,l4,y4,a5,l5,y5⟩:=d;dsimp only;have HR:=aa hr;have hl1:c.ns.length=l1:=kP
 have hm1:l1<=9223372036854775807:=sC hr.n.2.1 hr.n.2.2.1;obtain⟨hl5,hm5⟩:=iI;clear hr;have HNR:=aa hn;have HXR:=aa hx;have HVR:=aa hv;have HNE:=aa hne;clear hn hx hv hne;go_enter Tryz.func130,Tryz.ntmps130;go_wp2;go_loopw [10] (fun i wr=> ∃k:Nat,k<=l1/\i=.int .i64 k/\Hid (∀(j:Nat) z,j<k->c.ns[j]?=some z->mi c z)/\Hid (Below w.heap.size w wr)/\Hid (wr.heap[w.heap.size]?=some (.cells (clo6 a1 l1 y1 a2 l2 y2 a3 l3 y3 a4 l4 y4 a5 l5 y5 c.now) 36 (0,0)))) (fun i _=>l1 - (intOf i).toNat);case atStart=>exact⟨0,by omega,rfl,fun _ _ h=>absurd h af,aj _ _,sH⟩
 case round=>
  obtain⟨k,hk,rfl,HQ,HB,Bk⟩:=hrel;by_cases hlt:k<l1
  ·obtain⟨b,o,n,rfl,hb,hx,hat⟩:=bq (HR.n.below HB.out) hlt;obtain⟨va,vl,vc,hvr,z0,z1,c0,c1,c2,c3,c4,c5,c6⟩:=aK hat;have HXn:=aa hx;have HTn:=aa hvr;clear hat hx z0 z1 hvr;obtain⟨k0,k1,k2,k3,k4,k5⟩:=cs6 Bk;have ltk_0:=ae Bk.out;go_wp2_with fail;refine (oD ⟨(some ⟨b,o,none⟩),l1,y1,a2,l2,y2,a3,l3,y3,a4,l4,y4,a5,l5,y5⟩ c n va vl vc _ (HR.below (HB.trans ((aj _ _).mono HB.size))) HVR.out (HTn.below (aj _ _))).mono ?_;rintro e w2 ⟨r,rfl,hi,hb3⟩;clear k0 k1 k2 k3 k4 k5 ltk_0;obtain⟨HA0,hbx⟩:=aJ hb3;replace Bk:=upK Bk hbx;replace HB:=upB HB hbx;clear hb3 hbx HA0;have HI:=aa hi;clear hi hb c0 c1 c2 c3 c4 c5 c6;cases r
   ·go_wp2;go_ret;exact al.f (fun h=>by have:=HI.2 (h.1 k n HXn.out);cases this) HB.out
   ·go_wp2_with fail;refine⟨⟨k+1,by omega,by go_num,fun j z hj hz=>?_,HB.out,Bk.out⟩,by simp[intOf];omega⟩;by_cases e:j=k
    ·subst e;rw[HXn.out] at hz;obtain rfl:=sx hz;exact HI.1 bA
    ·exact HQ.out j z af hz
  ·obtain rfl:l1=k:=af
   have HQ1:Hid (∀(j:Nat) z,c.ns[j]?=some z->mi c z):=fun j z hz=>HQ.out j z bI hz;clear HQ;have kc:=ck4 Bk;go_wp2;go_loopw [22] (fun i wr=> ∃k:Nat,k<=l5/\i=.int .i64 k/\Hid (∀(j:Nat) z,j<k->c.ps[j]?=some z->MQ2 c z)/\Hid (Below w.heap.size w wr)/\Hid (wr.heap[w.heap.size]?=some (.cells (clo6 a1 l1 y1 a2 l2 y2 a3 l3 y3 a4 l4 y4 a5 l5 y5 c.now) 36 (0,0)))) (fun i _=>l5 - (intOf i).toNat);case atStart=>exact⟨0,by omega,rfl,fun _ _ h=>absurd h af,HB.out,Bk.out⟩
   case round=>
    obtain⟨k,hk,rfl,HQ,HB,Bk⟩:=hrel;by_cases hlt:k<l5
    ·obtain⟨b,o,p,rfl,hb,hx,hat⟩:=bR (HR.p.below HB.out) hlt;obtain⟨va,vl,vc,hvr,z0,z2,z4,c0,c1,c2,c3,c4,c5⟩:=aO hat;have HXp:=aa hx;have HTp:=aa hvr;clear hat hx z0 z2 z4 hvr;by_cases hp2:p.p=2;rotate_left
     ·have HP2:=aa hp2;obtain⟨k0,k1,k2,k3,k4,k5⟩:=cs6 Bk;have ltk_0:=ae Bk.out;go_wp2;refine⟨⟨k+1,by omega,by go_num,fun j z hj hz=>?_,(HB.alloc HB.size _),(sR _ _ _ (ae Bk.out)).trans Bk.out⟩,by simp[intOf];omega⟩;exact pW
     have HP2:=aa hp2;rw[hp2] at c5;clear hp2;obtain⟨k0,k1,k2,k3,k4,k5⟩:=cs6 Bk;have ltk_0:=ae Bk.out;go_wp2_with fail;have HCall:=aa (ox ⟨a1,l1,y1,a2,l2,y2,a3,l3,y3,a4,l4,y4,(some ⟨b,o,none⟩),l5,y5⟩ c p va vl vc (wr.alloc (.cells #[.string p.n,.int .i64 p.c,.string p.z,.slice va vl vc,.string p.d,.int .i64 2] 103)) (HR.below (HB.trans ((aj _ _).mono HB.size))) HNR.out HXR.out HVR.out HNE.out (HTp.below (aj _ _)));rw[HP2.out] at HCall;refine (HCall.out).mono ?_;rintro e w2 ⟨r,rfl,hi,hb3⟩;clear k0 k1 k2 k3 k4 k5 ltk_0;obtain⟨HA0,hbx⟩:=aJ hb3;replace Bk:=upK Bk hbx;replace HB:=upB HB hbx;clear hb3 hbx HA0;have HI:=aa hi;clear hi hb HCall c0 c1 c2 c3 c4 c5;cases r
     ·go_wp2;go_ret;exact al.f (fun h=>by have:=HI.2 ((h.2 k p HXp.out) HP2.out);cases this) HB.out
     ·go_wp2_with fail;refine⟨⟨k+1,by omega,by go_num,fun j z hj hz=>?_,HB.out,Bk.out⟩,by simp[intOf];omega⟩;by_cases e:j=k
      ·subst e;rw[HXp.out] at hz;obtain rfl:=sx hz;exact fun _=>HI.1 bA
      ·exact HQ.out j z af hz
    ·obtain rfl:l5=k:=af
     have HQ2:Hid (∀(j:Nat) z,c.ps[j]?=some z->MQ2 c z):=fun j z hz=>HQ.out j z bI hz;exact kW

def cM (c:Cl):Prop:=cA jU Nd.n c.ns 6/\cA j7 Kd.n c.ks 8/\cA jy Vd.n c.vs 8/\cA ju Xd.n c.xs 8/\cA jQ Pd.n c.ps 8
def bV (c:Cl):Prop:=Inn c.now 0 1000000/\cM c/\kG c/\gU c/\gv c/\fO c

theorem lX (d:Ad) (c:Cl) (w:World) (hr:aL w d c.raw):
  Calls Tryz.prog 126 #[.agg #[.slice d.a1 d.l1 d.c1,.slice d.a2 d.l2 d.c2,.slice d.a3 d.l3 d.c3,.slice d.a4 d.l4 d.c4,.slice d.a5 d.l5 d.c5,.int .i64 c.now]] w (al (cM c) w):=by
 obtain⟨HR,HB⟩:=eS;clear hr;go_enter Tryz.func126,Tryz.ntmps126;go_wp2_with fail;refine (jJ _ _ _ c.ns 6 _ (HR.n.below (HB.trans ((aj _ _).mono HB.size)))).mono ?_;rintro e w1 ⟨r,rfl,hi,hb⟩;obtain⟨HA0,hbx⟩:=aJ hb;have Bk:=aa HA0;replace HB:=upB HB hbx;clear hb hbx HA0;have HI1:=aa hi;clear hi;cases r
 ·exact nf
 obtain⟨k0,k1,k2,k3,k4,k5⟩:=cs6 Bk;go_wp2_with fail;refine (jK _ _ _ c.ks 8 _ (HR.k.below HB.out)).mono ?_;rintro e w2 ⟨r,rfl,hi,hb⟩;clear k0 k1 k2 k3 k4 k5;replace Bk:=upK Bk hb;replace HB:=upB HB hb;clear hb;have HI2:=aa hi;clear hi;cases r
 ·exact ni
 obtain⟨k0,k1,k2,k3,k4,k5⟩:=cs6 Bk;go_wp2_with fail;refine (jH _ _ _ c.vs 8 _ (HR.v.below HB.out)).mono ?_;rintro e w3 ⟨r,rfl,hi,hb⟩;clear k0 k1 k2 k3 k4 k5;replace Bk:=upK Bk hb;replace HB:=upB HB hb;clear hb;have HI3:=aa hi;clear hi;cases r
 ·exact nW
 obtain⟨k0,k1,k2,k3,k4,k5⟩:=cs6 Bk;go_wp2_with fail;refine (jG _ _ _ c.xs 8 _ (HR.x.below HB.out)).mono ?_;rintro e w4 ⟨r,rfl,hi,hb⟩;clear k0 k1 k2 k3 k4 k5;replace Bk:=upK Bk hb;replace HB:=upB HB hb;clear hb;have HI4:=aa hi;clear hi;cases r
 ·exact nY
 obtain⟨k0,k1,k2,k3,k4,k5⟩:=cs6 Bk;go_wp2_with fail;refine (jI _ _ _ c.ps 8 _ (HR.p.below HB.out)).mono ?_;rintro e w5 ⟨r,rfl,hi,hb⟩;clear k0 k1 k2 k3 k4 k5;replace Bk:=upK Bk hb;replace HB:=upB HB hb;clear hb;have HI5:=aa hi;clear hi;cases r
 ·obtain⟨k0,k1,k2,k3,k4,k5⟩:=cs6 Bk;go_wp2;go_ret;exact al.f (fun h=>by have:=HI5.2 h.2.2.2.2;cases this) HB.out
 go_wp2;go_ret;exact al.t ⟨HI1.1 bA,HI2.1 bA,HI3.1 bA,HI4.1 bA,HI5.1 bA⟩ HB.out

theorem cM.ne {c:Cl} (h:cM c) (j:Nat) (v:Vd) (hv:c.vs[j]?=some v):¬v.n=⟨#[]⟩:=fun e=>by
 have h1:=(h.2.2.1.2.1 j v hv).1.1;rw[e] at h1;exact absurd h1 ak
theorem cM.su {c:Cl} (h:cM c) (j:Nat) (p:Pd) (hp:c.ps[j]?=some p):0<=p.c/\p.c<=1000000:=(h.2.2.2.2.2.1 j p hp).2.1

theorem j9 (d:Ad) (c:Cl) (w:World) (hr:aL w d c.raw) (hG:ens w):
  Calls Tryz.prog 108 #[.agg #[.slice d.a1 d.l1 d.c1,.slice d.a2 d.l2 d.c2,.slice d.a3 d.l3 d.c3,.slice d.a4 d.l4 d.c4,.slice d.a5 d.l5 d.c5,.int .i64 c.now]] w (al (bV c) w):=by
 have HR:=aa hr;obtain⟨HE,HB⟩:=fu;clear hr hG;go_enter Tryz.func108,Tryz.ntmps108;go_wp2_with fail;refine (a_ c.now 0 1000000 _).mono ?_;rintro e w1 ⟨r,rfl,hi,hw⟩;have hb:Below (w.alloc (.cells (clv d c.now) 36)).heap.size (w.alloc (.cells (clv d c.now) 36)) w1:=by first|(rw[hw];exact sB _ _)|(rw[<-hw];exact sB _ _)
 clear hw;obtain⟨HA0,hbx⟩:=aJ hb;have Bk:=aa HA0;replace HB:=upB HB hbx;clear hb hbx HA0;have HI1:=aa hi;clear hi;cases r
 ·exact nf
 obtain⟨k0,k1,k2,k3,k4,k5⟩:=cs6 Bk;go_wp2_with fail;refine (lX d c _ (HR.below HB.out)).mono ?_;rintro e w2 ⟨r,rfl,hi,hb⟩;clear k0 k1 k2 k3 k4 k5;replace Bk:=upK Bk hb;replace HB:=upB HB hb;clear hb;have HI2:=aa hi;clear hi;cases r
 ·exact ni
 have HOK:=aa (HI2.1 bA);obtain⟨k0,k1,k2,k3,k4,k5⟩:=cs6 Bk;go_wp2_with fail;refine (kj d c _ (HR.below HB.out) HOK.2.2.2.1.2.2 HOK.2.2.1.2.2 (HE.below HB.out)).mono ?_;rintro e w3 ⟨r,rfl,hi,hb⟩;clear k0 k1 k2 k3 k4 k5;replace Bk:=upK Bk hb;replace HB:=upB HB hb;clear hb;have HI3:=aa hi;clear hi;cases r
 ·exact nW
 obtain⟨k0,k1,k2,k3,k4,k5⟩:=cs6 Bk;go_wp2_with fail;refine (jl d c _ (HR.below HB.out) HOK.1.2.2 HOK.2.2.2.1.2.2 HOK.2.2.1.2.2 HOK.ne (by have:=HOK.2.2.2.2.1;omega) HOK.su (HE.below HB.out)).mono ?_;rintro e w4 ⟨r,rfl,hi,hb⟩;clear k0 k1 k2 k3 k4 k5;replace Bk:=upK Bk hb;replace HB:=upB HB hb;clear hb;have HI4:=aa hi;clear hi;cases r
 ·exact nY
 obtain⟨k0,k1,k2,k3,k4,k5⟩:=cs6 Bk;go_wp2_with fail;refine (fT d c _ (HR.below HB.out) HOK.1.2.2 (by have:=HOK.2.2.1.1;omega)).mono ?_;rintro e w5 ⟨r,rfl,hi,hb⟩;clear k0 k1 k2 k3 k4 k5;replace Bk:=upK Bk hb;replace HB:=upB HB hb;clear hb;have HI5:=aa hi;clear hi;cases r
 ·exact pU
 obtain⟨k0,k1,k2,k3,k4,k5⟩:=cs6 Bk;go_wp2_with fail;refine (gP d c _ (HR.below HB.out) HOK.1.2.2 HOK.2.2.2.1.2.2 HOK.2.2.1.2.2 HOK.ne).mono ?_;rintro e w6 ⟨r,rfl,hi,hb⟩;clear k0 k1 k2 k3 k4 k5;replace Bk:=upK Bk hb;replace HB:=upB HB hb;clear hb;have HI6:=aa hi;clear hi;cases r
 ·exact nZ
 go_wp2;go_ret;exact al.t ⟨HI1.1 bA,HI2.1 bA,HI3.1 bA,HI4.1 bA,HI5.1 bA,HI6.1 bA⟩ HB.out

theorem cq (a:Option Addr) (len cap:Nat) (zs:List ByteArray) (t:ByteArray) (w:World) (hr:ar w a len cap zs):
  Calls Tryz.prog 80 #[.slice a len cap,.string t] w (al (InL zs t) w):=by
 have HR:=aa hr;have hlc:=sC hr.2.1 hr.2.2.1;have hzl:=hr.1;clear hr;go_enter Tryz.func80,Tryz.ntmps80;go_wp2;go_loop [5] (fun i=> ∃k:Nat,k<=len/\i=.int .i64 k/\Hid (∀(j:Nat) x,j<k->zs[j]?=some x->¬x=t)) (fun i=>len - (intOf i).toNat);case atStart=>exact⟨0,by omega,rfl,fun _ _ h=>absurd h af⟩
 case round=>
  obtain⟨k,hk,rfl,HE⟩:=hrel;by_cases hlt:k<len
  ·obtain⟨b,o,x,rfl,hb,hx,hc,hsz⟩:=HR.at hlt;have HX:=aa hx;clear hx;by_cases hn:x=t
   ·have hq:=ba hn;have HN:=aa hn;clear hn;go_wp2;go_ret;exact al.t ⟨k,by rw[HX.out,HN.out]⟩ (sB _ _)
   ·have hq:=bz hn;have HN:=aa hn;clear hn;go_wp2;refine⟨⟨k+1,by omega,by go_num,fun j z hj hz=>?_⟩,by simp[intOf];omega⟩;exact ny
  ·obtain rfl:len=k:=af
   go_wp2;go_ret;exact al.f (fun ⟨j,hj⟩=>HE.out j t mI hj rfl) (sB _ _)

theorem fp (d:Ad) (now:Int) (xs:List Nd) (t:ByteArray) (w:World) (hr:aA w d.a1 d.l1 d.c1 7 (xs.map ndF)) (hs:aG Nd.n xs) {j:Nat} {x:Nd} (hx:xs[j]?=some x) (hn:x.n=t):
  Calls Tryz.prog 51 #[.agg #[.slice d.a1 d.l1 d.c1,.slice d.a2 d.l2 d.c2,.slice d.a3 d.l3 d.c3,.slice d.a4 d.l4 d.c4,.slice d.a5 d.l5 d.c5,.int .i64 now],.string t] w fun e w'=>e=.returned (.int .i64 j)/\Below w.heap.size w w':=by
 refine (dW d now xs t w hr).mono ?_;exact ld
theorem lK (d:Ad) (now:Int) (xs:List Nd) (t:ByteArray) (w:World) (hr:aA w d.a1 d.l1 d.c1 7 (xs.map ndF)) (hn:∀(j:Nat) x,xs[j]?=some x->¬x.n=t):
  Calls Tryz.prog 51 #[.agg #[.slice d.a1 d.l1 d.c1,.slice d.a2 d.l2 d.c2,.slice d.a3 d.l3 d.c3,.slice d.a4 d.l4 d.c4,.slice d.a5 d.l5 d.c5,.int .i64 now],.string t] w fun e w'=>e=.returned (.int .i64 (-1))/\Below w.heap.size w w':=by
 refine (dW d now xs t w hr).mono ?_;exact kY

theorem db (d:Ad) (now:Int) (xs:List Kd) (t:ByteArray) (w:World) (hr:aA w d.a2 d.l2 d.c2 4 (xs.map kdF)) (hs:aG Kd.n xs) {j:Nat} {x:Kd} (hx:xs[j]?=some x) (hn:x.n=t):
  Calls Tryz.prog 121 #[.agg #[.slice d.a1 d.l1 d.c1,.slice d.a2 d.l2 d.c2,.slice d.a3 d.l3 d.c3,.slice d.a4 d.l4 d.c4,.slice d.a5 d.l5 d.c5,.int .i64 now],.string t] w fun e w'=>e=.returned (.int .i64 j)/\Below w.heap.size w w':=by
 refine (ib d now xs t w hr).mono ?_;exact ld
theorem fV (d:Ad) (now:Int) (xs:List Kd) (t:ByteArray) (w:World) (hr:aA w d.a2 d.l2 d.c2 4 (xs.map kdF)) (hn:∀(j:Nat) x,xs[j]?=some x->¬x.n=t):
  Calls Tryz.prog 121 #[.agg #[.slice d.a1 d.l1 d.c1,.slice d.a2 d.l2 d.c2,.slice d.a3 d.l3 d.c3,.slice d.a4 d.l4 d.c4,.slice d.a5 d.l5 d.c5,.int .i64 now],.string t] w fun e w'=>e=.returned (.int .i64 (-1))/\Below w.heap.size w w':=by
 refine (ib d now xs t w hr).mono ?_;exact kY

theorem ia (d:Ad) (now:Int) (xs:List Vd) (t:ByteArray) (w:World) (hr:aA w d.a3 d.l3 d.c3 8 (xs.map vdF)) (hs:aG Vd.n xs) {j:Nat} {x:Vd} (hx:xs[j]?=some x) (hn:x.n=t):
  Calls Tryz.prog 106 #[.agg #[.slice d.a1 d.l1 d.c1,.slice d.a2 d.l2 d.c2,.slice d.a3 d.l3 d.c3,.slice d.a4 d.l4 d.c4,.slice d.a5 d.l5 d.c5,.int .i64 now],.string t] w fun e w'=>e=.returned (.int .i64 j)/\Below w.heap.size w w':=by
 refine (fo d now xs t w hr).mono ?_;exact ld
theorem fU (d:Ad) (now:Int) (xs:List Vd) (t:ByteArray) (w:World) (hr:aA w d.a3 d.l3 d.c3 8 (xs.map vdF)) (hn:∀(j:Nat) x,xs[j]?=some x->¬x.n=t):
  Calls Tryz.prog 106 #[.agg #[.slice d.a1 d.l1 d.c1,.slice d.a2 d.l2 d.c2,.slice d.a3 d.l3 d.c3,.slice d.a4 d.l4 d.c4,.slice d.a5 d.l5 d.c5,.int .i64 now],.string t] w fun e w'=>e=.returned (.int .i64 (-1))/\Below w.heap.size w w':=by
 refine (fo d now xs t w hr).mono ?_;exact kY

theorem dU (d:Ad) (now:Int) (xs:List Xd) (t:ByteArray) (w:World) (hr:aA w d.a4 d.l4 d.c4 5 (xs.map xdF)) (hs:aG Xd.n xs) {j:Nat} {x:Xd} (hx:xs[j]?=some x) (hn:x.n=t):
  Calls Tryz.prog 105 #[.agg #[.slice d.a1 d.l1 d.c1,.slice d.a2 d.l2 d.c2,.slice d.a3 d.l3 d.c3,.slice d.a4 d.l4 d.c4,.slice d.a5 d.l5 d.c5,.int .i64 now],.string t] w fun e w'=>e=.returned (.int .i64 j)/\Below w.heap.size w w':=by
 refine (dV d now xs t w hr).mono ?_;exact ld
theorem dp (d:Ad) (now:Int) (xs:List Xd) (t:ByteArray) (w:World) (hr:aA w d.a4 d.l4 d.c4 5 (xs.map xdF)) (hn:∀(j:Nat) x,xs[j]?=some x->¬x.n=t):
  Calls Tryz.prog 105 #[.agg #[.slice d.a1 d.l1 d.c1,.slice d.a2 d.l2 d.c2,.slice d.a3 d.l3 d.c3,.slice d.a4 d.l4 d.c4,.slice d.a5 d.l5 d.c5,.int .i64 now],.string t] w fun e w'=>e=.returned (.int .i64 (-1))/\Below w.heap.size w w':=by
 refine (dV d now xs t w hr).mono ?_;exact kY

def rJ (c:Cl) (t:ByteArray) (w:World) (e:Ending) (w':World):Prop:=
 Below w.heap.size w w'/\((∃(j:Nat) (v:Vd),c.vs[j]?=some v/\bm c t v/\e=.returned (.int .i64 j))\/((∀v,¬bm c t v)/\e=.returned (.int .i64 (-1))))

theorem fY (d:Ad) (c:Cl) (t:ByteArray) (w:World) (hr:aL w d c.raw) (hx:aG Xd.n c.xs) (hv:aG Vd.n c.vs) (hne:∀(j:Nat) v,c.vs[j]?=some v->¬v.n=⟨#[]⟩):
  Calls Tryz.prog 81 #[.agg #[.slice d.a1 d.l1 d.c1,.slice d.a2 d.l2 d.c2,.slice d.a3 d.l3 d.c3,.slice d.a4 d.l4 d.c4,.slice d.a5 d.l5 d.c5,.int .i64 c.now],.string t] w (rJ c t w):=by
 obtain⟨a1,l1,y1,a2,l2,y2,a3,l3,y3,a4,l4,y4,a5,l5,y5⟩:=d;dsimp only;have HR:=aa hr;have hl4:c.xs.length=l4:=mJ
 clear hr;obtain⟨HX,HV,HNE⟩:=eR;have HB:=aa (sB w.heap.size w);clear hx hv hne;go_enter Tryz.func81,Tryz.ntmps81;go_wp2_with fail;refine (dV ⟨a1,l1,y1,a2,l2,y2,a3,l3,y3,a4,l4,y4,a5,l5,y5⟩ c.now c.xs t _ (HR.x.below (aj _ _))).mono ?_;rintro e w1 ⟨hb,hf⟩;obtain⟨HA0,hbx⟩:=aJ hb;have Bk:=aa HA0;replace HB:=upB HB hbx;clear hb hbx HA0;rcases hf with ⟨j,x,hx,hn,rfl⟩|⟨hh,rfl⟩;rotate_left
 ·have HH:=aa hh;clear hh;obtain⟨k0,k1,k2,k3,k4,k5⟩:=cs6 Bk;go_wp2;go_ret;exact⟨HB.out,.inr ⟨fun v ⟨i,j,x,e1,e2,_⟩=>HH.out i x e1 e2,rfl⟩⟩
 have hj:j<l4:=by have h1:=(sv.1 hx).1;omega
 obtain⟨b,o,y,rfl,hbb,hy,hat⟩:=cD HR.x hj;rw[hx] at hy;obtain rfl:=sx hy;obtain⟨z0,z2,z4,c0,c1,c2,c3,c4⟩:=aU hat;have HX1:=aa hx;have HN1:=aa hn;have e4:=(ai HB.out hbb).trans c4;have hb1:=sG hbb HB.size;have hj0:(0:Int)<=j:=af
 clear hx hn hy hat z0 z2 z4 c0 c1 c2 c3;by_cases he:x.v=⟨#[]⟩
 ·have hq:=cH he;have HEm:=aa he;clear he;obtain⟨k0,k1,k2,k3,k4,k5⟩:=cs6 Bk;go_wp2;go_ret;refine⟨HB.out,.inr ⟨fun v ⟨i,j2,x2,e1,e2,e3,e5⟩=>?_,rfl⟩⟩;obtain⟨_,rfl⟩:=HX.inj e1 HX1.out (e2.trans HN1.symm);exact HNE.out j2 v e3 (e5.trans HEm.out)
 ·have hq:=aZ he;have HEm:=aa he;clear he;obtain⟨k0,k1,k2,k3,k4,k5⟩:=cs6 Bk;go_wp2_with fail;by_cases hf:∃(j2:Nat) (v:Vd),c.vs[j2]?=some v/\v.n=x.v
  ·obtain⟨j2,v,h1,h2⟩:=hf;have HF1:=aa h1;have HF2:=aa h2;clear h1 h2;clear k0 k1 k2 k3 k4 k5;have Gk:=Bk;have HW:=HB;have k0:=fun q:Wd w1=>q.slot (o:=0) Gk.out rfl;have k1:=fun q:Wd w1=>q.slot (o:=1) Gk.out rfl;have k2:=fun q:Wd w1=>q.slot (o:=2) Gk.out rfl;have k3:=fun q:Wd w1=>q.slot (o:=3) Gk.out rfl;have k4:=fun q:Wd w1=>q.slot (o:=4) Gk.out rfl;have k5:=fun q:Wd w1=>q.slot (o:=5) Gk.out rfl;have e4w:=fun q:Wd w1=>(q.cell hb1).trans e4;have hne0:=Wd.ne w1;have HC0:=aa (fun q:Wd w1=>ia ⟨a1,l1,y1,a2,l2,y2,a3,l3,y3,(some ⟨b,o,none⟩),l4,y4,a5,l5,y5⟩ c.now c.vs x.v q.w (HR.v.below (HW.trans (q.b.mono HW.size))) HV.out HF1.out HF2.out);go_wp2_with fail;refine ah an an ?_;repeat (go_big_quiet_step (first|(go_at_call 106;exact Calls.wide (HC0.out _))|fail))
   refine wpQuiet_nil ?_;rintro _ ⟨q,rfl⟩;have HB2:=upB HW q.b;have Ck:=upK Gk q.b;clear hne0 HW HB HC0 k0 k1 k2 k3 k4 k5 e4w Gk Bk;have HB:=HB2;clear HB2;have Bk:=Ck;clear Ck;go_wp2_with fail;go_ret;exact⟨HB.out,.inl ⟨j2,v,HF1.out,⟨_,_,x,HX1.out,HN1.out,HF1.out,HF2.out⟩,rfl⟩⟩
  ·have HF:=aa hf;clear hf;clear k0 k1 k2 k3 k4 k5;have Gk:=Bk;have HW:=HB;obtain⟨k0,k1,k2,k3,k4,k5⟩:=sl6 Gk;have e4w:=fun q:Wd w1=>(q.cell hb1).trans e4;have hne0:=Wd.ne w1;have HC0:=aa (fun q:Wd w1=>fU ⟨a1,l1,y1,a2,l2,y2,a3,l3,y3,(some ⟨b,o,none⟩),l4,y4,a5,l5,y5⟩ c.now c.vs x.v q.w (HR.v.below (HW.trans (q.b.mono HW.size))) (fun j2 v h1 h2=>HF.out ⟨j2,v,h1,h2⟩));go_wp2_with fail;refine ah an an ?_;repeat (go_big_quiet_step (first|(go_at_call 106;exact Calls.wide (HC0.out _))|fail))
   refine wpQuiet_nil ?_;rintro _ ⟨q,rfl⟩;have HB2:=upB HW q.b;have Ck:=upK Gk q.b;clear hne0 HW HB HC0 k0 k1 k2 k3 k4 k5 e4w Gk Bk;have HB:=HB2;clear HB2;have Bk:=Ck;clear Ck;go_wp2_with fail;go_ret;refine⟨HB.out,.inr ⟨fun v ⟨i,j2,x2,e1,e2,e3,e5⟩=>?_,rfl⟩⟩;obtain⟨_,rfl⟩:=HX.inj e1 HX1.out (e2.trans HN1.symm);exact HF.out ⟨j2,v,e3,e5⟩

theorem dt (d:Ad) (c:Cl) (t:ByteArray) (w:World) (hr:aL w d c.raw) (hx:aG Xd.n c.xs) (hv:aG Vd.n c.vs) (hne:∀(j:Nat) v,c.vs[j]?=some v->¬v.n=⟨#[]⟩) {j:Nat} {v:Vd} (hj:c.vs[j]?=some v) (hb:bm c t v):
  Calls Tryz.prog 81 #[.agg #[.slice d.a1 d.l1 d.c1,.slice d.a2 d.l2 d.c2,.slice d.a3 d.l3 d.c3,.slice d.a4 d.l4 d.c4,.slice d.a5 d.l5 d.c5,.int .i64 c.now],.string t] w fun e w'=>e=.returned (.int .i64 j)/\Below w.heap.size w w':=by
 refine (fY d c t w hr hx hv hne).mono ?_;rintro e w' ⟨hw,h⟩;rcases h with ⟨i,u,h1,h2,rfl⟩|⟨h1,rfl⟩
 ·obtain rfl:=bm.inj hx hv h2 hb;obtain⟨rfl,_⟩:=hv.inj h1 hj rfl;exact⟨rfl,hw⟩
 ·exact absurd hb (h1 v)
theorem dL (d:Ad) (c:Cl) (t:ByteArray) (w:World) (hr:aL w d c.raw) (hx:aG Xd.n c.xs) (hv:aG Vd.n c.vs) (hne:∀(j:Nat) v,c.vs[j]?=some v->¬v.n=⟨#[]⟩) (hb:∀v,¬bm c t v):
  Calls Tryz.prog 81 #[.agg #[.slice d.a1 d.l1 d.c1,.slice d.a2 d.l2 d.c2,.slice d.a3 d.l3 d.c3,.slice d.a4 d.l4 d.c4,.slice d.a5 d.l5 d.c5,.int .i64 c.now],.string t] w fun e w'=>e=.returned (.int .i64 (-1))/\Below w.heap.size w w':=by
 refine (fY d c t w hr hx hv hne).mono ?_;rintro e w' ⟨hw,h⟩;rcases h with ⟨i,u,h1,h2,rfl⟩|⟨h1,rfl⟩
 ·exact absurd h2 (hb u)
 ·exact⟨rfl,hw⟩
theorem bm.at {c:Cl} {t:ByteArray} {v:Vd} (h:bm c t v):∃j:Nat,c.vs[j]?=some v:=by
 obtain⟨_,j,_,_,_,h,_⟩:=h;exact⟨j,h⟩

theorem lM (d:Ad) (now:Int) (ps:List Pd) (t:ByteArray) (w:World) (hr:aA w d.a5 d.l5 d.c5 6 (ps.map pdF)) (hl:ps.length<=8) (hp:∀(j:Nat) p,ps[j]?=some p->0<=p.c/\p.c<=1000000):
  Calls Tryz.prog 123 #[.agg #[.slice d.a1 d.l1 d.c1,.slice d.a2 d.l2 d.c2,.slice d.a3 d.l3 d.c3,.slice d.a4 d.l4 d.c4,.slice d.a5 d.l5 d.c5,.int .i64 now],.string t] w fun e w'=>e=.returned (.int .i64 (cpuOf t ps))/\Below w.heap.size w w':=by
 obtain⟨a1,l1,y1,a2,l2,y2,a3,l3,y3,a4,l4,y4,a5,l5,y5⟩:=d;dsimp only at hr ⊢;have HR:=aa hr;have hxl:ps.length=l5:=de
 have HP:=aa hp;clear hr hp;go_enter Tryz.func123,Tryz.ntmps123;go_wp2;go_loopw [5,6] (fun q i wr=> ∃(k:Nat) (s:Int),k<=l5/\q=.int .i64 s/\i=.int .i64 k/\Hid (s=cpuOf t (ps.take k))/\0<=s/\s<=k*1000000/\wr=w.alloc (.cells #[.slice a1 l1 y1,.slice a2 l2 y2,.slice a3 l3 y3,.slice a4 l4 y4,.slice a5 l5 y5,.int .i64 now] 36)) (fun _ i _=>l5 - (intOf i).toNat);case atStart=>exact⟨0,0,by omega,rfl,rfl,rfl,by omega,by omega,rfl⟩
 case round=>
  obtain⟨k,s,hk,rfl,rfl,HS,hs0,hs1,rfl⟩:=hrel;by_cases hlt:k<l5
  ·obtain⟨b,o,p,rfl,hb,hx,hat⟩:=bR HR.out hlt;obtain⟨va,vl,vc,hvr,z0,z2,z4,c0,c1,c2,c3,c4,c5⟩:=aO hat;have HX:=aa hx;have hpc:=HP.out k p hx;clear hat hx z0 z2 z4 hvr;by_cases hn:p.d=t
   ·have hq:=ba hn;have HN:=aa hn;clear hn;go_wp2;refine⟨⟨k+1,s+p.c,by omega,by go_num,by go_num,?_,by omega,by omega,by first|rfl|trivial⟩,by simp[intOf];omega⟩;show _=_;rw[c9 HX.out,if_pos HN.out,<-HS.out]
   ·have hq:=bz hn;have HN:=aa hn;clear hn;go_wp2;refine⟨⟨k+1,s,by omega,rfl,by go_num,?_,by omega,by omega,by first|rfl|trivial⟩,by simp[intOf];omega⟩;show _=_;rw[c9 HX.out,if_neg HN.out,<-HS.out,Int.add_zero]
  ·obtain rfl:l5=k:=af
   go_wp2;go_ret;exact⟨congrArg (fun z=>Ending.returned (.int .i64 z)) (HS.trans (by rw[sE af])),aj _ _⟩

theorem oW (d:Ad) (now:Int) (vs:List Vd) (t:ByteArray) (w:World) (hr:aA w d.a3 d.l3 d.c3 8 (vs.map vdF)) (hl:vs.length<=8):
  Calls Tryz.prog 124 #[.agg #[.slice d.a1 d.l1 d.c1,.slice d.a2 d.l2 d.c2,.slice d.a3 d.l3 d.c3,.slice d.a4 d.l4 d.c4,.slice d.a5 d.l5 d.c5,.int .i64 now],.string t] w fun e w'=>e=.returned (.int .i64 (onOf t vs))/\Below w.heap.size w w':=by
 obtain⟨a1,l1,y1,a2,l2,y2,a3,l3,y3,a4,l4,y4,a5,l5,y5⟩:=d;dsimp only at hr ⊢;have HR:=aa hr;have hxl:vs.length=l3:=de
 clear hr;go_enter Tryz.func124,Tryz.ntmps124;go_wp2;go_loopw [5,6] (fun q i wr=> ∃(k:Nat) (s:Int),k<=l3/\q=.int .i64 s/\i=.int .i64 k/\Hid (s=onOf t (vs.take k))/\0<=s/\s<=k/\Hid (Below w.heap.size w wr)/\Hid (wr.heap[w.heap.size]?=some (.cells (clo6 a1 l1 y1 a2 l2 y2 a3 l3 y3 a4 l4 y4 a5 l5 y5 now) 36 (0,0)))) (fun _ i _=>l3 - (intOf i).toNat);case atStart=>exact⟨0,0,by omega,rfl,rfl,rfl,by omega,by omega,aj _ _,sH⟩
 case round=>
  obtain⟨k,s,hk,rfl,rfl,HS,hs0,hs1,HB,Bk⟩:=hrel;have kk:=ck2 Bk;by_cases hlt:k<l3
  ·obtain⟨b,o,v,rfl,hb,hx,hat⟩:=bk (HR.below HB.out) hlt;obtain⟨va,vl,vc,hvr,z0,z2,z3,z5,c0,c1,c2,c3,c4,c5,c6,c7⟩:=aE hat;have HX:=aa hx;have HT:=aa hvr;clear hat hx z0 z2 z3 z5 hvr;go_wp2_with fail;refine (cq va vl vc v.zs t _ HT.out).mono ?_;rintro e w1 ⟨r,rfl,hi,hb2⟩;replace Bk:=upK Bk hb2;replace HB:=upB HB hb2;clear hb2;have HI:=aa hi;clear hi hb kk c0 c1 c2 c3 c4 c5 c6 c7;cases r
   ·go_wp2;refine⟨⟨k+1,s,by omega,rfl,by go_num,?_,by omega,by omega,HB.out,Bk.out⟩,by simp[intOf];omega⟩;exact nS
   ·go_wp2;refine⟨⟨k+1,s+1,by omega,by go_num,by go_num,?_,by omega,by omega,HB.out,Bk.out⟩,by simp[intOf];omega⟩;show _=_;rw[eK HX.out,if_pos (HI.1 bA),<-HS.out]
  ·obtain rfl:l3=k:=af
   exact nj

def gu (c:Cl) (p q:Pd):Prop:=p.d=⟨#[]⟩\/q.d=⟨#[]⟩\/p.d=q.d\/∀(j:Nat) t,p.zs[j]?=some t->∀v,bm c t v->v.x=true->¬InL q.zs t

theorem dq (d:Ad) (c:Cl) (p q:Pd) (pa:Option Addr) (pl pc:Nat) (qa:Option Addr) (ql qc:Nat) (w:World) (hr:aL w d c.raw) (hx:aG Xd.n c.xs) (hv:aG Vd.n c.vs) (hne:∀(j:Nat) v,c.vs[j]?=some v->¬v.n=⟨#[]⟩) (hp:ar w pa pl pc p.zs) (hq:ar w qa ql qc q.zs):
  Calls Tryz.prog 122 #[.agg #[.slice d.a1 d.l1 d.c1,.slice d.a2 d.l2 d.c2,.slice d.a3 d.l3 d.c3,.slice d.a4 d.l4 d.c4,.slice d.a5 d.l5 d.c5,.int .i64 c.now],.agg #[.string p.n,.int .i64 p.c,.string p.z,.slice pa pl pc,.string p.d,.int .i64 p.p],.agg #[.string q.n,.int .i64 q.c,.string q.z,.slice qa ql qc,.string q.d,.int .i64 q.p]] w (al (gu c p q) w):=by
 obtain⟨a1,l1,y1,a2,l2,y2,a3,l3,y3,a4,l4,y4,a5,l5,y5⟩:=d;dsimp only;have HR:=aa hr;have hl3:c.vs.length=l3:=iA
 clear hr;obtain⟨HX,HV,HNE⟩:=eR;have HP:=aa hp;have HQ0:=aa hq;have hlc:=sC hp.2.1 hp.2.2.1;have hzl:=hp.1;clear hx hv hne hp hq;by_cases hp0:p.d=⟨#[]⟩
 ·have e1:=cH hp0;have HH:=aa hp0;clear hp0;go_enter Tryz.func122,Tryz.ntmps122;go_wp2;go_ret;exact al.t (.inl HH.out) (bx _ _ _ _)
 by_cases hq0:q.d=⟨#[]⟩
 ·have e1:=aZ hp0;have e2:=cH hq0;have HH:=aa hq0;clear hp0 hq0;go_enter Tryz.func122,Tryz.ntmps122;go_wp2;go_ret;exact al.t (.inr (.inl HH.out)) (bx _ _ _ _)
 by_cases hpq:p.d=q.d
 ·have e1:=aZ hp0;have e2:=aZ hq0;have e3:=ba hpq;have HH:=aa hpq;clear hp0 hq0 hpq;go_enter Tryz.func122,Tryz.ntmps122;go_wp2;go_ret;exact al.t (.inr (.inr (.inl HH.out))) (bx _ _ _ _)
 have e1:=aZ hp0;have e2:=aZ hq0;have e3:=bz hpq;have HP0:=aa hp0;have HQ1:=aa hq0;have HPQ:=aa hpq;clear hp0 hq0 hpq;go_enter Tryz.func122,Tryz.ntmps122;go_wp2;clear e1 e2 e3;go_loopw [7] (fun i wr=> ∃k:Nat,k<=pl/\i=.int .i64 k/\Hid (∀(j:Nat) t,j<k->p.zs[j]?=some t->∀v,bm c t v->v.x=true->¬InL q.zs t)/\Hid (Below w.heap.size w wr)/\Hid (wr.heap[w.heap.size]?=some (.cells (clo6 a1 l1 y1 a2 l2 y2 a3 l3 y3 a4 l4 y4 a5 l5 y5 c.now) 36 (0,0)))/\Hid (wr.heap[w.heap.size+1]?=some (.cells (pov p pa pl pc) 103 (0,0)))/\Hid (wr.heap[w.heap.size+1+1]?=some (.cells (pov q qa ql qc) 103 (0,0)))) (fun i _=>pl - (intOf i).toNat);case atStart=>exact⟨0,by omega,rfl,fun _ _ h=>absurd h af,bx _ _ _ _,fi _ _ _ _,dx _ _ _ _,dw _ _ _ _⟩
 case round=>
  obtain⟨k,hk,rfl,HQ,HB,Bk,Bx,By⟩:=hrel;have px3:=ck3 Bx;by_cases hlt:k<pl
  ·obtain⟨b,o,t,rfl,hb,hxt,hc,hsz⟩:=HP.at hlt;have HXt:=aa hxt;have hcw:=(ai HB.out hb).trans hc;have hbw:=sG hb HB.size;clear hxt hsz;have hcase:(∃v,bm c t v)\/(∀v,¬bm c t v):=by
    exact qm
   rcases hcase with ⟨v,hbd⟩|hbd
   ·obtain⟨j3,hj3⟩:=hbd.at;have hl3':j3<l3:=by have h1:=(sv.1 hj3).1;omega
    obtain⟨b3,o3,v',rfl,hb3,hv',hat⟩:=bk HR.v hl3';rw[hj3] at hv';obtain rfl:=sx hv';obtain⟨va,vl,vc,hvr,z0,z2,z3,z5,c0,c1,c2,c3,c4,c5,c6,c7⟩:=aE hat;have HJ:=aa hj3;have HD:=aa hbd;have hcv:=(ai HB.out hb3).trans c4;have hbv:=sG hb3 HB.size;have hj0:(0:Int)<=j3:=af
    clear hv' hat hvr z0 z2 z3 z5 c0 c1 c2 c3 c4 c5 c6 c7 hj3 hbd;have Gk:=Bk;have Gx:=Bx;have Gy:=By;have HW:=HB;obtain⟨k0,k1,k2,k3,k4,k5⟩:=sl6 Gk;have x3:=fun q:Wd wr=>q.slot (o:=3) Gx.out rfl;have tw:=fun q:Wd wr=>(q.cell hbw).trans hcw;have hne0:=Wd.ne wr;have HC0:=aa (fun q:Wd wr=>dt ⟨a1,l1,y1,a2,l2,y2,(some ⟨b3,o3,none⟩),l3,y3,a4,l4,y4,a5,l5,y5⟩ c t q.w (HR.below (HW.trans (q.b.mono HW.size))) HX.out HV.out HNE.out HJ.out HD.out);go_wp2_with fail;refine ah an an ?_;repeat (go_big_quiet_step (first|(go_at_call 81;exact Calls.wide (HC0.out _))|fail))
    refine wpQuiet_nil ?_;rintro _ ⟨q1,rfl⟩;obtain⟨HB1,Ck⟩:=cf;have Cx:=upK Gx q1.b;have Cy:=upK Gy q1.b;clear hne0 HW HB HC0 k0 k1 k2 k3 k4 k5 x3 tw Gk Gx Gy Bk Bx By px3;have HB:=HB1;clear HB1;have Bk:=Ck;clear Ck;have Bx:=Cx;clear Cx;have By:=Cy;clear Cy;have hcw1:=(q1.cell hbw).trans hcw;have hbw1:=sG hbw q1.b.size;have hcv1:=(q1.cell hbv).trans hcv;have hbv1:=sG hbv q1.b.size;clear hcw hbw hcv hbv;rcases tE v.x with hs|hs;rotate_left
    ·have HSi:=aa hs;rw[hs] at hcv1;clear hs;obtain⟨Gk,Gx,Gy,HW,k2,x3,y3,tw,vw,hne0⟩:=mV;go_wp2_with fail;refine ah an an ?_;repeat (go_big_quiet_step (first|fail))
     refine wpQuiet_nil ?_;rintro _ ⟨q2,rfl⟩;obtain⟨HB2,Ck⟩:=cd;have Cx:=upK Gx q2.b;have Cy:=upK Gy q2.b;clear hne0 HW HB k2 x3 y3 tw vw Gk Gx Gy Bk Bx By;have HB:=HB2;clear HB2;have Bk:=Ck;clear Ck;have Bx:=Cx;clear Cx;have By:=Cy;clear Cy;go_wp2_with fail;refine⟨⟨k+1,by omega,by go_num,fun j s hj hs=>?_,HB.out,Bk.out,Bx.out,By.out⟩,by simp[intOf];omega⟩;by_cases e:j=k
     ·subst e;rw[HXt.out] at hs;obtain rfl:=sx hs;intro v2 h1 h2;obtain rfl:=bm.inj HX.out HV.out HD.out h1;rw[HSi.out] at h2;cases h2
     ·exact HQ.out j s af hs
    have HSi:=aa hs;rw[hs] at hcv1;clear hs;by_cases hin:InL q.zs t
    ·have HIn:=aa hin;clear hin;obtain⟨Gk,Gx,Gy,HW,k2,x3,y3,tw,vw,hne0⟩:=mV;have HC0:=aa (fun qq:Wd q1.w=>(cq qa ql qc q.zs t qq.w (HQ0.below (HW.trans (qq.b.mono HW.size)))).mono (fun _ _ h=>al.yes h HIn.out));go_wp2_with fail;refine ah an an ?_;repeat (go_big_quiet_step (first|(go_at_call 80;exact Calls.wide (HC0.out _))|fail))
     refine wpQuiet_nil ?_;rintro _ ⟨q2,rfl⟩;obtain⟨HB2,Ck⟩:=cd;have Cx:=upK Gx q2.b;have Cy:=upK Gy q2.b;clear hne0 HW HB HC0 k2 x3 y3 tw vw Gk Gx Gy Bk Bx By;have HB:=HB2;clear HB2;have Bk:=Ck;clear Ck;have Bx:=Cx;clear Cx;have By:=Cy;clear Cy;go_wp2;go_ret;refine al.f (fun h=>?_) HB.out;rcases h with h|h|h|h
     ·exact HP0.out h
     ·exact HQ1.out h
     ·exact HPQ.out h
     ·exact h k t HXt.out v HD.out HSi.out HIn.out
    ·have HIn:=aa hin;clear hin;obtain⟨Gk,Gx,Gy,HW,k2,x3,y3,tw,vw,hne0⟩:=mV;have HC0:=aa (fun qq:Wd q1.w=>(cq qa ql qc q.zs t qq.w (HQ0.below (HW.trans (qq.b.mono HW.size)))).mono (fun _ _ h=>al.no h HIn.out));go_wp2_with fail;refine ah an an ?_;repeat (go_big_quiet_step (first|(go_at_call 80;exact Calls.wide (HC0.out _))|fail))
     refine wpQuiet_nil ?_;rintro _ ⟨q2,rfl⟩;obtain⟨HB2,Ck⟩:=cd;have Cx:=upK Gx q2.b;have Cy:=upK Gy q2.b;clear hne0 HW HB HC0 k2 x3 y3 tw vw Gk Gx Gy Bk Bx By;have HB:=HB2;clear HB2;have Bk:=Ck;clear Ck;have Bx:=Cx;clear Cx;have By:=Cy;clear Cy;go_wp2_with fail;refine⟨⟨k+1,by omega,by go_num,fun j s hj hs=>?_,HB.out,Bk.out,Bx.out,By.out⟩,by simp[intOf];omega⟩;by_cases e:j=k
     ·subst e;rw[HXt.out] at hs;obtain rfl:=sx hs;intro v2 h1 h2;exact HIn.out
     ·exact HQ.out j s af hs
   ·have HD:=aa hbd;clear hbd;have Gk:=Bk;have Gx:=Bx;have Gy:=By;have HW:=HB;obtain⟨k0,k1,k2,k3,k4,k5⟩:=sl6 Gk;have x3:=fun q:Wd wr=>q.slot (o:=3) Gx.out rfl;have tw:=fun q:Wd wr=>(q.cell hbw).trans hcw;have hne0:=Wd.ne wr;have HC0:=aa (fun q:Wd wr=>dL ⟨a1,l1,y1,a2,l2,y2,a3,l3,y3,a4,l4,y4,a5,l5,y5⟩ c t q.w (HR.below (HW.trans (q.b.mono HW.size))) HX.out HV.out HNE.out HD.out);go_wp2_with fail;refine ah an an ?_;repeat (go_big_quiet_step (first|(go_at_call 81;exact Calls.wide (HC0.out _))|fail))
    refine wpQuiet_nil ?_;rintro _ ⟨q1,rfl⟩;obtain⟨HB1,Ck⟩:=cf;have Cx:=upK Gx q1.b;have Cy:=upK Gy q1.b;clear hne0 HW HB HC0 k0 k1 k2 k3 k4 k5 x3 tw Gk Gx Gy Bk Bx By px3;have HB:=HB1;clear HB1;have Bk:=Ck;clear Ck;have Bx:=Cx;clear Cx;have By:=Cy;clear Cy;have Gk:=Bk;have Gx:=Bx;have Gy:=By;have HW:=HB;have k2:=fun q:Wd q1.w=>q.slot (o:=2) Gk.out rfl;have x3:=fun q:Wd q1.w=>q.slot (o:=3) Gx.out rfl;have y3:=fun q:Wd q1.w=>q.slot (o:=3) Gy.out rfl;have hne0:=Wd.ne q1.w;go_wp2_with fail;refine ah an an ?_;repeat (go_big_quiet_step (first|fail))
    refine wpQuiet_nil ?_;rintro _ ⟨q2,rfl⟩;obtain⟨HB2,Ck⟩:=cd;have Cx:=upK Gx q2.b;have Cy:=upK Gy q2.b;clear hne0 HW HB k2 x3 y3 Gk Gx Gy Bk Bx By;have HB:=HB2;clear HB2;have Bk:=Ck;clear Ck;have Bx:=Cx;clear Cx;have By:=Cy;clear Cy;go_wp2_with fail;refine⟨⟨k+1,by omega,by go_num,fun j s hj hs=>?_,HB.out,Bk.out,Bx.out,By.out⟩,by simp[intOf];omega⟩;by_cases e:j=k
    ·subst e;rw[HXt.out] at hs;obtain rfl:=sx hs;intro v2 h1;exact absurd h1 (HD.out v2)
    ·exact HQ.out j s af hs
  ·obtain rfl:pl=k:=af
   go_wp2;go_ret;exact al.t (.inr (.inr (.inr (fun j t ht=>HQ.out j t kO ht)))) HB.out

theorem lN (d:Ad) (c:Cl) (w:World) (hr:aL w d c.raw):
  Calls Tryz.prog 100 #[.agg #[.slice d.a1 d.l1 d.c1,.slice d.a2 d.l2 d.c2,.slice d.a3 d.l3 d.c3,.slice d.a4 d.l4 d.c4,.slice d.a5 d.l5 d.c5,.int .i64 c.now]] w (al (cM c) w):=by
 obtain⟨a1,l1,y1,a2,l2,y2,a3,l3,y3,a4,l4,y4,a5,l5,y5⟩:=d;dsimp only;obtain⟨HR,hl1,hm1,hl2,hm2,hl3,hm3,hl4,hm4,hl5,hm5⟩:=o7;clear hr;by_cases hL1:(6:Int)<l1
 ·go_enter Tryz.func100,Tryz.ntmps100;go_wp2;go_ret;exact al.f (fun h=>by have:=h.1.1;omega) (aj _ _)
 by_cases hL2:(8:Int)<l2
 ·go_enter Tryz.func100,Tryz.ntmps100;go_wp2;go_ret;exact al.f (fun h=>by have:=h.2.1.1;omega) (aj _ _)
 by_cases hL3:(8:Int)<l3
 ·go_enter Tryz.func100,Tryz.ntmps100;go_wp2;go_ret;exact al.f (fun h=>by have:=h.2.2.1.1;omega) (aj _ _)
 by_cases hL4:(8:Int)<l4
 ·go_enter Tryz.func100,Tryz.ntmps100;go_wp2;go_ret;exact al.f (fun h=>by have:=h.2.2.2.1.1;omega) (aj _ _)
 by_cases hL5:(8:Int)<l5
 ·go_enter Tryz.func100,Tryz.ntmps100;go_wp2;go_ret;exact al.f (fun h=>by have:=h.2.2.2.2.1;omega) (aj _ _)
 go_enter Tryz.func100,Tryz.ntmps100;go_wp2;go_loopw [3] (fun i wr=> ∃k:Nat,k<=l1/\i=.int .i64 k/\Hid (∀(j:Nat) z,j<k->c.ns[j]?=some z->jU z)/\Hid (∀(j:Nat) z u,j+1<k->c.ns[j+1]?=some z->c.ns[j]?=some u->sJ u.n.toList z.n.toList=true)/\Hid (Below w.heap.size w wr)/\Hid (wr.heap[w.heap.size]?=some (.cells (clo6 a1 l1 y1 a2 l2 y2 a3 l3 y3 a4 l4 y4 a5 l5 y5 c.now) 36 (0,0)))) (fun i _=>l1 - (intOf i).toNat);case atStart=>exact⟨0,by omega,rfl,fun _ _ h=>absurd h af,fun _ _ _ h=>absurd h af,aj _ _,sH⟩
 case round=>
  obtain⟨k,hk,rfl,HQ,HO,HB,Bk⟩:=hrel;have pk:=ck0 Bk;by_cases hlt:k<l1
  ·obtain⟨b,o,x,rfl,hb,hx,hat⟩:=bq (HR.n.below HB.out) hlt;obtain⟨va,vl,vc,hvr,z0,z1,c0,c1,c2,c3,c4,c5,c6⟩:=aK hat;have HXx:=aa hx;have HTx:=aa hvr;have HZx0:=aa z0;have HZx1:=aa z1;clear hat hx z0 z1 hvr;by_cases hok:jU x;rotate_left
   ·have HOK:=aa hok;clear hok;have Gk:=Bk;have HW:=HB;have k0:=fun q:Wd wr=>q.slot (o:=0) Gk.out rfl;obtain⟨x0,x1,x2,x3,x4⟩:=dz;obtain⟨x5,x6⟩:=eU;have hne0:=Wd.ne wr;have HC0:=aa (fun q:Wd wr=>(dr x.n x.z x.c x.s x.u x.d va vl vc x.zs q.w HZx0.out HZx1.out (HTx.below q.b)).mono (fun _ _ h=>al.no h HOK.out));go_wp2_with fail;refine ah an an ?_;repeat (go_big_quiet_step (first|(go_at_call 116;exact Calls.wide (HC0.out _))|fail))
    refine wpQuiet_nil ?_;rintro _ ⟨q,rfl⟩;obtain⟨HB1,Ck⟩:=bF;clear hne0 HW HB HC0 k0 x0 x1 x2 x3 x4 x5 x6 Gk Bk c0 c1 c2 c3 c4 c5 c6 pk;have HB:=HB1;clear HB1;have Bk:=Ck;clear Ck;go_wp2;go_ret;exact al.f (fun h=>HOK.out (h.1.2.1 k x HXx.out)) HB.out
   have HOK:=aa hok;clear hok;by_cases hk0:0<k;rotate_left
   ·obtain⟨hd,Gk⟩:=iC;have HW:=HB;have k0:=fun q:Wd wr=>q.slot (o:=0) Gk.out rfl;obtain⟨x0,x1,x2,x3,x4⟩:=dz;obtain⟨x5,x6⟩:=eU;have hne0:=Wd.ne wr;have HC0:=aa (fun q:Wd wr=>(dr x.n x.z x.c x.s x.u x.d va vl vc x.zs q.w HZx0.out HZx1.out (HTx.below q.b)).mono (fun _ _ h=>al.yes h HOK.out));go_wp2_with fail;refine ah an an ?_;repeat (go_big_quiet_step (first|(go_at_call 116;exact Calls.wide (HC0.out _))|fail))
    refine wpQuiet_nil ?_;rintro _ ⟨q,rfl⟩;obtain⟨HB1,Ck⟩:=bF;clear hne0 HW HB HC0 k0 x0 x1 x2 x3 x4 x5 x6 Gk Bk c0 c1 c2 c3 c4 c5 c6 pk;exact ng
   have ek:((k:Int) - 1).toNat=k - 1:=af
   obtain⟨b',o',y,e',hb',hy,haty⟩:=bq (HR.n.below HB.out) (show k - 1<l1 by omega);cases e';have y0:wr.cell? ⟨b,o+(k - 1)*7,none⟩=some (.string y.n):=by
    exact iM
   have HXy:=aa hy;clear hy haty;cases hless:sJ y.n.toList x.n.toList
   ·obtain⟨Gk,HW,k0⟩:=pC;obtain⟨x0,x1,x2,x3,x4⟩:=dz;obtain⟨x5,x6⟩:=eU;obtain⟨yw,hne0⟩:=dE;have HC0:=aa (fun q:Wd wr=>(dr x.n x.z x.c x.s x.u x.d va vl vc x.zs q.w HZx0.out HZx1.out (HTx.below q.b)).mono (fun _ _ h=>al.yes h HOK.out));go_wp2_with fail;refine ah an an ?_;repeat (go_big_quiet_step (first|(go_at_call 116;exact Calls.wide (HC0.out _))|fail))
    refine wpQuiet_nil ?_;rintro _ ⟨q,rfl⟩;obtain⟨HB1,Ck⟩:=bF;clear hne0 HW HB HC0 k0 x0 x1 x2 x3 x4 x5 x6 yw Gk Bk c0 c1 c2 c3 c4 c5 c6 pk y0;have HB:=HB1;clear HB1;have Bk:=Ck;clear Ck;go_wp2;go_ret;refine al.f (fun h=>?_) HB.out;have h3:=h.1.2.2 (k - 1) x y iz HXy.out;rw[hless] at h3;cases h3
   ·obtain⟨Gk,HW,k0⟩:=pC;obtain⟨x0,x1,x2,x3,x4⟩:=dz;obtain⟨x5,x6⟩:=eU;obtain⟨yw,hne0⟩:=dE;have HC0:=aa (fun q:Wd wr=>(dr x.n x.z x.c x.s x.u x.d va vl vc x.zs q.w HZx0.out HZx1.out (HTx.below q.b)).mono (fun _ _ h=>al.yes h HOK.out));go_wp2_with fail;refine ah an an ?_;repeat (go_big_quiet_step (first|(go_at_call 116;exact Calls.wide (HC0.out _))|fail))
    refine wpQuiet_nil ?_;rintro _ ⟨q,rfl⟩;obtain⟨HB1,Ck⟩:=bF;clear hne0 HW HB HC0 k0 x0 x1 x2 x3 x4 x5 x6 yw Gk Bk c0 c1 c2 c3 c4 c5 c6 pk y0;exact nk
  ·obtain rfl:l1=k:=af
   have HR1:Hid (cA jU Nd.n c.ns 6):=⟨by omega,fun j z hz=>HQ.out j z bI hz,fun j z u hz hu=>HO.out j z u bI hz hu⟩;clear HQ HO;skip;have kc:=ck1 Bk;go_wp2;go_loopw [4] (fun i wr=> ∃k:Nat,k<=l2/\i=.int .i64 k/\Hid (∀(j:Nat) z,j<k->c.ks[j]?=some z->j7 z)/\Hid (∀(j:Nat) z u,j+1<k->c.ks[j+1]?=some z->c.ks[j]?=some u->sJ u.n.toList z.n.toList=true)/\Hid (Below w.heap.size w wr)/\Hid (wr.heap[w.heap.size]?=some (.cells (clo6 a1 l1 y1 a2 l2 y2 a3 l3 y3 a4 l4 y4 a5 l5 y5 c.now) 36 (0,0)))) (fun i _=>l2 - (intOf i).toNat);case atStart=>exact⟨0,by omega,rfl,fun _ _ h=>absurd h af,fun _ _ _ h=>absurd h af,HB.out,Bk.out⟩
   case round=>
    obtain⟨k,hk,rfl,HQ,HO,HB,Bk⟩:=hrel;have pk:=ck1 Bk;by_cases hlt:k<l2
    ·obtain⟨b,o,x,rfl,hb,hx,hat⟩:=dH (HR.k.below HB.out) hlt;obtain⟨z0,z3,c0,c1,c2,c3⟩:=bl hat;have HXx:=aa hx;have HZx0:=aa z0;have HZx3:=aa z3;clear hat hx z0 z3;by_cases hok:j7 x;rotate_left
     ·have HOK:=aa hok;clear hok;have Gk:=Bk;obtain⟨HW,k1,x0,x1,x2,x3⟩:=kU;have hne0:=Wd.ne wr;have HC0:=aa (fun q:Wd wr=>(cR x.n x.z x.x x.y q.w HZx0.out HZx3.out).mono (fun _ _ h=>al.no h HOK.out));go_wp2_with fail;refine ah an an ?_;repeat (go_big_quiet_step (first|(go_at_call 117;exact Calls.wide (HC0.out _))|fail))
      refine wpQuiet_nil ?_;rintro _ ⟨q,rfl⟩;obtain⟨HB1,Ck⟩:=bF;clear hne0 HW HB HC0 k1 x0 x1 x2 x3 Gk Bk c0 c1 c2 c3 pk;have HB:=HB1;clear HB1;have Bk:=Ck;clear Ck;go_wp2;go_ret;exact al.f (fun h=>HOK.out (h.2.1.2.1 k x HXx.out)) HB.out
     have HOK:=aa hok;clear hok;by_cases hk0:0<k;rotate_left
     ·obtain⟨hd,Gk⟩:=iC;obtain⟨HW,k1,x0,x1,x2,x3⟩:=kU;have hne0:=Wd.ne wr;have HC0:=aa (fun q:Wd wr=>(cR x.n x.z x.x x.y q.w HZx0.out HZx3.out).mono (fun _ _ h=>al.yes h HOK.out));go_wp2_with fail;refine ah an an ?_;repeat (go_big_quiet_step (first|(go_at_call 117;exact Calls.wide (HC0.out _))|fail))
      refine wpQuiet_nil ?_;rintro _ ⟨q,rfl⟩;obtain⟨HB1,Ck⟩:=bF;clear hne0 HW HB HC0 k1 x0 x1 x2 x3 Gk Bk c0 c1 c2 c3 pk;exact ng
     have ek:((k:Int) - 1).toNat=k - 1:=af
     obtain⟨b',o',y,e',hb',hy,haty⟩:=dH (HR.k.below HB.out) (show k - 1<l2 by omega);cases e';have y0:wr.cell? ⟨b,o+(k - 1)*4,none⟩=some (.string y.n):=by
      exact iM
     have HXy:=aa hy;clear hy haty;cases hless:sJ y.n.toList x.n.toList
     ·have Gk:Hid (wr.heap[w.heap.size]?=some (.cells (clo6 a1 l1 y1 (some ⟨b,o,none⟩) l2 y2 a3 l3 y3 a4 l4 y4 a5 l5 y5 c.now) 36 (0,0))):=Bk.out;obtain⟨HW,k1,x0,x1,x2,x3⟩:=kU;obtain⟨yw,hne0⟩:=dE;have HC0:=aa (fun q:Wd wr=>(cR x.n x.z x.x x.y q.w HZx0.out HZx3.out).mono (fun _ _ h=>al.yes h HOK.out));go_wp2_with fail;refine ah an an ?_;repeat (go_big_quiet_step (first|(go_at_call 117;exact Calls.wide (HC0.out _))|fail))
      refine wpQuiet_nil ?_;rintro _ ⟨q,rfl⟩;obtain⟨HB1,Ck⟩:=bF;clear hne0 HW HB HC0 k1 x0 x1 x2 x3 yw Gk Bk c0 c1 c2 c3 pk y0;have HB:=HB1;clear HB1;have Bk:=Ck;clear Ck;go_wp2;go_ret;refine al.f (fun h=>?_) HB.out;have h3:=h.2.1.2.2 (k - 1) x y iz HXy.out;rw[hless] at h3;cases h3
     ·have Gk:Hid (wr.heap[w.heap.size]?=some (.cells (clo6 a1 l1 y1 (some ⟨b,o,none⟩) l2 y2 a3 l3 y3 a4 l4 y4 a5 l5 y5 c.now) 36 (0,0))):=Bk.out;obtain⟨HW,k1,x0,x1,x2,x3⟩:=kU;obtain⟨yw,hne0⟩:=dE;have HC0:=aa (fun q:Wd wr=>(cR x.n x.z x.x x.y q.w HZx0.out HZx3.out).mono (fun _ _ h=>al.yes h HOK.out));go_wp2_with fail;refine ah an an ?_;repeat (go_big_quiet_step (first|(go_at_call 117;exact Calls.wide (HC0.out _))|fail))
      refine wpQuiet_nil ?_;rintro _ ⟨q,rfl⟩;obtain⟨HB1,Ck⟩:=bF;clear hne0 HW HB HC0 k1 x0 x1 x2 x3 yw Gk Bk c0 c1 c2 c3 pk y0;exact nk
    ·obtain rfl:l2=k:=af
     have HR2:Hid (cA j7 Kd.n c.ks 8):=⟨by omega,fun j z hz=>HQ.out j z bI hz,fun j z u hz hu=>HO.out j z u bI hz hu⟩;clear HQ HO;skip;have kc:=ck2 Bk;go_wp2;go_loopw [5] (fun i wr=> ∃k:Nat,k<=l3/\i=.int .i64 k/\Hid (∀(j:Nat) z,j<k->c.vs[j]?=some z->jy z)/\Hid (∀(j:Nat) z u,j+1<k->c.vs[j+1]?=some z->c.vs[j]?=some u->sJ u.n.toList z.n.toList=true)/\Hid (Below w.heap.size w wr)/\Hid (wr.heap[w.heap.size]?=some (.cells (clo6 a1 l1 y1 a2 l2 y2 a3 l3 y3 a4 l4 y4 a5 l5 y5 c.now) 36 (0,0)))) (fun i _=>l3 - (intOf i).toNat);case atStart=>exact⟨0,by omega,rfl,fun _ _ h=>absurd h af,fun _ _ _ h=>absurd h af,HB.out,Bk.out⟩
     case round=>
      obtain⟨k,hk,rfl,HQ,HO,HB,Bk⟩:=hrel;have pk:=ck2 Bk;by_cases hlt:k<l3
      ·obtain⟨b,o,x,rfl,hb,hx,hat⟩:=bk (HR.v.below HB.out) hlt;obtain⟨va,vl,vc,hvr,z0,z2,z3,z5,c0,c1,c2,c3,c4,c5,c6,c7⟩:=aE hat;have HXx:=aa hx;have HTx:=aa hvr;have HZx0:=aa z0;have HZx2:=aa z2;have HZx3:=aa z3;have HZx5:=aa z5;clear hat hx z0 z2 z3 z5 hvr;by_cases hok:jy x;rotate_left
       ·have HOK:=aa hok;clear hok;have Gk:=Bk;have HW:=HB;have k2:=fun q:Wd wr=>q.slot (o:=2) Gk.out rfl;obtain⟨x0,x1,x2,x3,x4⟩:=dz;obtain⟨x5,x6⟩:=eU;have x7:=fun q:Wd wr=>(q.cell hb).trans c7;have hne0:=Wd.ne wr;have HC0:=aa (fun q:Wd wr=>(dX x.n x.c x.z x.k x.x x.m x.y va vl vc x.zs q.w HZx0.out HZx2.out HZx3.out HZx5.out (HTx.below q.b)).mono (fun _ _ h=>al.no h HOK.out));go_wp2_with fail;refine ah an an ?_;repeat (go_big_quiet_step (first|(go_at_call 118;exact Calls.wide (HC0.out _))|fail))
        refine wpQuiet_nil ?_;rintro _ ⟨q,rfl⟩;obtain⟨HB1,Ck⟩:=bF;clear hne0 HW HB HC0 k2 x0 x1 x2 x3 x4 x5 x6 x7 Gk Bk c0 c1 c2 c3 c4 c5 c6 c7 pk;have HB:=HB1;clear HB1;have Bk:=Ck;clear Ck;go_wp2;go_ret;exact al.f (fun h=>HOK.out (h.2.2.1.2.1 k x HXx.out)) HB.out
       have HOK:=aa hok;clear hok;by_cases hk0:0<k;rotate_left
       ·obtain⟨hd,Gk⟩:=iC;have HW:=HB;have k2:=fun q:Wd wr=>q.slot (o:=2) Gk.out rfl;obtain⟨x0,x1,x2,x3,x4⟩:=dz;obtain⟨x5,x6⟩:=eU;have x7:=fun q:Wd wr=>(q.cell hb).trans c7;have hne0:=Wd.ne wr;have HC0:=aa (fun q:Wd wr=>(dX x.n x.c x.z x.k x.x x.m x.y va vl vc x.zs q.w HZx0.out HZx2.out HZx3.out HZx5.out (HTx.below q.b)).mono (fun _ _ h=>al.yes h HOK.out));go_wp2_with fail;refine ah an an ?_;repeat (go_big_quiet_step (first|(go_at_call 118;exact Calls.wide (HC0.out _))|fail))
        refine wpQuiet_nil ?_;rintro _ ⟨q,rfl⟩;obtain⟨HB1,Ck⟩:=bF;clear hne0 HW HB HC0 k2 x0 x1 x2 x3 x4 x5 x6 x7 Gk Bk c0 c1 c2 c3 c4 c5 c6 c7 pk;exact ng
       have ek:((k:Int) - 1).toNat=k - 1:=af
       obtain⟨b',o',y,e',hb',hy,haty⟩:=bk (HR.v.below HB.out) (show k - 1<l3 by omega);cases e';have y0:wr.cell? ⟨b,o+(k - 1)*8,none⟩=some (.string y.n):=by
        exact iM
       have HXy:=aa hy;clear hy haty;cases hless:sJ y.n.toList x.n.toList
       ·obtain⟨Gk,HW,k2⟩:=pB;obtain⟨x0,x1,x2,x3,x4⟩:=dz;obtain⟨x5,x6⟩:=eU;have x7:=fun q:Wd wr=>(q.cell hb).trans c7;obtain⟨yw,hne0⟩:=dE;have HC0:=aa (fun q:Wd wr=>(dX x.n x.c x.z x.k x.x x.m x.y va vl vc x.zs q.w HZx0.out HZx2.out HZx3.out HZx5.out (HTx.below q.b)).mono (fun _ _ h=>al.yes h HOK.out));go_wp2_with fail;refine ah an an ?_;repeat (go_big_quiet_step (first|(go_at_call 118;exact Calls.wide (HC0.out _))|fail))
        refine wpQuiet_nil ?_;rintro _ ⟨q,rfl⟩;obtain⟨HB1,Ck⟩:=bF;clear hne0 HW HB HC0 k2 x0 x1 x2 x3 x4 x5 x6 x7 yw Gk Bk c0 c1 c2 c3 c4 c5 c6 c7 pk y0;have HB:=HB1;clear HB1;have Bk:=Ck;clear Ck;go_wp2;go_ret;refine al.f (fun h=>?_) HB.out;have h3:=h.2.2.1.2.2 (k - 1) x y iz HXy.out;rw[hless] at h3;cases h3
       ·obtain⟨Gk,HW,k2⟩:=pB;obtain⟨x0,x1,x2,x3,x4⟩:=dz;obtain⟨x5,x6⟩:=eU;have x7:=fun q:Wd wr=>(q.cell hb).trans c7;obtain⟨yw,hne0⟩:=dE;have HC0:=aa (fun q:Wd wr=>(dX x.n x.c x.z x.k x.x x.m x.y va vl vc x.zs q.w HZx0.out HZx2.out HZx3.out HZx5.out (HTx.below q.b)).mono (fun _ _ h=>al.yes h HOK.out));go_wp2_with fail;refine ah an an ?_;repeat (go_big_quiet_step (first|(go_at_call 118;exact Calls.wide (HC0.out _))|fail))
        refine wpQuiet_nil ?_;rintro _ ⟨q,rfl⟩;obtain⟨HB1,Ck⟩:=bF;clear hne0 HW HB HC0 k2 x0 x1 x2 x3 x4 x5 x6 x7 yw Gk Bk c0 c1 c2 c3 c4 c5 c6 c7 pk y0;exact nk
      ·obtain rfl:l3=k:=af
       have HR3:Hid (cA jy Vd.n c.vs 8):=⟨by omega,fun j z hz=>HQ.out j z bI hz,fun j z u hz hu=>HO.out j z u bI hz hu⟩;clear HQ HO;skip;have kc:=ck3 Bk;go_wp2;go_loopw [6] (fun i wr=> ∃k:Nat,k<=l4/\i=.int .i64 k/\Hid (∀(j:Nat) z,j<k->c.xs[j]?=some z->ju z)/\Hid (∀(j:Nat) z u,j+1<k->c.xs[j+1]?=some z->c.xs[j]?=some u->sJ u.n.toList z.n.toList=true)/\Hid (Below w.heap.size w wr)/\Hid (wr.heap[w.heap.size]?=some (.cells (clo6 a1 l1 y1 a2 l2 y2 a3 l3 y3 a4 l4 y4 a5 l5 y5 c.now) 36 (0,0)))) (fun i _=>l4 - (intOf i).toNat);case atStart=>exact⟨0,by omega,rfl,fun _ _ h=>absurd h af,fun _ _ _ h=>absurd h af,HB.out,Bk.out⟩
       case round=>
        obtain⟨k,hk,rfl,HQ,HO,HB,Bk⟩:=hrel;have pk:=ck3 Bk;by_cases hlt:k<l4
        ·obtain⟨b,o,x,rfl,hb,hx,hat⟩:=cD (HR.x.below HB.out) hlt;obtain⟨z0,z2,z4,c0,c1,c2,c3,c4⟩:=aU hat;have HXx:=aa hx;have HZx0:=aa z0;have HZx2:=aa z2;have HZx4:=aa z4;clear hat hx z0 z2 z4;by_cases hok:ju x;rotate_left
         ·have HOK:=aa hok;clear hok;have Gk:=Bk;have HW:=HB;have k3:=fun q:Wd wr=>q.slot (o:=3) Gk.out rfl;obtain⟨x0,x1,x2,x3,x4⟩:=dz;have hne0:=Wd.ne wr;have HC0:=aa (fun q:Wd wr=>(cS x.n x.z x.k x.x x.v q.w HZx0.out HZx2.out HZx4.out).mono (fun _ _ h=>al.no h HOK.out));go_wp2_with fail;refine ah an an ?_;repeat (go_big_quiet_step (first|(go_at_call 119;exact Calls.wide (HC0.out _))|fail))
          refine wpQuiet_nil ?_;rintro _ ⟨q,rfl⟩;obtain⟨HB1,Ck⟩:=bF;clear hne0 HW HB HC0 k3 x0 x1 x2 x3 x4 Gk Bk c0 c1 c2 c3 c4 pk;have HB:=HB1;clear HB1;have Bk:=Ck;clear Ck;go_wp2;go_ret;exact al.f (fun h=>HOK.out (h.2.2.2.1.2.1 k x HXx.out)) HB.out
         have HOK:=aa hok;clear hok;by_cases hk0:0<k;rotate_left
         ·obtain⟨hd,Gk⟩:=iC;have HW:=HB;have k3:=fun q:Wd wr=>q.slot (o:=3) Gk.out rfl;obtain⟨x0,x1,x2,x3,x4⟩:=dz;have hne0:=Wd.ne wr;have HC0:=aa (fun q:Wd wr=>(cS x.n x.z x.k x.x x.v q.w HZx0.out HZx2.out HZx4.out).mono (fun _ _ h=>al.yes h HOK.out));go_wp2_with fail;refine ah an an ?_;repeat (go_big_quiet_step (first|(go_at_call 119;exact Calls.wide (HC0.out _))|fail))
          refine wpQuiet_nil ?_;rintro _ ⟨q,rfl⟩;obtain⟨HB1,Ck⟩:=bF;clear hne0 HW HB HC0 k3 x0 x1 x2 x3 x4 Gk Bk c0 c1 c2 c3 c4 pk;exact ng
         have ek:((k:Int) - 1).toNat=k - 1:=af
         obtain⟨b',o',y,e',hb',hy,haty⟩:=cD (HR.x.below HB.out) (show k - 1<l4 by omega);cases e';have y0:wr.cell? ⟨b,o+(k - 1)*5,none⟩=some (.string y.n):=by
          exact iM
         have HXy:=aa hy;clear hy haty;cases hless:sJ y.n.toList x.n.toList
         ·obtain⟨Gk,HW,k3⟩:=pA;obtain⟨x0,x1,x2,x3,x4⟩:=dz;obtain⟨yw,hne0⟩:=dE;have HC0:=aa (fun q:Wd wr=>(cS x.n x.z x.k x.x x.v q.w HZx0.out HZx2.out HZx4.out).mono (fun _ _ h=>al.yes h HOK.out));go_wp2_with fail;refine ah an an ?_;repeat (go_big_quiet_step (first|(go_at_call 119;exact Calls.wide (HC0.out _))|fail))
          refine wpQuiet_nil ?_;rintro _ ⟨q,rfl⟩;obtain⟨HB1,Ck⟩:=bF;clear hne0 HW HB HC0 k3 x0 x1 x2 x3 x4 yw Gk Bk c0 c1 c2 c3 c4 pk y0;have HB:=HB1;clear HB1;have Bk:=Ck;clear Ck;go_wp2;go_ret;refine al.f (fun h=>?_) HB.out;have h3:=h.2.2.2.1.2.2 (k - 1) x y iz HXy.out;rw[hless] at h3;cases h3
         ·obtain⟨Gk,HW,k3⟩:=pA;obtain⟨x0,x1,x2,x3,x4⟩:=dz;obtain⟨yw,hne0⟩:=dE;have HC0:=aa (fun q:Wd wr=>(cS x.n x.z x.k x.x x.v q.w HZx0.out HZx2.out HZx4.out).mono (fun _ _ h=>al.yes h HOK.out));go_wp2_with fail;refine ah an an ?_;repeat (go_big_quiet_step (first|(go_at_call 119;exact Calls.wide (HC0.out _))|fail))
          refine wpQuiet_nil ?_;rintro _ ⟨q,rfl⟩;obtain⟨HB1,Ck⟩:=bF;clear hne0 HW HB HC0 k3 x0 x1 x2 x3 x4 yw Gk Bk c0 c1 c2 c3 c4 pk y0;exact nk
        ·obtain rfl:l4=k:=af
         have HR4:Hid (cA ju Xd.n c.xs 8):=⟨by omega,fun j z hz=>HQ.out j z bI hz,fun j z u hz hu=>HO.out j z u bI hz hu⟩;clear HQ HO;skip;have kc:=ck4 Bk;go_wp2;go_loopw [7] (fun i wr=> ∃k:Nat,k<=l5/\i=.int .i64 k/\Hid (∀(j:Nat) z,j<k->c.ps[j]?=some z->jQ z)/\Hid (∀(j:Nat) z u,j+1<k->c.ps[j+1]?=some z->c.ps[j]?=some u->sJ u.n.toList z.n.toList=true)/\Hid (Below w.heap.size w wr)/\Hid (wr.heap[w.heap.size]?=some (.cells (clo6 a1 l1 y1 a2 l2 y2 a3 l3 y3 a4 l4 y4 a5 l5 y5 c.now) 36 (0,0)))) (fun i _=>l5 - (intOf i).toNat);case atStart=>exact⟨0,by omega,rfl,fun _ _ h=>absurd h af,fun _ _ _ h=>absurd h af,HB.out,Bk.out⟩
         case round=>
          obtain⟨k,hk,rfl,HQ,HO,HB,Bk⟩:=hrel;have pk:=ck4 Bk;by_cases hlt:k<l5
          ·obtain⟨b,o,x,rfl,hb,hx,hat⟩:=bR (HR.p.below HB.out) hlt;obtain⟨va,vl,vc,hvr,z0,z2,z4,c0,c1,c2,c3,c4,c5⟩:=aO hat;have HXx:=aa hx;have HTx:=aa hvr;have HZx0:=aa z0;have HZx2:=aa z2;have HZx4:=aa z4;clear hat hx z0 z2 z4 hvr;by_cases hok:jQ x;rotate_left
           ·have HOK:=aa hok;clear hok;have Gk:=Bk;have HW:=HB;have k4:=fun q:Wd wr=>q.slot (o:=4) Gk.out rfl;obtain⟨x0,x1,x2,x3,x4⟩:=dz;have x5:=fun q:Wd wr=>(q.cell hb).trans c5;have hne0:=Wd.ne wr;have HC0:=aa (fun q:Wd wr=>(dZ x.n x.c x.z va vl vc x.zs x.d x.p q.w HZx0.out HZx2.out HZx4.out (HTx.below q.b)).mono (fun _ _ h=>al.no h HOK.out));go_wp2_with fail;refine ah an an ?_;repeat (go_big_quiet_step (first|(go_at_call 120;exact Calls.wide (HC0.out _))|fail))
            refine wpQuiet_nil ?_;rintro _ ⟨q,rfl⟩;obtain⟨HB1,Ck⟩:=bF;clear hne0 HW HB HC0 k4 x0 x1 x2 x3 x4 x5 Gk Bk c0 c1 c2 c3 c4 c5 pk;have HB:=HB1;clear HB1;have Bk:=Ck;clear Ck;go_wp2;go_ret;exact al.f (fun h=>HOK.out (h.2.2.2.2.2.1 k x HXx.out)) HB.out
           have HOK:=aa hok;clear hok;by_cases hk0:0<k;rotate_left
           ·obtain⟨hd,Gk⟩:=iC;have HW:=HB;have k4:=fun q:Wd wr=>q.slot (o:=4) Gk.out rfl;obtain⟨x0,x1,x2,x3,x4⟩:=dz;have x5:=fun q:Wd wr=>(q.cell hb).trans c5;have hne0:=Wd.ne wr;have HC0:=aa (fun q:Wd wr=>(dZ x.n x.c x.z va vl vc x.zs x.d x.p q.w HZx0.out HZx2.out HZx4.out (HTx.below q.b)).mono (fun _ _ h=>al.yes h HOK.out));go_wp2_with fail;refine ah an an ?_;repeat (go_big_quiet_step (first|(go_at_call 120;exact Calls.wide (HC0.out _))|fail))
            refine wpQuiet_nil ?_;rintro _ ⟨q,rfl⟩;obtain⟨HB1,Ck⟩:=bF;clear hne0 HW HB HC0 k4 x0 x1 x2 x3 x4 x5 Gk Bk c0 c1 c2 c3 c4 c5 pk;exact ng
           have ek:((k:Int) - 1).toNat=k - 1:=af
           obtain⟨b',o',y,e',hb',hy,haty⟩:=bR (HR.p.below HB.out) (show k - 1<l5 by omega);cases e';have y0:wr.cell? ⟨b,o+(k - 1)*6,none⟩=some (.string y.n):=by
            exact iM
           have HXy:=aa hy;clear hy haty;cases hless:sJ y.n.toList x.n.toList
           ·obtain⟨Gk,HW,k4⟩:=pz;obtain⟨x0,x1,x2,x3,x4⟩:=dz;have x5:=fun q:Wd wr=>(q.cell hb).trans c5;obtain⟨yw,hne0⟩:=dE;have HC0:=aa (fun q:Wd wr=>(dZ x.n x.c x.z va vl vc x.zs x.d x.p q.w HZx0.out HZx2.out HZx4.out (HTx.below q.b)).mono (fun _ _ h=>al.yes h HOK.out));go_wp2_with fail;refine ah an an ?_;repeat (go_big_quiet_step (first|(go_at_call 120;exact Calls.wide (HC0.out _))|fail))
            refine wpQuiet_nil ?_;rintro _ ⟨q,rfl⟩;obtain⟨HB1,Ck⟩:=bF;clear hne0 HW HB HC0 k4 x0 x1 x2 x3 x4 x5 yw Gk Bk c0 c1 c2 c3 c4 c5 pk y0;have HB:=HB1;clear HB1;have Bk:=Ck;clear Ck;go_wp2;go_ret;refine al.f (fun h=>?_) HB.out;have h3:=h.2.2.2.2.2.2 (k - 1) x y iz HXy.out;rw[hless] at h3;cases h3
           ·obtain⟨Gk,HW,k4⟩:=pz;obtain⟨x0,x1,x2,x3,x4⟩:=dz;have x5:=fun q:Wd wr=>(q.cell hb).trans c5;obtain⟨yw,hne0⟩:=dE;have HC0:=aa (fun q:Wd wr=>(dZ x.n x.c x.z va vl vc x.zs x.d x.p q.w HZx0.out HZx2.out HZx4.out (HTx.below q.b)).mono (fun _ _ h=>al.yes h HOK.out));go_wp2_with fail;refine ah an an ?_;repeat (go_big_quiet_step (first|(go_at_call 120;exact Calls.wide (HC0.out _))|fail))
            refine wpQuiet_nil ?_;rintro _ ⟨q,rfl⟩;obtain⟨HB1,Ck⟩:=bF;clear hne0 HW HB HC0 k4 x0 x1 x2 x3 x4 x5 yw Gk Bk c0 c1 c2 c3 c4 c5 pk y0;exact nk
          ·obtain rfl:l5=k:=af
           have HR5:Hid (cA jQ Pd.n c.ps 8):=⟨by omega,fun j z hz=>HQ.out j z bI hz,fun j z u hz hu=>HO.out j z u bI hz hu⟩;clear HQ HO;go_wp2;go_ret;exact al.t ⟨HR1.out,HR2.out,HR3.out,HR4.out,HR5.out⟩ HB.out

end Rc
end Go.Proofs.YtdfgbboadbnodaaGreatDoor
