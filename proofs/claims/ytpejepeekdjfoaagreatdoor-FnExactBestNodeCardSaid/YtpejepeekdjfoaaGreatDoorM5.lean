import Derived.Test.YtpejepeekdjfoaaGreatDoorM1
import Derived.Test.YtpejepeekdjfoaaGreatDoorRows
import Derived.WalkKit
import Derived.WalkSpells
import Derived.OwnWalk
import Derived.Outline
import Derived.Laws.Cover1
import Derived.Lib.BufferWrite
import Derived.Laws.CopyOwn
import Derived.Deep.QuietTactic
import Derived.BigQuiet
import Derived.WalkSmall
import Derived.Deep.RegionWith
import Derived.BigRegion
import Derived.LaidEql
import Derived.Stop.Asserts
import Derived.RowKitTokens
import Derived.RegionTactic
import Derived.Laws.AppendOwn
import Derived.Laws.AppendOwnNone
import Derived.Deep.AppendLies
set_option maxRecDepth 100000
set_option maxHeartbeats 12800000
open And renaming intro→Fo
open Array renaming getD_eq_getD_getElem?→Fx, getElem?_push_size→FD, getElem?_eq_some_iff→FG, getElem?_setIfInBounds→FL
open Bool renaming and_eq_true→Gl, eq_false_or_eq_true→G1
open Go.Act renaming put→GI
open Go.Addr renaming add_lit→FT
open Go.Builtin renaming append_→GC
open Go.Calls renaming quiet_of_same→FY
open Go.Instr renaming typeAssert→GQ
open Go.Lib renaming toList_data→Hp
open Go.Op renaming bytesLess→FB
open Go.Region renaming wanted→GO
open Go.RowKit.Below renaming heap_setCell→Fp, refl→Fw, heap_alloc→Fy
open Go.Value renaming string→FK, oneCell'→GF
open Go.World renaming setCell→Gf, ownsRow_nil→Gh
open Int renaming le_trans→F8
open List renaming getElem?_eq_some_iff→Fm, lookup→Fs, getElem?_eq_getElem→Fu, setIfInBounds_toArray→Fz, getElem?_map→FC, take_of_length_le→FF, set_cons_zero→FH, forall_mem_cons→FI, set_cons_succ→FM, getElem?_append_left→FN, length_take→FQ, getElem?_take→FR, length_map→FU, mem_of_getElem?→FZ, take_add_one→F6, length_append→F7, getElem?_cons_zero→F9, foldr→Gd, mem_cons→Gj, getElem?_drop→Gm, range→Gq, all_eq_true→GA, append_nil→GD, length_drop→GG, not_mem_nil→GM, drop_eq_getElem_cons→GU, mem_append→G2, getElem?_toArray→G9, pairwise_append→Hd, getElem?_append→Hj
open Nat renaming le_refl→Ft, le_trans→FA, lt_of_lt_of_le→FE, le_succ→FV, zero_add→FX
open Option renaming map_eq_some_iff→FJ
open Option.some renaming inj→Fq, injEq→Gw
namespace Go.Proofs.YtpejepeekdjfoaaGreatDoor
theorem uP {p:Prop} (h:p:=by simp[results,Tryz.results178,go_sem, *]):p:=h
end Go.Proofs.YtpejepeekdjfoaaGreatDoor
namespace Go.Proofs.YtpejepeekdjfoaaGreatDoor
theorem Ec {p:Prop} (h:p:=by
 obtain⟨k0,k1,k2,k3,k4,k5⟩:=cs6 Bk;obtain⟨p0,p1,p2,p3,p4,p5⟩:=cs6 Bp;have ltp_1:=ae Bp.out;go_wp2;go_loopw [35] (fun i wr=> ∃k:Nat,k<=pl/\i=.int .i64 k/\Hid (∀(j:Nat) t,j<k->p.zs[j]?=some t->∃v,bJ c t v/\v.z=n.z)/\Hid (Below w.heap.size w wr)/\Hid (wr.heap[w.heap.size]?=some (.cells (clv d c.now) 36 (0,0)))/\Hid (wr.heap[w1.heap.size]?=some (.cells (nov n va vl vc) 57 (0,0)))) (fun i _=>pl - (intOf i).toNat);case atStart=>exact⟨0,by omega,rfl,fun _ _ h=>absurd h af,HB.alloc HB.size _,(Fy _ _ _ (ae Bk.out)).trans Bk.out,FD⟩
 case round=>
  obtain⟨k,hk,rfl,HQ,HB,Bk,Bn⟩:=hrel;by_cases hlt:k<pl
  ·obtain⟨b,o,t,rfl,hb,hx,hc,hsz⟩:=(HP.below HB.out).at hlt;have HXt:=aa hx;clear hx hsz;obtain⟨k0,k1,k2,k3,k4,k5⟩:=cs6 Bk;obtain⟨n0,n1,n2,n3,n4,n5,n6⟩:=cs7 Bn;go_wp2_with fail;refine (sJ d c t w _ HR.out HB.out HX.out HV.out HNE.out).mono ?_;rintro e w2 ⟨hb2,hf⟩;clear k0 k1 k2 k3 k4 k5 n0 n1 n2 n3 n4 n5 n6;replace Bk:=upK Bk hb2;replace Bn:=upK Bn hb2;replace HB:=upB HB hb2;clear hb2;clear hb hc;rcases hf with ⟨v,xa,xl,xc,hbd,rfl,z0,z2,hxr⟩|⟨hbd,rfl⟩;rotate_left
   ·exact xv
   have HD:=aa hbd;clear hbd hxr z0 z2;by_cases hz2:v.z=n.z
   ·have q3:=a9 hz2;have HZ2:=aa hz2;clear hz2;obtain⟨k0,k1,k2,k3,k4,k5⟩:=cs6 Bk;obtain⟨n0,n1,n2,n3,n4,n5,n6⟩:=cs7 Bn;have ltn_1:=ae Bn.out;go_wp2_with fail;refine⟨⟨k+1,by omega,by go_num,fun j s hj hs=>?_,(HB.alloc HB.size _),(Fy _ _ _ (ae Bk.out)).trans Bk.out,(Fy _ _ _ (ae Bn.out)).trans Bn.out⟩,by simp[intOf];omega⟩;by_cases e:j=k
    ·subst e;rw[HXt.out] at hs;obtain rfl:=Fq hs;exact⟨v,HD.out,HZ2.out⟩
    ·exact HQ.out j s af hs
   ·have q3:=bC hz2;have HZ2:=aa hz2;clear hz2;obtain⟨k0,k1,k2,k3,k4,k5⟩:=cs6 Bk;obtain⟨n0,n1,n2,n3,n4,n5,n6⟩:=cs7 Bn;have ltn_1:=ae Bn.out;go_wp2;go_ret;refine ar.f (fun ⟨i,m,e1,e2,e3,e4⟩=>?_) (HB.alloc HB.size _);obtain⟨_,rfl⟩:=HN.inj e1 HX1.out (e2.trans HN1.symm);obtain⟨v',e5,e6⟩:=e4 k t HXt.out;obtain rfl:=bJ.inj HX.out HV.out HD.out e5;exact HZ2.out e6
  ·exact xm):p:=h
theorem vH {p:Prop} (h:p:=by
 go_wp2_with fail;refine⟨⟨k+1,x.n,by omega,rfl,by go_num,fun h=>absurd h af,fun z _ hz=>?_,fun j z hj hz=>?_,fun j z u hj hz hu=>?_,HB4.out⟩,by simp[intOf];omega⟩
 ·rw[Nat.add_sub_cancel,HX.out] at hz;rw[Fq hz]
 ·by_cases e:j=k
  ·subst e;rw[HX.out] at hz;obtain rfl:=Fq hz;exact HOK.out
  ·exact HE.out j z af hz
 ·by_cases e:j+1=k
  ·subst e;rw[HX.out] at hz;obtain rfl:=Fq hz;have:=H1.out u af (by rw[Nat.add_sub_cancel];exact hu);rw[this];exact hless
  ·exact HO.out j z u af hz hu):p:=h
theorem od {p:Prop} (h:p:=by
 rw[hless] at htri;go_wp2;go_ret;refine ar.f (fun h=>?_) HB3.out;by_cases hk0:0<k
 ·have hz:xs[k - 1]?=some (xs[k - 1]'(by omega)):=Fu _;have h2:=H1.out _ hk0 hz;have h3:=h.2.2 (k - 1) x _ (by rw[Nat.sub_add_cancel hk0];exact HX.out) hz;rw[h2,hless] at h3;cases h3
 ·have:=H0.out af;subst this;have hnm:=HOK.1.1;rw[oE hnm] at hless;cases hless):p:=h
theorem ob {p:Prop} (h:p:=by
 obtain rfl:k=len:=af
 go_wp2;go_ret;refine ar.t ⟨by omega,fun j z hz=>HE.out j z c_ hz,fun j z u hz hu=>HO.out j z u c_ hz hu⟩ HB.out):p:=h
theorem xd {p:Prop} (h:p:=by
 rw[hs] at c4;clear hs;obtain⟨k0,k1,k2,k3,k4,k5⟩:=cs6 Bk;have ltk_0:=ae Bk.out;go_wp2;refine⟨⟨k+1,by omega,by go_num,fun j z hj hz=>?_,(HB.alloc HB.size _),(Fy _ _ _ (ae Bk.out)).trans Bk.out⟩,by simp[intOf];omega⟩;by_cases e:j=k
 ·subst e;rw[HXv.out] at hz;obtain rfl:=Fq hz;exact fun h1 h2=>by rcases HCs.out with h|h;(rw[h] at h1;cases h1);exact absurd h h2
 ·exact HQ.out j z af hz):p:=h
theorem oa {p:Prop} (h:p:=by
 go_wp2_with fail;refine⟨⟨k+1,by omega,by go_num,fun j y hj hy=>?_,HB2.out⟩,by simp[intOf];omega⟩;by_cases e:j=k
 ·subst e;rw[HX.out] at hy;obtain rfl:=Fq hy;exact hless
 ·exact HE.out j y af hy):p:=h
theorem CZ {p:Prop} (h:p:=by
 have F3:Hid (∀w,Calls Tryz.prog 204 #[.string k] w fun e w'=>e=.returned (.bool false)/\w'=w):=fun w=>(a_ k w hk).mono fun _ _ h=>h.no p3;have HP:=aa p3;clear p3;go_enter Tryz.func212,Tryz.ntmps212;go_wp2_with fail;go_quiet ((first|(go_at_call_of 204 (FK n);exact FY (F0.out _))|(go_at_call_of 115 (Value.int .i64 c);exact FY (F1.out _))|(go_at_call_of 204 (FK z);exact FY (F2.out _))|(go_at_call_of 204 (FK k);exact FY (F3.out _))));go_wp2_with fail;go_ret;exact⟨false,rfl,⟨fun h=>bU,fun h=>(HP.out (h.2.2.2.1)).elim⟩,below_drewN (al _ _) _⟩):p:=h
theorem CY {p:Prop} (h:p:=by
 have F2:Hid (∀w,Calls Tryz.prog 204 #[.string z] w fun e w'=>e=.returned (.bool false)/\w'=w):=fun w=>(a_ z w hz).mono fun _ _ h=>h.no p2;have HP:=aa p2;clear p2;go_enter Tryz.func212,Tryz.ntmps212;go_wp2_with fail;go_quiet ((first|(go_at_call_of 204 (FK n);exact FY (F0.out _))|(go_at_call_of 115 (Value.int .i64 c);exact FY (F1.out _))|(go_at_call_of 204 (FK z);exact FY (F2.out _))));go_wp2_with fail;go_ret;exact⟨false,rfl,⟨fun h=>bU,fun h=>(HP.out (h.2.2.1)).elim⟩,below_drewN (al _ _) _⟩):p:=h
theorem CV {p:Prop} (h:p:=by
 have F1:Hid (∀w,Calls Tryz.prog 115 #[.int .i64 c,.int .i64 1,.int .i64 1048576] w fun e w'=>e=.returned (.bool false)/\w'=w):=fun w=>(cd c 1 1048576 w).mono fun _ _ h=>h.no p1;have HP:=aa p1;clear p1;go_enter Tryz.func212,Tryz.ntmps212;go_wp2_with fail;go_quiet ((first|(go_at_call_of 204 (FK n);exact FY (F0.out _))|(go_at_call_of 115 (Value.int .i64 c);exact FY (F1.out _))));go_wp2_with fail;go_ret;exact⟨false,rfl,⟨fun h=>bU,fun h=>(HP.out (h.2.1)).elim⟩,below_drewN (al _ _) _⟩):p:=h
theorem nV {p:Prop} (h:p:=by
 rintro e w1 ⟨r,rfl,hr1,hb⟩;have HB:=aa (cE hb).2.1;have HI:=aa hr1;clear hb hr1;go_wp2;go_ret;exact⟨r,rfl,HI.out,HB.out⟩):p:=h
theorem vN {p:Prop} (h:p:=by
 rw[<-e1] at hV;have HV3:=aa hV;have HB3:=aa ((HB.trans (hb23.mono hBs)).grown hgrow bG (fun g hg=>(HO2.lt g hg).1));clear hown3 hgrow hb23 hV e1;go_wp2;exact⟨⟨k+1,_,_,by omega,by go_num,HO3,HV3,HB3⟩,by simp[intOf];omega⟩):p:=h
theorem CN {p:Prop} (h:p:=by
 have F0:Hid (∀w,Calls Tryz.prog 204 #[.string n] w fun e w'=>e=.returned (.bool false)/\w'=w):=fun w=>(a_ n w hn).mono fun _ _ h=>h.no p0;have HP:=aa p0;clear p0;go_enter Tryz.func212,Tryz.ntmps212;go_wp2_with fail;go_quiet ((first|(go_at_call_of 204 (FK n);exact FY (F0.out _))));go_wp2_with fail;go_ret;exact⟨false,rfl,⟨fun h=>bU,fun h=>(HP.out (h.1)).elim⟩,below_drewN (al _ _) _⟩):p:=h
theorem gN {p:Prop} (h:p:=by
 rintro e w' ⟨rfl,rfl⟩;go_wp2;go_ret;exact⟨rfl,rfl⟩):p:=h
theorem nQ {p:Prop} (h:p:=by
 go_wp2;go_ret;exact ar.f (fun h=>by have:=HI.2 (h.2.1 k x HX.out);cases this) HB2.out):p:=h
theorem yS {p:Prop} (h:p:=by
 have HH:=aa hh;clear hh;obtain⟨k0,k1,k2,k3,k4,k5⟩:=cs6 Bk;obtain⟨p0,p1,p2,p3,p4,p5⟩:=cs6 Bp;have ltp_1:=ae Bp.out;go_wp2;go_ret;refine ar.f (fun ⟨i,n,e1,e2,_⟩=>?_) (HB.alloc HB.size _);have:=(cN HN.out e1 e2).2;rw[HH.out] at this;cases this):p:=h
theorem j5 {p:Prop} (h:p:=by
 go_wp2;go_ret;exact ar.f (fun h=>by have:=h.1;omega) (Fw _ _)):p:=h
theorem yI {p:Prop} (h:p:=by
 go_wp2_with fail;refine⟨⟨k+1,by omega,by go_num,fun j z hj hz=>?_,HB.out,Bk.out⟩,by simp[intOf];omega⟩;by_cases e:j=k
 ·subst e;rw[HXn.out] at hz;obtain rfl:=Fq hz;exact hq
 ·exact HQ.out j z af hz):p:=h
theorem yH {p:Prop} (h:p:=by
 obtain⟨x0,x1,x2,x3,x4⟩:=cs5 Bx;have ltx_2:=ae Bx.out;go_wp2;go_ret;refine ar.f (fun ⟨i,j,x',v',e1,e2,e3,e4,_⟩=>?_) (HB.alloc HB.size _);have:=(cN HX.out e1 e2).2;rw[HH1.out] at this;cases this):p:=h
theorem yF {p:Prop} (h:p:=by
 exact ah (FV _) (ah (FV _) (ah (FV _) (ah (FV _) (ah (FV _) (ah (FV _) (ah (FV _) (ah (FV _) (HB.out))))))))):p:=h
theorem yx {p:Prop} (h:p:=by
 exact ah (FV _) (ah (FV _) (ah (FV _) (ah (FV _) (ah (FV _) (ah (FV _) (ah (FV _) (HB.out)))))))):p:=h
theorem qA {p:Prop} (h:p:=by
 rw[hl5] at HR5;rw[hl5];clear h5 hR HV HO;go_wp2;go_ret;exact⟨a',c',rfl,HR5.out,HB.out⟩):p:=h
theorem qv {p:Prop} (h:p:=by
 obtain rfl:=Fq hz;exact⟨HH.out,.inr (HI.1 cr)⟩):p:=h
theorem ym {p:Prop} (h:p:=by
 exact ah (FV _) (ah (FV _) (ah (FV _) (ah (FV _) (ah (FV _) (HB.out)))))):p:=h
theorem yh {p:Prop} (h:p:=by
 go_wp2_with fail;go_ret;exact⟨false,rfl,⟨fun h=>bU,fun h=>(HP.out (h.2.2.2.2.1)).elim⟩,below_drewN (al _ _) _⟩):p:=h
theorem yb {p:Prop} (h:p:=by
 obtain⟨k0,k1,k2,k3,k4,k5⟩:=cs6 Bk;go_wp2;go_ret;exact ar.f (fun h=>by have:=HI4.2 h.2.2.2.1;cases this) HB.out):p:=h
theorem xY {p:Prop} (h:p:=by
 obtain⟨k0,k1,k2,k3,k4,k5⟩:=cs6 Bk;go_wp2;go_ret;exact ar.f (fun h=>by have:=HI3.2 h.2.2.1;cases this) HB.out):p:=h
theorem xW {p:Prop} (h:p:=by
 exact ah (FV _) (ah (FV _) (ah (FV _) (ah (FV _) (HB.out))))):p:=h
theorem xV {p:Prop} (h:p:=by
 go_enter Tryz.func98,Tryz.ntmps98;go_wp2;refine wp_loop_rounds 1 ?_;rw[rounds_succ];go_wp2;go_ret;exact⟨rfl,rfl⟩):p:=h
theorem qk {p:Prop} (h:p:=by
 obtain rfl:=Fq hz;exact⟨HH.out,.inl HEm.out⟩):p:=h
theorem xv {p:Prop} (h:p:=by
 have HD:=aa hbd;clear hbd;obtain⟨k0,k1,k2,k3,k4,k5⟩:=cs6 Bk;obtain⟨n0,n1,n2,n3,n4,n5,n6⟩:=cs7 Bn;have ltn_1:=ae Bn.out;go_wp2;go_ret;refine ar.f (fun ⟨i,m,e1,e2,e3,e4⟩=>?_) (HB.alloc HB.size _);obtain⟨v,e5,_⟩:=e4 k t HXt.out;exact HD.out v e5):p:=h
theorem xm {p:Prop} (h:p:=by
 obtain rfl:pl=k:=af
 go_wp2;go_ret;exact ar.t ⟨_,n,HX1.out,HN1.out,HC.out,fun j t ht=>HQ.out j t sf ht⟩ HB.out):p:=h
theorem pX {p:Prop} (h:p:=by
 show World.ownsRow _ _ _ _ _ _ _;rw[List.flatten_append];simpa using hown3):p:=h
theorem u_ {p:Prop} (h:p:=by
 have hbw:=FE hbl HRW.size;have e0:=(ak hb1 hbw).trans ((ak HRW.out hbl).trans c0);have e1:=(ak hb1 hbw).trans ((ak HRW.out hbl).trans c1);have e2:=(ak hb1 hbw).trans ((ak HRW.out hbl).trans c2);have e3:=(ak hb1 hbw).trans ((ak HRW.out hbl).trans c3);exact Fo hbw (Fo e0 (Fo e1 (Fo e2 e3)))):p:=h
theorem gM {p:Prop} (h:p:=by
 have HE:=aa h;have v0:=h.v0;have v1:=h.v1;have v2:=h.v2;have v3:=h.v3;have v4:=h.v4;have v5:=h.v5;have v6:=h.v6;have v7:=h.v7;have v8:=h.v8;have v9:=h.v9;exact Fo HE (Fo v0 (Fo v1 (Fo v2 (Fo v3 (Fo v4 (Fo v5 (Fo v6 (Fo v7 (Fo v8 v9)))))))))):p:=h
theorem gL {p:Prop} (h:p:=by
 have d0:=ck0 g1;have f0:=av g1 0;have d1:=ck1 g1;have f1:=av g1 1;have d2:=ck2 g1;have f2:=av g1 2;have d3:=ck3 g1;have f3:=av g1 3;exact Fo d0 (Fo f0 (Fo d1 (Fo f1 (Fo d2 (Fo f2 (Fo d3 f3))))))):p:=h
theorem nN {p:Prop} (h:p:=by
 have HB3:=aa (HB2.trans (hb2.mono (FA HB.size (FA (FV _) hs1))));have g2:=(hb2.block wr.heap.size af).trans HG.out;have hs2:=hb2.size;have htri:=gX y.toList x.n.toList;exact Fo HB3 (Fo g2 (Fo hs2 htri))):p:=h
theorem fT {p:Prop} (h:p:=by
 have HR:=aa hr;have hxl:xs.length=len:=dv
 have hlc:=FA hr.2.1 hr.2.2.1;exact Fo HR (Fo hxl hlc)):p:=h
theorem fS {p:Prop} (h:p:=by
 have HB2:=upB HB1 hb1;have d0:=ck0 g1;have d1:=ck1 g1;have d2:=ck2 g1;have d3:=ck3 g1;exact Fo HB2 (Fo d0 (Fo d1 (Fo d2 d3)))):p:=h
theorem nL {p:Prop} (h:p:=by
 have HB3:=aa (HB2.trans (hb2.mono (FA HB.size (FA (FV _) hs1))));have hp:=om HE.out HX.out hless;exact Fo HB3 hp):p:=h
theorem B7 {p:Prop} (h:p:=by
 have GK:=aa ((Fy wr (.cells (nov n va vl vc) 57) _ (ae Bk.out)).trans Bk.out);have GR:Hid ((wr.alloc (.cells (nov n va vl vc) 57)).heap[wr.heap.size]?=some (.cells (nov n va vl vc) 57 (0,0))):=FD;have HW:=aa (HB.trans ((al wr (.cells (nov n va vl vc) 57)).mono HB.size));exact Fo GK (Fo GR HW)):p:=h
theorem B6 {p:Prop} (h:p:=by
 have h8:=@run_callFunc_extern Tryz.prog 131 _ Extern.ReflectliteType.typeOf Tryz.func131 aq aq aq aq;have h32:=@run_callFunc_extern Tryz.prog 288 _ Er Tryz.func288 aq aq aq aq;have tT:=zt;have cT:=mu;have mR:=gh;exact Fo h8 (Fo h32 (Fo tT (Fo cT mR)))):p:=h
theorem vj {p:Prop} (h:p:=by
 have e4:=(ak hb1 hbw).trans ((ak HRW.out hbl).trans c4);have e5:=(ak hb1 hbw).trans ((ak HRW.out hbl).trans c5);exact Fo e4 e5):p:=h
theorem k_ {p:Prop} (h:p:=by
 have HR:=aa hr;have HE:=aa hG;have HB:=aa (Fw w.heap.size w);exact Fo HR (Fo HE HB)):p:=h
theorem vh {p:Prop} (h:p:=by
 have fr0:=av Bs.out 0;have fr1:=av Bs.out 1;have fr2:=av Bs.out 2;have fr3:=av Bs.out 3;have fr4:=av Bs.out 4;have fr5:=av Bs.out 5;have fr6:=av Bs.out 6;have fr7:=av Bs.out 7;exact Fo fr0 (Fo fr1 (Fo fr2 (Fo fr3 (Fo fr4 (Fo fr5 (Fo fr6 fr7))))))):p:=h
theorem vg {p:Prop} (h:p:=by
 have g0:=(hb.block w.heap.size bG).trans (cU _ _ _);have g1:=(hb.block (w.heap.size+1) aS).trans (bE _ _ _);exact Fo g0 g1):p:=h
theorem vf {p:Prop} (h:p:=by
 have HG:=aa hg;have HX2:=aa hbx;have HO2:=aa (bM HO.out hbx);have hs2:wr.heap.size<w2.heap.size:=by have:=hb2.size;rw[dG] at this;omega
 exact Fo HG (Fo HX2 (Fo HO2 hs2))):p:=h
theorem nF {p:Prop} (h:p:=by
 have HR:=aa hr;have HRW:=aa hrw;have hxl:xs.length=len:=dv
 exact Fo HR (Fo HRW hxl)):p:=h
theorem si {p:Prop} (h:p:=by
 have d4:=ck4 g1;have f4:=av g1 4;have d5:=ck5 g1;have f5:=av g1 5;have d6:=ck6 g1;have f6:=av g1 6;exact Fo d4 (Fo f4 (Fo d5 (Fo f5 (Fo d6 f6))))):p:=h
theorem uX {p:Prop} (h:p:=by
 have hz8:vl<=8001:=by have h1:=hvr.1;have h2:=HS.out k x hx;omega
 have HX:=aa hx;have HT:=aa hvr;have HZz0:=aa z0;exact Fo hz8 (Fo HX (Fo HT HZz0))):p:=h
end Go.Proofs.YtpejepeekdjfoaaGreatDoor
namespace Go.Proofs.YtpejepeekdjfoaaGreatDoor
open Go.RowKit

theorem nr {a b:Bool} (h:a=b):Ending.returned (.bool a)=.returned (.bool b):=by rw[h]

theorem sD (b:Int) (w:World):
  Calls Tryz.prog 215 #[.int .u8 b] w fun e w'=>e=.returned (.bool (kJ b))/\w=w':=by
 go_enter Tryz.func215,Tryz.ntmps215;go_wp2;all_goals (go_ret;exact⟨nr (by unfold kJ;rw[Bool.eq_iff_iff];simp;omega),rfl⟩)

theorem y8 (b:Int) (w:World):
  Calls Tryz.prog 216 #[.int .u8 b] w fun e w'=>e=.returned (.bool (nbB b))/\w=w':=by
 go_enter Tryz.func216,Tryz.ntmps216;go_wp2;all_goals (go_ret;exact⟨nr (by unfold nbB kJ A9;rw[Bool.eq_iff_iff];simp;omega),rfl⟩)

theorem a_ (s:ByteArray) (w:World) (hs:s.size<=9223372036854775807):
  Calls Tryz.prog 204 #[.string s] w (cK (aO s) w):=by
 by_cases h1:s.size<1
 ·go_enter Tryz.func204,Tryz.ntmps204;exact mf
 by_cases h2:20<s.size
 ·go_enter Tryz.func204,Tryz.ntmps204;exact mf
 have h0:0<s.size:=af
 cases hl:kJ ((s[0]'h0).toNat:Int)
 ·have HC:Hid (∀w,Calls Tryz.prog 215 #[.int .u8 ((s[0]'h0).toNat:Int)] w fun e w'=>e=.returned (.bool false)/\w=w'):=fun w=>by rw[<-hl];exact sD _ w
  have HB:Hid (okB 0 ((s[0]'h0).toNat:Int)=false):=hl;clear hl;go_enter Tryz.func204,Tryz.ntmps204;go_wp2_with (go_at_call 215;refine (HC.out _).mono ?_;rintro e w1 ⟨rfl,rfl⟩);go_ret;exact⟨false,rfl,gU h0 HB.out,rfl⟩
 ·have HC:Hid (∀w,Calls Tryz.prog 215 #[.int .u8 ((s[0]'h0).toNat:Int)] w fun e w'=>e=.returned (.bool true)/\w=w'):=fun w=>by rw[<-hl];exact sD _ w
  have HB:Hid (okB 0 ((s[0]'h0).toNat:Int)=true):=hl;clear hl;go_enter Tryz.func204,Tryz.ntmps204;go_wp2_with (go_at_call 215;refine (HC.out _).mono ?_;rintro e w1 ⟨rfl,rfl⟩);go_loop [3] (fun i=> ∃k:Nat,1<=k/\k<=s.size/\i=.int .i64 k/\∀i (h:i<s.size),i<k->okB i ((s[i]'h).toNat:Int)=true) (fun i=>s.size - (intOf i).toNat);case atStart=>exact⟨1,by omega,by omega,rfl,fun i _ h=>by obtain rfl:i=0:=af;exact HB.out⟩
  case round=>
   obtain⟨k,hk1,hk,rfl,hall⟩:=hrel;have HA:Hid (∀i (h:i<s.size),i<k->okB i ((s[i]'h).toNat:Int)=true):=hall;clear hall HC HB;by_cases hlt:k<s.size
   ·cases hok:nbB ((s[k]'hlt).toNat:Int)
    ·have HC:Hid (∀w,Calls Tryz.prog 216 #[.int .u8 ((s[k]'hlt).toNat:Int)] w fun e w'=>e=.returned (.bool false)/\w=w'):=fun w=>by rw[<-hok];exact y8 _ w
     have HB:Hid (okB k ((s[k]'hlt).toNat:Int)=false):=by unfold okB;rw[if_neg af];exact hok
     clear hok;go_wp2_with (go_at_call 216;refine (HC.out _).mono ?_;rintro e w1 ⟨rfl,rfl⟩);go_ret;exact⟨false,rfl,gU hlt HB.out,rfl⟩
    ·have HC:Hid (∀w,Calls Tryz.prog 216 #[.int .u8 ((s[k]'hlt).toNat:Int)] w fun e w'=>e=.returned (.bool true)/\w=w'):=fun w=>by rw[<-hok];exact y8 _ w
     have HB:Hid (okB k ((s[k]'hlt).toNat:Int)=true):=by unfold okB;rw[if_neg af];exact hok
     clear hok;go_wp2_with (go_at_call 216;refine (HC.out _).mono ?_;rintro e w1 ⟨rfl,rfl⟩);go_round;case rel=>exact⟨k+1,by omega,by omega,by go_num,ln hlt HB.out HA.out⟩
     case measure=>simp[intOf];omega
   ·exact xZ

theorem oE {x:ByteArray} (h:1<=x.size):FB (⟨#[]⟩:ByteArray).toList x.toList=true:=by
 rw[Hp,Hp];rw[Lib.size_eq] at h;cases e:x.data.toList with
 | nil=>rw[e] at h;simp at h
 | cons a l=>rfl

theorem eN (a:Option Addr) (len cap:Nat) (zs:List ByteArray) (most:Int) (w:World) (hr:ay w a len cap zs):
  Calls Tryz.prog 222 #[.slice a len cap,.int .i64 most] w (cK (dD zs most) w):=by
 have HR:Hid (ay w a len cap zs):=hr;have hlc:=FA hr.2.1 hr.2.2.1;have hzl:=hr.1;clear hr;by_cases hm:most<(len:Int)
 ·go_enter Tryz.func222,Tryz.ntmps222;go_wp2;go_ret;exact⟨false,rfl,⟨fun h=>bU,fun h=>absurd h.1 af⟩,rfl⟩
 go_enter Tryz.func222,Tryz.ntmps222;go_wp2;go_loop [5,14] (fun p i=> ∃(k:Nat) (y:ByteArray),k<=len/\p=.string y/\i=.int .i64 k/\Hid (k=0->y=⟨#[]⟩)/\Hid (0<k->zs[k - 1]?=some y)/\Hid (fo (zs.take k))) (fun _ i=>len - (intOf i).toNat);case atStart=>exact⟨0,_,by omega,rfl,rfl,fun _=>rfl,fun h=>absurd h af,fun i x h=>by simp at h⟩
 case round=>
  obtain⟨k,y,hk,rfl,rfl,H0,H1,HE⟩:=hrel;by_cases hlt:k<len
  ·obtain⟨b,o,x,rfl,hb,hx,hc,hsz⟩:=HR.at hlt;by_cases hn:aO x
   ·have HY:Hid (∀w,Calls Tryz.prog 204 #[.string x] w fun e w'=>e=.returned (.bool true)/\w'=w):=fun w=>(a_ x w hsz).mono fun _ _ h=>h.yes hn;have htri:=gX y.toList x.toList;cases hless:FB y.toList x.toList
    ·rw[hless] at htri;go_wp2_with (go_at_call 204;refine (HY.out _).mono ?_;rintro e w1 ⟨rfl,rfl⟩);go_ret;refine⟨false,rfl,⟨fun h=>bU,fun h=>?_⟩,rfl⟩;by_cases hk0:0<k
     ·exact absurd ((h.2 k x hx).2 y hk0 (H1.out hk0)) (by rw[hless];decide)
     ·have:=H0.out af;subst this;rw[oE hn.1] at hless;cases hless
    ·rw[hless] at htri;go_wp2_with (go_at_call 204;refine (HY.out _).mono ?_;rintro e w1 ⟨rfl,rfl⟩);refine⟨⟨k+1,x,by omega,rfl,by go_num,fun h=>absurd h af,fun _=>hx,HE.step hx hn (fun y' h0 hy'=>?_)⟩,by simp[intOf];omega⟩;rw[H1.out h0] at hy';obtain rfl:=Fq hy';exact hless
   ·have HY:Hid (∀w,Calls Tryz.prog 204 #[.string x] w fun e w'=>e=.returned (.bool false)/\w'=w):=fun w=>(a_ x w hsz).mono fun _ _ h=>h.no hn;go_wp2_with (go_at_call 204;refine (HY.out _).mono ?_;rintro e w1 ⟨rfl,rfl⟩);go_ret;exact⟨false,rfl,⟨fun h=>bU,fun h=>absurd (h.2 k x hx).1 hn⟩,rfl⟩
  ·obtain rfl:k=len:=af
   have hR:=HE.out;rw[FF af] at hR;go_wp2;go_ret;exact⟨true,rfl,⟨fun _=>⟨by omega,hR⟩,fun _=>rfl⟩,rfl⟩

theorem cd (n a b:Int) (w:World):
  Calls Tryz.prog 115 #[.int .i64 n,.int .i64 a,.int .i64 b] w (cK (Inn n a b) w):=by
 go_enter Tryz.func115,Tryz.ntmps115;go_wp2;all_goals (go_ret;exact⟨_,rfl,by unfold Inn;simp;omega,rfl⟩)

theorem im {w w1:World} {vs:Array Value} {T:TypeId} (hb:Below (w.alloc (.cells vs T)).drew.heap.size (w.alloc (.cells vs T)).drew w1):
  w1.heap[w.heap.size]?=some (.cells vs T (0,0))/\Below w.heap.size w w1/\w.heap.size<w1.heap.size:=cE ⟨hb.os,hb.tape,hb.output,hb.size,hb.block⟩
theorem ck8 {w:World} {b:Nat} {T:TypeId} {f:Nat×Nat} {v0 v1 v2 v3 v4 v5 v6 v7 v8:Value} {r:List Value} (h:w.heap[b]?=some (.cells (v0::v1::v2::v3::v4::v5::v6::v7::v8 ::r).toArray T f)):w.cell? ⟨b,8,none⟩=some v8:=aw h 8
theorem Es {w:World} {b:Nat} {T:TypeId} {f:Nat×Nat} {v0 v1 v2 v3 v4 v5 v6 v7 v8 v9 v10 v11 v12:Value} {r:List Value} (h:w.heap[b]?=some (.cells (v0::v1::v2::v3::v4::v5::v6::v7::v8::v9::v10::v11::v12 ::r).toArray T f)):w.cell? ⟨b,12,none⟩=some v12:=aw h 12
theorem E6 {w:World} {b:Nat} {T:TypeId} {f:Nat×Nat} {v0 v1 v2 v3 v4 v5 v6 v7 v8 v9 v10 v11 v12 v13 v14 v15:Value} {r:List Value} (h:w.heap[b]?=some (.cells (v0::v1::v2::v3::v4::v5::v6::v7::v8::v9::v10::v11::v12::v13::v14::v15 ::r).toArray T f)):w.cell? ⟨b,15,none⟩=some v15:=aw h 15
theorem cR (s:ByteArray) (w:World) (hs:s.size<=9223372036854775807):
  Calls Tryz.prog 198 #[.string s] w (cK (cW s) w):=by
 by_cases h0:s=⟨#[]⟩
 ·subst h0;go_enter Tryz.func198,Tryz.ntmps198;go_wp2;go_ret;exact⟨_,rfl,by unfold cW;simp,rfl⟩
 ·have hq:=bc h0;go_enter Tryz.func198,Tryz.ntmps198;go_wp2_with (go_at_call 204;refine (a_ _ _ hs).mono ?_;rintro e w1 ⟨r,rfl,hr,rfl⟩);go_ret;exact⟨r,rfl,by unfold cW;simp[h0,hr],rfl⟩

theorem tL (n z:ByteArray) (c s u:Int) (d:Bool) (a:Option Addr) (len cap:Nat) (zs:List ByteArray) (w:World) (hn:n.size<=9223372036854775807) (hz:z.size<=9223372036854775807) (hr:ay w a len cap zs):
  Calls Tryz.prog 245 #[.agg #[.string n,.string z,.int .i64 c,.int .i64 s,.int .i64 u,.bool d,.slice a len cap]] w (ar (rR n z c s u zs) w):=by
 have HR:Hid (ay w a len cap zs):=hr;clear hr;go_enter Tryz.func245,Tryz.ntmps245;go_wp2_with fail;refine (a_ n _ hn).mono ?_;rintro e w1 ⟨r,rfl,hr,rfl⟩;by_cases hq:r=true;case neg=>
  exact ff
 have h0:=aa (hr.1 hq);subst hq;clear hr;go_wp2_with fail;refine (a_ z _ hz).mono ?_;rintro e w1 ⟨r,rfl,hr,rfl⟩;by_cases hq:r=true;case neg=>
  exact gO
 have h1:=aa (hr.1 hq);subst hq;clear hr;go_wp2_with fail;refine (cd c 0 1000000 _).mono ?_;rintro e w1 ⟨r,rfl,hr,rfl⟩;by_cases hq:r=true;case neg=>
  exact gP
 have h2:=aa (hr.1 hq);subst hq;clear hr;go_wp2_with fail;refine (cd s 0 8 _).mono ?_;rintro e w1 ⟨r,rfl,hr,rfl⟩;by_cases hq:r=true;case neg=>
  exact lj
 have h3:=aa (hr.1 hq);subst hq;clear hr;go_wp2_with fail;refine (cd u 0 1000000 _).mono ?_;rintro e w1 ⟨r,rfl,hr,rfl⟩;by_cases hq:r=true;case neg=>
  exact n8
 have h4:=aa (hr.1 hq);subst hq;clear hr;go_wp2_with fail;refine (eN a len cap zs 8 _ (HR.below (al _ _))).mono ?_;rintro e w1 ⟨r,rfl,hr,rfl⟩;go_wp2_with fail;go_ret;exact⟨r,rfl,⟨fun h=>⟨h0.out,h1.out,h2.out,h3.out,h4.out,hr.1 h⟩,fun h=>hr.2 h.2.2.2.2.2⟩,al _ _⟩

theorem gj (n z:ByteArray) (x y:Bool) (w:World) (hn:n.size<=9223372036854775807) (hz:z.size<=9223372036854775807):
  Calls Tryz.prog 203 #[.agg #[.string n,.bool x,.bool y,.string z]] w (ar (ie n z) w):=by
 go_enter Tryz.func203,Tryz.ntmps203;go_wp2_with fail;refine (a_ n _ hn).mono ?_;rintro e w1 ⟨r,rfl,hr,rfl⟩;by_cases hq:r=true;case neg=>
  exact ff
 have h0:=aa (hr.1 hq);subst hq;clear hr;go_wp2_with fail;refine (cR z _ hz).mono ?_;exact w_

theorem eP (n:ByteArray) (z:Int) (k:ByteArray) (x:Bool) (v:ByteArray) (w:World) (hn:n.size<=9223372036854775807) (hk:k.size<=9223372036854775807) (hv:v.size<=9223372036854775807):
  Calls Tryz.prog 197 #[.agg #[.string n,.int .i64 z,.string k,.bool x,.string v]] w (ar (fJ n z k v) w):=by
 go_enter Tryz.func197,Tryz.ntmps197;go_wp2_with fail;refine (a_ n _ hn).mono ?_;rintro e w1 ⟨r,rfl,hr,rfl⟩;by_cases hq:r=true;case neg=>
  exact ff
 have h0:=aa (hr.1 hq);subst hq;clear hr;go_wp2_with fail;refine (cd z 1 1048576 _).mono ?_;rintro e w1 ⟨r,rfl,hr,rfl⟩;by_cases hq:r=true;case neg=>
  exact gO
 have h1:=aa (hr.1 hq);subst hq;clear hr;go_wp2_with fail;refine (a_ k _ hk).mono ?_;rintro e w1 ⟨r,rfl,hr,rfl⟩;by_cases hq:r=true;case neg=>
  exact gP
 have h2:=aa (hr.1 hq);subst hq;clear hr;go_wp2_with fail;refine (cR v _ hv).mono ?_;exact xg

theorem rn (n:ByteArray) (c:Int) (z:ByteArray) (a:Option Addr) (len cap:Nat) (d:ByteArray) (p:Int) (w:World) (hd:d.size<=9223372036854775807):
  Calls Tryz.prog 249 #[.agg #[.string n,.int .i64 c,.string z,.slice a len cap,.string d,.int .i64 p]] w (ar (ep d p) w):=by
 by_cases h0:p=0
 ·subst h0;go_enter Tryz.func249,Tryz.ntmps249;go_wp2;go_ret;exact⟨_,rfl,by rw[eF,dP],al _ _⟩
 have hq0:(p==0)=false:=by simp[h0]
 by_cases h1:p=1
 ·subst h1;go_enter Tryz.func249,Tryz.ntmps249;go_wp2_with (go_at_call 204;refine (a_ _ _ hd).mono ?_;rintro e w1 ⟨r,rfl,hr,rfl⟩);go_ret;exact⟨r,rfl,by rw[gD d (Or.inl rfl),hr],al _ _⟩
 have hq1:(p==1)=false:=by simp[h1]
 by_cases h2:p=2
 ·subst h2;go_enter Tryz.func249,Tryz.ntmps249;go_wp2_with (go_at_call 204;refine (a_ _ _ hd).mono ?_;rintro e w1 ⟨r,rfl,hr,rfl⟩);go_ret;exact⟨r,rfl,by rw[gD d (Or.inr rfl),hr],al _ _⟩
 have hq2:(p==2)=false:=by simp[h2]
 go_enter Tryz.func249,Tryz.ntmps249;go_wp2;go_ret;exact⟨false,rfl,⟨fun h=>bU,fun h=>absurd h (mX af)⟩,al _ _⟩

theorem zy (n:ByteArray) (c:Int) (z:ByteArray) (a:Option Addr) (len cap:Nat) (zs:List ByteArray) (d:ByteArray) (p:Int) (w:World) (hn:n.size<=9223372036854775807) (hz:z.size<=9223372036854775807) (hd:d.size<=9223372036854775807) (hr:ay w a len cap zs):
  Calls Tryz.prog 248 #[.agg #[.string n,.int .i64 c,.string z,.slice a len cap,.string d,.int .i64 p]] w (ar (zY n c z zs d p) w):=by
 have HR:Hid (ay w a len cap zs):=hr;clear hr;go_enter Tryz.func248,Tryz.ntmps248;go_wp2_with fail;refine (a_ n _ hn).mono ?_;rintro e w1 ⟨r,rfl,hr,rfl⟩;by_cases hq:r=true;case neg=>
  exact ff
 have h0:=aa (hr.1 hq);subst hq;clear hr;go_wp2_with fail;refine (cd c 0 1000000 _).mono ?_;rintro e w1 ⟨r,rfl,hr,rfl⟩;by_cases hq:r=true;case neg=>
  exact gO
 have h1:=aa (hr.1 hq);subst hq;clear hr;go_wp2_with fail;refine (cR z _ hz).mono ?_;rintro e w1 ⟨r,rfl,hr,rfl⟩;by_cases hq:r=true;case neg=>
  exact gP
 have h2:=aa (hr.1 hq);subst hq;clear hr;go_wp2_with fail;refine (eN a len cap zs 3 _ (HR.below (al _ _))).mono ?_;rintro e w1 ⟨r,rfl,hr,rfl⟩;by_cases hq:r=true;case neg=>
  exact lj
 have h3:=aa (hr.1 hq);subst hq;clear hr;go_wp2_with fail;refine (rn n c z a len cap d p _ hd).mono ?_;rintro e w1 ⟨r,rfl,hr,hb⟩;go_wp2_with fail;go_ret;exact⟨r,rfl,⟨fun h=>⟨h0.out,h1.out,h2.out,h3.out,hr.1 h⟩,fun h=>hr.2 h.2.2.2.2⟩,(cE hb).2.1⟩

theorem kb (n:ByteArray) (c:Int) (z k:ByteArray) (x:Bool) (m:ByteArray) (y:Bool) (a:Option Addr) (len cap:Nat) (w:World):
  Calls Tryz.prog 223 #[.agg #[.string n,.int .i64 c,.string z,.string k,.bool x,.string m,.bool y,.slice a len cap]] w fun e w'=>e=.returned (.int .i64 (if x=true then 1 else 6))/\Below w.heap.size w w':=by
 cases x;all_goals (
  go_enter Tryz.func223,Tryz.ntmps223
  go_wp2
  go_ret
  exact⟨rfl,al _ _⟩)

/-! The cells of a block, at once; what stands behind a callee that came up over new blocks. -/
theorem cs1 {w:World} {b:Nat} {T:TypeId} {v0:Value} (h:w.heap[b]?=some (.cells #[v0] T (0,0))):w.cell? ⟨b,0,none⟩=some v0:=aw h 0
theorem lS {w w':World} {o p q:Obj} (h:Below (((w.alloc o).alloc p).alloc q).heap.size (((w.alloc o).alloc p).alloc q) w'):w'.heap[w.heap.size]?=some o/\w'.heap[w.heap.size+1]?=some p/\w'.heap[w.heap.size+1+1]?=some q/\Below w.heap.size w w':=by
 obtain⟨h1,h2⟩:=aL h;rw[dG,dG] at h1;obtain⟨h3,h4,h5⟩:=cH h2;exact⟨h3,h4,h1,h5⟩

end Go.Proofs.YtpejepeekdjfoaaGreatDoor

namespace Go.Proofs.YtpejepeekdjfoaaGreatDoor
open Go.RowKit
namespace Rc
open Mk

theorem Ak {α:Type} {A B:List α} {x y:α} {j:Nat} (hj:A.length+1=j):((A++y ::x ::B).set j y).set (j - 1) x=A++x ::y ::B/\((A++y ::x ::B).set (j - 1) x).set j y=A++x ::y ::B:=by
 subst hj;constructor <;> simp
section
variable {α:Type} (f:α->Int) (lt:α->α->Prop)
def Bf (a b:α):Prop:=f b<f a\/(f a=f b/\lt a b)
def eg (ms ls:List α) (k:Nat):Prop:=∃P,ls=P++ms.drop k/\P.length=k/\P.Perm (ms.take k)/\P.Pairwise (Bf f lt)
def gu (ms ls:List α) (k j:Nat) (x:α):Prop:=∃A B,ls=A++x ::(B++ms.drop (k+1))/\A.length=j/\A.length+B.length=k/\ms[k]?=some x/\(A++B).Perm (ms.take k)/\(A++B).Pairwise (Bf f lt)/\∀y∈B,f y<f x
variable {f lt} {ms ls:List α} {k j:Nat} {x:α}
theorem eg.len (h:eg f lt ms ls k) (hk:k<=ms.length):ls.length=ms.length:=by
 obtain⟨P,rfl,h1,_,_⟩:=h;simp[h1];omega
theorem gu.len (h:gu f lt ms ls k j x):ls.length=ms.length/\j<=k/\k<ms.length:=by
 obtain⟨A,B,rfl,h1,h2,h3,_⟩:=h;have h4:=(Fm.1 h3).1;simp;omega
theorem gu.at (h:gu f lt ms ls k j x):ls[j]?=some x:=by
 obtain⟨A,B,rfl,rfl,_⟩:=h;simp
theorem eg.one (h:1<=ms.length):eg f lt ms ms 1:=by
 cases ms with
 | nil=>simp at h
 | cons a r=>exact⟨[a],rfl,rfl,List.Perm.refl _,List.pairwise_singleton _ _⟩
theorem eg.start (h:eg f lt ms ls k) (hk:k<ms.length):∃x,gu f lt ms ls k k x:=by
 obtain⟨P,rfl,h1,h2,h3⟩:=h;have hx:=Fu hk;refine⟨ms[k],P,[],?_,h1,by simpa using h1,hx,by simpa using h2,by simpa using h3,by simp⟩;rw[GU hk];rfl
theorem gu.down {y:α} (h:gu f lt ms ls k (j+1) x) (hy:ls[j]?=some y) (hf:f y<f x):gu f lt ms ((ls.set (j+1) y).set j x) k j x/\(ls.set j x).set (j+1) y=(ls.set (j+1) y).set j x:=by
 obtain⟨A,B,rfl,h1,h2,h3,h4,h5,h6⟩:=h;obtain⟨A',y',rfl⟩:∃A' y',A=A'++[y']:=by
  rcases List.eq_nil_or_concat A with rfl|⟨A',y',rfl⟩
  ·simp at h1
  ·exact⟨A',y',by simp⟩
 have hl:A'.length=j:=by simpa using h1
 subst hl;have:y'=y:=by simpa[Hj] using hy
 subst this;have e1:A'++[y']++x ::(B++ms.drop (k+1))=A'++y' ::x ::(B++ms.drop (k+1)):=aS
 have e2:=Ak (A:=A') (B:=B++ms.drop (k+1)) (x:=x) (y:=y') rfl;simp only[Nat.add_sub_cancel] at e2;rw[e1];refine⟨⟨A',y' ::B,by rw[e2.1];simp,rfl,by simp at h2 ⊢;omega,h3,by simpa using h4,by simpa using h5,?_⟩,by rw[e2.1,e2.2]⟩;intro z hz;rcases Gj.1 hz with rfl|hz
 ·exact hf
 ·exact h6 z hz
theorem gu.stop (h:gu f lt ms ls k j x) (hn:∀y,y∈ms.take k->lt y x) (hs:j=0\/∃y,ls[j - 1]?=some y/\¬f y<f x):eg f lt ms ls (k+1):=by
 obtain⟨A,B,rfl,h1,h2,h3,h4,h5,h6⟩:=h;have hk:=(Fm.1 h3).1;have hA:∀a∈A,¬f a<f x:=by
  rcases hs with rfl|⟨y,hy,hf⟩
  ·intro a ha;rw[List.length_eq_zero_iff.1 h1] at ha;simp at ha
  ·rcases List.eq_nil_or_concat A with rfl|⟨A',y',rfl⟩
   ·intro a ha;simp at ha
   ·have hl:A'.length+1=j:=by simpa using h1
    subst hl;have:y'=y:=by simpa[Hj] using hy
    subst this;intro a ha;simp only[List.concat_eq_append,G2,List.mem_singleton] at ha;rcases ha with ha|rfl
    ·have h9:=(Hd.1 (by simpa using (Hd.1 h5).1:(A'++[y']).Pairwise (Bf f lt))).2.2 a ha y' aS;rcases h9 with h9|⟨h9,_⟩ <;> omega
    ·exact hf
 have hx:ms[k]=x:=(Fm.1 h3).2;refine⟨A++x ::B,by simp,by simp;omega,?_,?_⟩
 ·rw[F6,h3];exact List.perm_middle.trans ((List.Perm.cons x h4).trans (by simpa using (List.perm_append_comm (l₁:=[x]) (l₂:=ms.take k))))
 ·rw[Hd] at h5 ⊢;refine⟨h5.1,List.pairwise_cons.2 ⟨fun b hb=>.inl (h6 b hb),h5.2.1⟩,?_⟩;intro a ha b hb;rcases Gj.1 hb with rfl|hb
  ·have h7:=hA a ha;by_cases h8:f b<f a
   ·exact .inl h8
   ·exact .inr ⟨by omega,hn a (h4.mem_iff.1 (List.mem_append_left _ ha))⟩
  ·exact h5.2.2 a ha b hb
end

theorem ft.aM {w w':World} {d:Ad} {c:Cr} {S S':Nat->Prop} {P:Nat->Nat} (h:ft w d c S P) (hk:∀k,k<w.heap.size->S k->w'.heap[k]?=w.heap[k]?) (hs:∀k,k<w.heap.size->S k->S' k):ft w' d c S' P:=
 ⟨h.n.aM (fun k hl s=>hk k hl s.1) (fun k hl s=>⟨hs k hl s.1,s.2⟩),h.k.aM (fun k hl s=>hk k hl s.1) (fun k hl s=>⟨hs k hl s.1,s.2⟩),h.v.aM (fun k hl s=>hk k hl s.1) (fun k hl s=>⟨hs k hl s.1,s.2⟩),h.x.aM (fun k hl s=>hk k hl s.1) (fun k hl s=>⟨hs k hl s.1,s.2⟩),h.p.aM (fun k hl s=>hk k hl s.1) (fun k hl s=>⟨hs k hl s.1,s.2⟩)⟩
theorem bQ.below {w w':World} {d:Ad} {c:Cr} {S:Nat->Prop} (h:bQ w d c S) (hb:Below w.heap.size w w'):bQ w' d c S:=by
 obtain⟨P,h⟩:=h;exact⟨P,h.aM (fun k hk _=>hb.block k hk) (fun _ _ s=>s)⟩
theorem bQ.kept {w w':World} {d:Ad} {c:Cr} {S S':Nat->Prop} (h:bQ w d c S) (hb:aC S' w w') (hd:∀k,S k->¬S' k):bQ w' d c S:=by
 obtain⟨P,h⟩:=h;exact⟨P,h.aM (fun k hk s=>hb.block k hk (hd k s)) (fun _ _ s=>s)⟩
theorem bQ.bA {w:World} {d:Ad} {c:Cr} {S S':Nat->Prop} (h:bQ w d c S) (hs:∀k,k<w.heap.size->S k->S' k):bQ w d c S':=by
 obtain⟨P,h⟩:=h;exact⟨P,h.aM (fun _ _ _=>rfl) hs⟩
end Rc
end Go.Proofs.YtpejepeekdjfoaaGreatDoor

namespace Go.Proofs.YtpejepeekdjfoaaGreatDoor
open Go.RowKit

theorem oL (n:ByteArray) (c:Int) (z k:ByteArray) (x:Bool) (m:ByteArray) (y:Bool) (a:Option Addr) (len cap:Nat) (zs:List ByteArray) (w:World) (hn:n.size<=9223372036854775807) (hz:z.size<=9223372036854775807) (hk:k.size<=9223372036854775807) (hm:m.size<=9223372036854775807) (hr:ay w a len cap zs):
  Calls Tryz.prog 212 #[.agg #[.string n,.int .i64 c,.string z,.string k,.bool x,.string m,.bool y,.slice a len cap]] w (ar (sQ n c z k x m y zs) w):=by
 have HR:Hid (ay w a len cap zs):=hr;clear hr;cases y
 ·have HY:Hid (false=true->m=⟨#[]⟩):=fun h=>bU;by_cases p0:aO n;case neg=>
   exact CN
  have F0:Hid (∀w,Calls Tryz.prog 204 #[.string n] w fun e w'=>e=.returned (.bool true)/\w'=w):=fun w=>(a_ n w hn).mono fun _ _ h=>h.yes p0;by_cases p1:Inn c 1 1048576;case neg=>
   exact CV
  have F1:Hid (∀w,Calls Tryz.prog 115 #[.int .i64 c,.int .i64 1,.int .i64 1048576] w fun e w'=>e=.returned (.bool true)/\w'=w):=fun w=>(cd c 1 1048576 w).mono fun _ _ h=>h.yes p1;by_cases p2:aO z;case neg=>
   exact CY
  have F2:Hid (∀w,Calls Tryz.prog 204 #[.string z] w fun e w'=>e=.returned (.bool true)/\w'=w):=fun w=>(a_ z w hz).mono fun _ _ h=>h.yes p2;by_cases p3:aO k;case neg=>
   exact CZ
  have F3:Hid (∀w,Calls Tryz.prog 204 #[.string k] w fun e w'=>e=.returned (.bool true)/\w'=w):=fun w=>(a_ k w hk).mono fun _ _ h=>h.yes p3;by_cases p4:cW m;case neg=>
   have F4:Hid (∀w,Calls Tryz.prog 198 #[.string m] w fun e w'=>e=.returned (.bool false)/\w'=w):=fun w=>(cR m w hm).mono fun _ _ h=>h.no p4;have HP:=aa p4;clear p4;go_enter Tryz.func212,Tryz.ntmps212;go_wp2_with fail;go_quiet ((first|(go_at_call_of 204 (FK n);exact FY (F0.out _))|(go_at_call_of 115 (Value.int .i64 c);exact FY (F1.out _))|(go_at_call_of 204 (FK z);exact FY (F2.out _))|(go_at_call_of 204 (FK k);exact FY (F3.out _))|(go_at_call_of 198 (FK m);exact FY (F4.out _))));exact yh
  have F4:Hid (∀w,Calls Tryz.prog 198 #[.string m] w fun e w'=>e=.returned (.bool true)/\w'=w):=fun w=>(cR m w hm).mono fun _ _ h=>h.yes p4;obtain⟨q,hq⟩:∃q:Int,q=if x=true then 1 else 6:=⟨_,rfl⟩;have HM:Hid (∀w,Calls Tryz.prog 223 #[.agg #[.string n,.int .i64 c,.string z,.string k,.bool x,.string m,.bool false,.slice a len cap]] w fun e w'=>e=.returned (.int .i64 q)/\Below w.heap.size w w'):=fun w=>by rw[hq];exact kb n c z k x m false a len cap w
  have HQ:Hid (q=if x=true then 1 else 6):=hq;clear hq;go_enter Tryz.func212,Tryz.ntmps212;go_wp2_with fail;go_region_with (first|(go_at_call_of 204 (FK n);refine (F0.out _).mono ?_;rintro e w1 ⟨rfl,rfl⟩)|(go_at_call_of 115 (Value.int .i64 c);refine (F1.out _).mono ?_;rintro e w1 ⟨rfl,rfl⟩)|(go_at_call_of 204 (FK z);refine (F2.out _).mono ?_;rintro e w1 ⟨rfl,rfl⟩)|(go_at_call_of 204 (FK k);refine (F3.out _).mono ?_;rintro e w1 ⟨rfl,rfl⟩)|(go_at_call_of 198 (FK m);refine (F4.out _).mono ?_;rintro e w1 ⟨rfl,rfl⟩)|(go_at_call 223;refine (HM.out _).mono ?_;rintro e w1 ⟨rfl,hb⟩;have hc7:=aw (im hb).1 7;simp only[G9,List.getElem?_cons_succ,F9] at hc7)|(go_at_call 222;refine (eN a len cap zs _ _ (HR.below (im hb).2.1)).mono ?_;rintro e w2 ⟨r,rfl,hr,rfl⟩));all_goals (
   go_wp2_with fail;go_ret
   exact⟨r,rfl,⟨fun h=>⟨p0,p1,p2,p3,p4,HY.out,HQ.out ▸ hr.1 h⟩,fun h=>hr.2 (HQ.out ▸ h.2.2.2.2.2.2)⟩,(im hb).2.1⟩)
 by_cases hm0:m=⟨#[]⟩
 ·subst hm0;have HY:Hid True:=trivial;by_cases p0:aO n;case neg=>
   exact CN
  have F0:Hid (∀w,Calls Tryz.prog 204 #[.string n] w fun e w'=>e=.returned (.bool true)/\w'=w):=fun w=>(a_ n w hn).mono fun _ _ h=>h.yes p0;by_cases p1:Inn c 1 1048576;case neg=>
   exact CV
  have F1:Hid (∀w,Calls Tryz.prog 115 #[.int .i64 c,.int .i64 1,.int .i64 1048576] w fun e w'=>e=.returned (.bool true)/\w'=w):=fun w=>(cd c 1 1048576 w).mono fun _ _ h=>h.yes p1;by_cases p2:aO z;case neg=>
   exact CY
  have F2:Hid (∀w,Calls Tryz.prog 204 #[.string z] w fun e w'=>e=.returned (.bool true)/\w'=w):=fun w=>(a_ z w hz).mono fun _ _ h=>h.yes p2;by_cases p3:aO k;case neg=>
   exact CZ
  have F3:Hid (∀w,Calls Tryz.prog 204 #[.string k] w fun e w'=>e=.returned (.bool true)/\w'=w):=fun w=>(a_ k w hk).mono fun _ _ h=>h.yes p3;by_cases p4:cW (⟨#[]⟩:ByteArray);case neg=>
   have F4:Hid (∀w,Calls Tryz.prog 198 #[.string (⟨#[]⟩:ByteArray)] w fun e w'=>e=.returned (.bool false)/\w'=w):=fun w=>(cR (⟨#[]⟩:ByteArray) w hm).mono fun _ _ h=>h.no p4;have HP:=aa p4;clear p4;go_enter Tryz.func212,Tryz.ntmps212;go_wp2_with fail;go_quiet ((first|(go_at_call_of 204 (FK n);exact FY (F0.out _))|(go_at_call_of 115 (Value.int .i64 c);exact FY (F1.out _))|(go_at_call_of 204 (FK z);exact FY (F2.out _))|(go_at_call_of 204 (FK k);exact FY (F3.out _))|(go_at_call_of 198 (FK (⟨#[]⟩:ByteArray));exact FY (F4.out _))));exact yh
  have F4:Hid (∀w,Calls Tryz.prog 198 #[.string (⟨#[]⟩:ByteArray)] w fun e w'=>e=.returned (.bool true)/\w'=w):=fun w=>(cR (⟨#[]⟩:ByteArray) w hm).mono fun _ _ h=>h.yes p4;obtain⟨q,hq⟩:∃q:Int,q=if x=true then 1 else 6:=⟨_,rfl⟩;have HM:Hid (∀w,Calls Tryz.prog 223 #[.agg #[.string n,.int .i64 c,.string z,.string k,.bool x,.string (⟨#[]⟩:ByteArray),.bool true,.slice a len cap]] w fun e w'=>e=.returned (.int .i64 q)/\Below w.heap.size w w'):=fun w=>by rw[hq];exact kb n c z k x (⟨#[]⟩:ByteArray) true a len cap w
  have HQ:Hid (q=if x=true then 1 else 6):=hq;clear hq;go_enter Tryz.func212,Tryz.ntmps212;go_wp2_with fail;go_region_with (first|(go_at_call_of 204 (FK n);refine (F0.out _).mono ?_;rintro e w1 ⟨rfl,rfl⟩)|(go_at_call_of 115 (Value.int .i64 c);refine (F1.out _).mono ?_;rintro e w1 ⟨rfl,rfl⟩)|(go_at_call_of 204 (FK z);refine (F2.out _).mono ?_;rintro e w1 ⟨rfl,rfl⟩)|(go_at_call_of 204 (FK k);refine (F3.out _).mono ?_;rintro e w1 ⟨rfl,rfl⟩)|(go_at_call_of 198 (FK (⟨#[]⟩:ByteArray));refine (F4.out _).mono ?_;rintro e w1 ⟨rfl,rfl⟩)|(go_at_call 223;refine (HM.out _).mono ?_;rintro e w1 ⟨rfl,hb⟩;have hc7:=aw (im hb).1 7;simp only[G9,List.getElem?_cons_succ,F9] at hc7)|(go_at_call 222;refine (eN a len cap zs _ _ (HR.below (im hb).2.1)).mono ?_;rintro e w2 ⟨r,rfl,hr,rfl⟩));all_goals (
   go_wp2_with fail;go_ret
   exact⟨r,rfl,⟨fun h=>⟨p0,p1,p2,p3,p4,(fun _=>rfl),HQ.out ▸ hr.1 h⟩,fun h=>hr.2 (HQ.out ▸ h.2.2.2.2.2.2)⟩,(im hb).2.1⟩)
 have hq9:=bc hm0;go_enter Tryz.func212,Tryz.ntmps212;exact wU

end Go.Proofs.YtpejepeekdjfoaaGreatDoor

namespace Go.Proofs.YtpejepeekdjfoaaGreatDoor
open Go.RowKit
namespace Rc
open Mk

theorem h_ (x:Nd) (va:Option Addr) (vl vc:Nat) (w:World):
  Calls Tryz.prog 243 #[.agg #[.string x.n,.string x.z,.int .i64 x.c,.int .i64 x.s,.int .i64 x.u,.bool x.d,.slice va vl vc]] w fun e w'=>e=.returned (.string x.n)/\Below w.heap.size w w':=by
 go_enter Tryz.func243,Tryz.ntmps243;go_wp2;go_ret;exact⟨rfl,al _ _⟩

theorem np (x:Nd) (va:Option Addr) (vl vc:Nat) (w:World) (hn:x.n.size<=9223372036854775807) (hz:x.z.size<=9223372036854775807) (hr:ay w va vl vc x.zs):
  Calls Tryz.prog 244 #[.agg #[.string x.n,.string x.z,.int .i64 x.c,.int .i64 x.s,.int .i64 x.u,.bool x.d,.slice va vl vc]] w (ar (oA x) w):=by
 have HR:=aa (hr.below (al w (.cells (nov x va vl vc) 57)));clear hr;go_enter Tryz.func244,Tryz.ntmps244;go_wp2_with fail;refine (tL x.n x.z x.c x.s x.u x.d va vl vc x.zs _ hn hz HR.out).mono ?_;exact nV

theorem oi (a:Option Addr) (len cap:Nat) (xs:List Nd) (t:ByteArray) (w:World) (hr:aN w a len cap 7 (xs.map ndF)):
  Calls Tryz.prog 195 #[.slice a len cap,.string t] w fun e w'=>e=.returned (.tuple #[.int .i64 (pl Nd.n xs t:Nat),.bool (hit Nd.n xs t)])/\Below w.heap.size w w':=by
 obtain⟨HR,hxl,hlc⟩:=fT;clear hr;have hmcalled:∀(v:Value) (w:World),(method 416 57 v "loop.example/g00571/impl.called").run Tryz.prog w=.ok (243,v) w:=fun _ _=>by kernel_rfl
 go_enter Tryz.func195,Tryz.ntmps195;go_wp2;go_loopw [10] (fun i wr=> ∃k:Nat,k<=len/\i=.int .i64 k/\Hid (∀(j:Nat) y,j<k->xs[j]?=some y->FB y.n.toList t.toList=true)/\Hid (Below w.heap.size w wr)) (fun i _=>len - (intOf i).toNat);case atStart=>exact⟨0,by omega,rfl,fun j y hj=>by omega,Fw _ _⟩
 case round=>
  obtain⟨k,hk,rfl,HE,HB⟩:=hrel;by_cases hlt:k<len
  ·obtain⟨b,o,x,rfl,hb,hx,hat⟩:=cB (HR.below HB.out) hlt;obtain⟨va,vl,vc,hvr,z0,z1,c0,c1,c2,c3,c4,c5,c6⟩:=aZ hat;have HX:=aa hx;clear hat hx z0 z1 hvr;have HC:=aa (fun v:World=>h_ x va vl vc v);have HB1:=aa (HB.alloc HB.size (.cells (nov x va vl vc) 57));go_wp2_with fail;refine (HC.out _).mono ?_;rintro e w1 ⟨rfl,hb1⟩;obtain⟨g1,-,-⟩:=cE hb1;have hs1:=hb1.size;rw[show (wr.alloc (.cells (nov x va vl vc) 57)).heap.size=wr.heap.size+1 from by simp] at hs1;obtain⟨HB2,d0,d1,d2,d3⟩:=fS;have d4:=ck4 g1;have d5:=ck5 g1;have d6:=ck6 g1;clear g1 hb1 c0 c1 c2 c3 c4 c5 c6 HB1;cases hless:FB x.n.toList t.toList
   ·go_wp2_with fail;refine (HC.out _).mono ?_;rintro e w2 ⟨rfl,hb2⟩;obtain⟨HB3,hp⟩:=nL;clear hb2;go_wp2_with fail;refine bodyPost_ret (v:=.tuple #[.int .i64 k,.bool (x.n.toList==t.toList)]) (by simp[results,Tryz.results195,go_sem]) rfl ⟨?_,HB3.out⟩;unfold hit;rw[hp,HX.out]
   ·exact oa
  ·obtain rfl:k=len:=af
   have hp:pl Nd.n xs t=xs.length:=gg (fun j y hy=>HE.out j y kY hy);have hh:hit Nd.n xs t=false:=by unfold hit;rw[hp,List.getElem?_eq_none (Ft _)]
   have HP:=aa hp;have HH:=aa hh;clear hp hh;go_wp2;exact bodyPost_ret (v:=.tuple #[.int .i64 k,.bool false]) (by simp[results,Tryz.results195,go_sem]) rfl ⟨by rw[HP.out,HH.out,hxl],HB.out⟩

def sX (xs:List Nd) (t:ByteArray) (r w:World) (e:Ending) (w':World):Prop:=
 Below w.heap.size w w'/\((hit Nd.n xs t=true/\∃(x:Nd) (va:Option Addr) (vl vc:Nat),xs[pl Nd.n xs t]?=some x/\x.n=t/\e=.returned (.tuple #[.agg #[.string x.n,.string x.z,.int .i64 x.c,.int .i64 x.s,.int .i64 x.u,.bool x.d,.slice va vl vc],.bool true])/\x.n.size<=9223372036854775807/\x.z.size<=9223372036854775807/\ay r va vl vc x.zs)\/(hit Nd.n xs t=false/\e=.returned (.tuple #[.agg #[.string ⟨#[]⟩,.string ⟨#[]⟩,.int .i64 0,.int .i64 0,.int .i64 0,.bool false,.slice none 0 0],.bool false])))

theorem rK (a:Option Addr) (len cap:Nat) (xs:List Nd) (t:ByteArray) (r w:World) (hr:aN r a len cap 7 (xs.map ndF)) (hrw:Below r.heap.size r w):
  Calls Tryz.prog 180 #[.slice a len cap,.string t] w (sX xs t r w):=by
 obtain⟨HR,HRW,hxl⟩:=nF;have HR1:=aa ((hr.below hrw).below (al w (.cells #[.string ⟨#[]⟩,.string ⟨#[]⟩,.int .i64 0,.int .i64 0,.int .i64 0,.bool false,.slice none 0 0] 57)));clear hr hrw;go_enter Tryz.func180,Tryz.ntmps180;go_wp2_with fail;refine (oi a len cap xs t _ HR1.out).mono ?_;rintro e w1 ⟨rfl,hb⟩;obtain⟨g1,hb1,-⟩:=cE hb;obtain⟨d0,f0,d1,f1,d2,f2,d3,f3⟩:=gL;obtain⟨d4,f4,d5,f5,d6,f6⟩:=si;have HB:=aa hb1;have hs1:=hb.size;rw[show (w.alloc (.cells #[.string ⟨#[]⟩,.string ⟨#[]⟩,.int .i64 0,.int .i64 0,.int .i64 0,.bool false,.slice none 0 0] 57)).heap.size=w.heap.size+1 from by simp] at hs1;have hlt1:w.heap.size<w1.heap.size:=af
 clear hb g1 HR1 hs1;cases hh:hit Nd.n xs t
 ·generalize pl Nd.n xs t=j;have HH:=aa hh;clear hh hb1 HR hxl;go_wp2;refine bodyPost_ret (v:=.tuple #[.agg #[.string ⟨#[]⟩,.string ⟨#[]⟩,.int .i64 0,.int .i64 0,.int .i64 0,.bool false,.slice none 0 0],.bool false]) (by simp[results,Tryz.results180,go_sem, *]) rfl ⟨?_,.inr ⟨HH.out,rfl⟩⟩;exact Below.alloc (ah (Ft _) (ah (Ft _) (ah (Ft _) (ah (Ft _) (ah (Ft _) (ah (Ft _) (ah (Ft _) (HB.out)))))))) jJ _
 ·obtain⟨x,hx,hn⟩:=dq hh;have hj:pl Nd.n xs t<len:=by have:=(Fm.1 hx).1;omega
  obtain⟨b,o,y,rfl,hbl,hy,hat⟩:=cB HR.out hj;rw[hx] at hy;obtain rfl:=Fq hy;obtain⟨va,vl,vc,hvr,z0,z1,c0,c1,c2,c3,c4,c5,c6⟩:=aZ hat;obtain⟨hbw,e0,e1,e2,e3⟩:=u_;obtain⟨e4,e5⟩:=vj;have e6:=(ak hb1 hbw).trans ((ak HRW.out hbl).trans c6);have HI:Hid (sX xs t r w (.returned (.tuple #[.agg #[.string x.n,.string x.z,.int .i64 x.c,.int .i64 x.s,.int .i64 x.u,.bool x.d,.slice va vl vc],.bool true])) w):=⟨Fw _ _,.inl ⟨hh,x,va,vl,vc,hx,hn,rfl,z0,z1,hvr⟩⟩;clear c0 c1 c2 c3 c4 c5 c6 hat hx hn hy hh z0 z1 hvr HR HRW hb1;obtain⟨j,hjj⟩:∃j,pl Nd.n xs t=j:=⟨_,rfl⟩;rw[hjj] at hj;simp only[hjj] at*;clear hjj;go_wp2;refine bodyPost_ret (v:=.tuple #[.agg #[.string x.n,.string x.z,.int .i64 x.c,.int .i64 x.s,.int .i64 x.u,.bool x.d,.slice va vl vc],.bool true]) (by simp[results,Tryz.results180,go_sem, *]) rfl ⟨?_,HI.2⟩;exact ah (Ft _) (ah (Ft _) (ah (Ft _) (ah (Ft _) (ah (Ft _) (ah (Ft _) (ah (Ft _) (HB.out)))))))

theorem ig (d:Ad) (now:Int) (xs:List Nd) (t:ByteArray) (r w:World) (hr:aN r d.a1 d.l1 d.c1 7 (xs.map ndF)) (hrw:Below r.heap.size r w):
  Calls Tryz.prog 158 #[.agg #[.slice d.a1 d.l1 d.c1,.slice d.a2 d.l2 d.c2,.slice d.a3 d.l3 d.c3,.slice d.a4 d.l4 d.c4,.slice d.a5 d.l5 d.c5,.int .i64 now],.string t] w (sX xs t r w):=by
 have HR:=aa hr;have HRW:=aa (hrw.trans ((aF w (.cells (clv d now) 36) (.cells #[.string ⟨#[]⟩,.string ⟨#[]⟩,.int .i64 0,.int .i64 0,.int .i64 0,.bool false,.slice none 0 0] 57)).mono hrw.size));clear hr hrw;go_enter Tryz.func158,Tryz.ntmps158;go_wp2_with fail;refine (rK _ _ _ xs t r _ HR.out HRW.out).mono ?_;rintro e w1 ⟨hb,hf⟩;have g1:=(hb.block (w.heap.size+1) aS).trans (bE _ _ _);obtain⟨d0,f0,d1,f1,d2,f2,d3,f3⟩:=gL;obtain⟨d4,f4,d5,f5,d6,f6⟩:=si;have HB:Hid (Below w.heap.size w w1):=(aF _ _ _).trans (hb.mono bG);clear g1 hb HR HRW;rcases hf with ⟨hh,x,va,vl,vc,hx,hn,rfl,z0,z1,hvr⟩|⟨hh,rfl⟩
 ·have HI:Hid (sX xs t r w (.returned (.tuple #[.agg #[.string x.n,.string x.z,.int .i64 x.c,.int .i64 x.s,.int .i64 x.u,.bool x.d,.slice va vl vc],.bool true])) w):=⟨Fw _ _,.inl ⟨hh,x,va,vl,vc,hx,hn,rfl,z0,z1,hvr⟩⟩;clear hx hn hh z0 z1 hvr;go_wp2;refine bodyPost_ret (v:=.tuple #[.agg #[.string x.n,.string x.z,.int .i64 x.c,.int .i64 x.s,.int .i64 x.u,.bool x.d,.slice va vl vc],.bool true]) (by simp[results,Tryz.results158,go_sem, *]) rfl ⟨?_,HI.2⟩;exact yx
 ·have HH:=aa hh;clear hh;go_wp2;refine bodyPost_ret (v:=.tuple #[.agg #[.string ⟨#[]⟩,.string ⟨#[]⟩,.int .i64 0,.int .i64 0,.int .i64 0,.bool false,.slice none 0 0],.bool false]) (by simp[results,Tryz.results158,go_sem, *]) rfl ⟨?_,.inr ⟨HH.out,rfl⟩⟩;exact yx

theorem pK (a:Option Addr) (len cap:Nat) (xs:List Nd) (most:Int) (w:World) (hr:aN w a len cap 7 (xs.map ndF)):
  Calls Tryz.prog 148 #[.slice a len cap,.int .i64 most] w (ar (ed oA Nd.n xs most) w):=by
 obtain⟨HR,hxl,hlc⟩:=fT;clear hr;have hmcalled:∀(v:Value) (w:World),(method 416 57 v "loop.example/g00571/impl.called").run Tryz.prog w=.ok (243,v) w:=fun _ _=>by kernel_rfl
 have hmright:∀(v:Value) (w:World),(method 416 57 v "loop.example/g00571/impl.right").run Tryz.prog w=.ok (244,v) w:=fun _ _=>by kernel_rfl
 by_cases hmo:most<(len:Int)
 ·go_enter Tryz.func148,Tryz.ntmps148;exact j5
 go_enter Tryz.func148,Tryz.ntmps148;go_wp2;go_loopw [5,14] (fun q i wr=> ∃(k:Nat) (y:ByteArray),k<=len/\q=.string y/\i=.int .i64 k/\Hid (k=0->y=⟨#[]⟩)/\Hid (∀z,0<k->xs[k - 1]?=some z->z.n=y)/\Hid (∀(j:Nat) z,j<k->xs[j]?=some z->oA z)/\Hid (∀(j:Nat) z u,j+1<k->xs[j+1]?=some z->xs[j]?=some u->FB u.n.toList z.n.toList=true)/\Hid (Below w.heap.size w wr)) (fun _ i _=>len - (intOf i).toNat);case atStart=>exact⟨0,_,by omega,rfl,rfl,fun _=>rfl,fun _ h=>absurd h af,fun _ _ h=>absurd h af,fun _ _ _ h=>absurd h af,Fw _ _⟩
 case round=>
  obtain⟨k,y,hk,rfl,rfl,H0,H1,HE,HO,HB⟩:=hrel;by_cases hlt:k<len
  ·obtain⟨b,o,x,rfl,hb,hx,hat⟩:=cB (HR.below HB.out) hlt;obtain⟨va,vl,vc,hvr,z0,z1,c0,c1,c2,c3,c4,c5,c6⟩:=aZ hat;have HX:=aa hx;have HC:=aa (fun v:World=>h_ x va vl vc v);have HB1:=aa (HB.alloc HB.size (.cells (nov x va vl vc) 57));have HRt:=aa (np x va vl vc (wr.alloc (.cells (nov x va vl vc) 57)) z0 z1 (hvr.below (al _ _)));clear hat hx z0 z1 hvr;go_wp2_with fail;refine HRt.mono ?_;rintro e w1 ⟨r,rfl,hrt,hb1⟩;obtain⟨g1,-,-⟩:=cE hb1;have hs1:=hb1.size;rw[show (wr.alloc (.cells (nov x va vl vc) 57)).heap.size=wr.heap.size+1 from by simp] at hs1;obtain⟨HB2,d0,d1,d2,d3⟩:=fS;have d4:=ck4 g1;have d5:=ck5 g1;have d6:=ck6 g1;have HG:=aa g1;have HI:=aa hrt;clear g1 hb1 HB1 HRt hrt c0 c1 c2 c3 c4 c5 c6;cases r
   ·exact nQ
   have HOK:=aa (HI.1 rfl);clear HI;go_wp2_with fail;refine (HC.out _).mono ?_;rintro e w2 ⟨rfl,hb2⟩;obtain⟨HB3,g2,hs2,htri⟩:=nN;clear HG hb2 HB2 d0 d1 d2 d3 d4 d5 d6;have d0:=ck0 g2;have d1:=ck1 g2;have d2:=ck2 g2;have d3:=ck3 g2;have d4:=ck4 g2;have d5:=ck5 g2;have d6:=ck6 g2;clear g2;cases hless:FB y.toList x.n.toList
   ·exact od
   ·rw[hless] at htri;go_wp2_with fail;refine (HC.out _).mono ?_;rintro e w3 ⟨rfl,hb3⟩;have HB4:=aa (HB3.trans (hb3.mono (FA HB.size af)));clear hb3 d0 d1 d2 d3 d4 d5 d6;exact vH
  ·exact ob

theorem ia (x:Kd)  (w:World):
  Calls Tryz.prog 252 #[.agg #[.string x.n,.bool x.x,.bool x.y,.string x.z]] w fun e w'=>e=.returned (.string x.n)/\Below w.heap.size w w':=by
 go_enter Tryz.func252,Tryz.ntmps252;go_wp2;go_ret;exact⟨rfl,al _ _⟩

theorem nq (x:Kd)  (w:World) (hn:x.n.size<=9223372036854775807) (hz:x.z.size<=9223372036854775807):
  Calls Tryz.prog 253 #[.agg #[.string x.n,.bool x.x,.bool x.y,.string x.z]] w (ar (ri x) w):=by
 skip;skip;go_enter Tryz.func253,Tryz.ntmps253;go_wp2_with fail;refine (gj x.n x.z x.x x.y _ hn hz).mono ?_;exact nV

theorem oj (a:Option Addr) (len cap:Nat) (xs:List Kd) (t:ByteArray) (w:World) (hr:aN w a len cap 4 (xs.map kdF)):
  Calls Tryz.prog 184 #[.slice a len cap,.string t] w fun e w'=>e=.returned (.tuple #[.int .i64 (pl Kd.n xs t:Nat),.bool (hit Kd.n xs t)])/\Below w.heap.size w w':=by
 obtain⟨HR,hxl,hlc⟩:=fT;clear hr;have hmcalled:∀(v:Value) (w:World),(method 416 102 v "loop.example/g00571/impl.called").run Tryz.prog w=.ok (252,v) w:=fun _ _=>by kernel_rfl
 go_enter Tryz.func184,Tryz.ntmps184;go_wp2;go_loopw [10] (fun i wr=> ∃k:Nat,k<=len/\i=.int .i64 k/\Hid (∀(j:Nat) y,j<k->xs[j]?=some y->FB y.n.toList t.toList=true)/\Hid (Below w.heap.size w wr)) (fun i _=>len - (intOf i).toNat);case atStart=>exact⟨0,by omega,rfl,fun j y hj=>by omega,Fw _ _⟩
 case round=>
  obtain⟨k,hk,rfl,HE,HB⟩:=hrel;by_cases hlt:k<len
  ·obtain⟨b,o,x,rfl,hb,hx,hat⟩:=eW (HR.below HB.out) hlt;obtain⟨z0,z3,c0,c1,c2,c3⟩:=cf hat;have HX:=aa hx;clear hat hx z0 z3;have HC:=aa (fun v:World=>ia x v);have HB1:=aa (HB.alloc HB.size (.cells #[.string x.n,.bool x.x,.bool x.y,.string x.z] 102));go_wp2_with fail;refine (HC.out _).mono ?_;rintro e w1 ⟨rfl,hb1⟩;obtain⟨g1,-,-⟩:=cE hb1;have hs1:=hb1.size;rw[show (wr.alloc (.cells #[.string x.n,.bool x.x,.bool x.y,.string x.z] 102)).heap.size=wr.heap.size+1 from by simp] at hs1;obtain⟨HB2,d0,d1,d2,d3⟩:=fS;clear g1 hb1 c0 c1 c2 c3 HB1;cases hless:FB x.n.toList t.toList
   ·go_wp2_with fail;refine (HC.out _).mono ?_;rintro e w2 ⟨rfl,hb2⟩;obtain⟨HB3,hp⟩:=nL;clear hb2;go_wp2_with fail;refine bodyPost_ret (v:=.tuple #[.int .i64 k,.bool (x.n.toList==t.toList)]) (by simp[results,Tryz.results184,go_sem]) rfl ⟨?_,HB3.out⟩;unfold hit;rw[hp,HX.out]
   ·exact oa
  ·obtain rfl:k=len:=af
   have hp:pl Kd.n xs t=xs.length:=gg (fun j y hy=>HE.out j y kY hy);have hh:hit Kd.n xs t=false:=by unfold hit;rw[hp,List.getElem?_eq_none (Ft _)]
   have HP:=aa hp;have HH:=aa hh;clear hp hh;go_wp2;exact bodyPost_ret (v:=.tuple #[.int .i64 k,.bool false]) (by simp[results,Tryz.results184,go_sem]) rfl ⟨by rw[HP.out,HH.out,hxl],HB.out⟩

def sY (xs:List Kd) (t:ByteArray) (_r w:World) (e:Ending) (w':World):Prop:=
 Below w.heap.size w w'/\((hit Kd.n xs t=true/\∃(x:Kd),xs[pl Kd.n xs t]?=some x/\x.n=t/\e=.returned (.tuple #[.agg #[.string x.n,.bool x.x,.bool x.y,.string x.z],.bool true])/\x.n.size<=9223372036854775807/\x.z.size<=9223372036854775807)\/(hit Kd.n xs t=false/\e=.returned (.tuple #[.agg #[.string ⟨#[]⟩,.bool false,.bool false,.string ⟨#[]⟩],.bool false])))

theorem rL (a:Option Addr) (len cap:Nat) (xs:List Kd) (t:ByteArray) (r w:World) (hr:aN r a len cap 4 (xs.map kdF)) (hrw:Below r.heap.size r w):
  Calls Tryz.prog 166 #[.slice a len cap,.string t] w (sY xs t r w):=by
 obtain⟨HR,HRW,hxl⟩:=nF;have HR1:=aa ((hr.below hrw).below (al w (.cells #[.string ⟨#[]⟩,.bool false,.bool false,.string ⟨#[]⟩] 102)));clear hr hrw;go_enter Tryz.func166,Tryz.ntmps166;go_wp2_with fail;refine (oj a len cap xs t _ HR1.out).mono ?_;rintro e w1 ⟨rfl,hb⟩;obtain⟨g1,hb1,-⟩:=cE hb;obtain⟨d0,f0,d1,f1,d2,f2,d3,f3⟩:=gL;have HB:=aa hb1;have hs1:=hb.size;rw[show (w.alloc (.cells #[.string ⟨#[]⟩,.bool false,.bool false,.string ⟨#[]⟩] 102)).heap.size=w.heap.size+1 from by simp] at hs1;have hlt1:w.heap.size<w1.heap.size:=af
 clear hb g1 HR1 hs1;cases hh:hit Kd.n xs t
 ·generalize pl Kd.n xs t=j;have HH:=aa hh;clear hh hb1 HR hxl;go_wp2;refine bodyPost_ret (v:=.tuple #[.agg #[.string ⟨#[]⟩,.bool false,.bool false,.string ⟨#[]⟩],.bool false]) (by simp[results,Tryz.results166,go_sem, *]) rfl ⟨?_,.inr ⟨HH.out,rfl⟩⟩;exact Below.alloc (ah (Ft _) (ah (Ft _) (ah (Ft _) (ah (Ft _) (HB.out))))) jJ _
 ·obtain⟨x,hx,hn⟩:=dq hh;have hj:pl Kd.n xs t<len:=by have:=(Fm.1 hx).1;omega
  obtain⟨b,o,y,rfl,hbl,hy,hat⟩:=eW HR.out hj;rw[hx] at hy;obtain rfl:=Fq hy;obtain⟨z0,z3,c0,c1,c2,c3⟩:=cf hat;obtain⟨hbw,e0,e1,e2,e3⟩:=u_;have HI:Hid (sY xs t r w (.returned (.tuple #[.agg #[.string x.n,.bool x.x,.bool x.y,.string x.z],.bool true])) w):=⟨Fw _ _,.inl ⟨hh,x,hx,hn,rfl,z0,z3⟩⟩;clear c0 c1 c2 c3 hat hx hn hy hh z0 z3 HR HRW hb1;obtain⟨j,hjj⟩:∃j,pl Kd.n xs t=j:=⟨_,rfl⟩;rw[hjj] at hj;simp only[hjj] at*;clear hjj;go_wp2;refine bodyPost_ret (v:=.tuple #[.agg #[.string x.n,.bool x.x,.bool x.y,.string x.z],.bool true]) (by simp[results,Tryz.results166,go_sem, *]) rfl ⟨?_,HI.2⟩;exact ah (Ft _) (ah (Ft _) (ah (Ft _) (ah (Ft _) (HB.out))))

theorem ij (d:Ad) (now:Int) (xs:List Kd) (t:ByteArray) (r w:World) (hr:aN r d.a2 d.l2 d.c2 4 (xs.map kdF)) (hrw:Below r.heap.size r w):
  Calls Tryz.prog 127 #[.agg #[.slice d.a1 d.l1 d.c1,.slice d.a2 d.l2 d.c2,.slice d.a3 d.l3 d.c3,.slice d.a4 d.l4 d.c4,.slice d.a5 d.l5 d.c5,.int .i64 now],.string t] w (sY xs t r w):=by
 have HR:=aa hr;have HRW:=aa (hrw.trans ((aF w (.cells (clv d now) 36) (.cells #[.string ⟨#[]⟩,.bool false,.bool false,.string ⟨#[]⟩] 102)).mono hrw.size));clear hr hrw;go_enter Tryz.func127,Tryz.ntmps127;go_wp2_with fail;refine (rL _ _ _ xs t r _ HR.out HRW.out).mono ?_;rintro e w1 ⟨hb,hf⟩;have g1:=(hb.block (w.heap.size+1) aS).trans (bE _ _ _);obtain⟨d0,f0,d1,f1,d2,f2,d3,f3⟩:=gL;have HB:Hid (Below w.heap.size w w1):=(aF _ _ _).trans (hb.mono bG);clear g1 hb HR HRW;rcases hf with ⟨hh,x,hx,hn,rfl,z0,z3⟩|⟨hh,rfl⟩
 ·have HI:Hid (sY xs t r w (.returned (.tuple #[.agg #[.string x.n,.bool x.x,.bool x.y,.string x.z],.bool true])) w):=⟨Fw _ _,.inl ⟨hh,x,hx,hn,rfl,z0,z3⟩⟩;clear hx hn hh z0 z3;go_wp2;refine bodyPost_ret (v:=.tuple #[.agg #[.string x.n,.bool x.x,.bool x.y,.string x.z],.bool true]) (by simp[results,Tryz.results127,go_sem, *]) rfl ⟨?_,HI.2⟩;exact xW
 ·have HH:=aa hh;clear hh;go_wp2;refine bodyPost_ret (v:=.tuple #[.agg #[.string ⟨#[]⟩,.bool false,.bool false,.string ⟨#[]⟩],.bool false]) (by simp[results,Tryz.results127,go_sem, *]) rfl ⟨?_,.inr ⟨HH.out,rfl⟩⟩;exact xW

theorem pL (a:Option Addr) (len cap:Nat) (xs:List Kd) (most:Int) (w:World) (hr:aN w a len cap 4 (xs.map kdF)):
  Calls Tryz.prog 149 #[.slice a len cap,.int .i64 most] w (ar (ed ri Kd.n xs most) w):=by
 obtain⟨HR,hxl,hlc⟩:=fT;clear hr;have hmcalled:∀(v:Value) (w:World),(method 416 102 v "loop.example/g00571/impl.called").run Tryz.prog w=.ok (252,v) w:=fun _ _=>by kernel_rfl
 have hmright:∀(v:Value) (w:World),(method 416 102 v "loop.example/g00571/impl.right").run Tryz.prog w=.ok (253,v) w:=fun _ _=>by kernel_rfl
 by_cases hmo:most<(len:Int)
 ·go_enter Tryz.func149,Tryz.ntmps149;exact j5
 go_enter Tryz.func149,Tryz.ntmps149;go_wp2;go_loopw [5,14] (fun q i wr=> ∃(k:Nat) (y:ByteArray),k<=len/\q=.string y/\i=.int .i64 k/\Hid (k=0->y=⟨#[]⟩)/\Hid (∀z,0<k->xs[k - 1]?=some z->z.n=y)/\Hid (∀(j:Nat) z,j<k->xs[j]?=some z->ri z)/\Hid (∀(j:Nat) z u,j+1<k->xs[j+1]?=some z->xs[j]?=some u->FB u.n.toList z.n.toList=true)/\Hid (Below w.heap.size w wr)) (fun _ i _=>len - (intOf i).toNat);case atStart=>exact⟨0,_,by omega,rfl,rfl,fun _=>rfl,fun _ h=>absurd h af,fun _ _ h=>absurd h af,fun _ _ _ h=>absurd h af,Fw _ _⟩
 case round=>
  obtain⟨k,y,hk,rfl,rfl,H0,H1,HE,HO,HB⟩:=hrel;by_cases hlt:k<len
  ·obtain⟨b,o,x,rfl,hb,hx,hat⟩:=eW (HR.below HB.out) hlt;obtain⟨z0,z3,c0,c1,c2,c3⟩:=cf hat;have HX:=aa hx;have HC:=aa (fun v:World=>ia x v);have HB1:=aa (HB.alloc HB.size (.cells #[.string x.n,.bool x.x,.bool x.y,.string x.z] 102));have HRt:=aa (nq x (wr.alloc (.cells #[.string x.n,.bool x.x,.bool x.y,.string x.z] 102)) z0 z3);clear hat hx z0 z3;go_wp2_with fail;refine HRt.mono ?_;rintro e w1 ⟨r,rfl,hrt,hb1⟩;obtain⟨g1,-,-⟩:=cE hb1;have hs1:=hb1.size;rw[show (wr.alloc (.cells #[.string x.n,.bool x.x,.bool x.y,.string x.z] 102)).heap.size=wr.heap.size+1 from by simp] at hs1;obtain⟨HB2,d0,d1,d2,d3⟩:=fS;have HG:=aa g1;have HI:=aa hrt;clear g1 hb1 HB1 HRt hrt c0 c1 c2 c3;cases r
   ·exact nQ
   have HOK:=aa (HI.1 rfl);clear HI;go_wp2_with fail;refine (HC.out _).mono ?_;rintro e w2 ⟨rfl,hb2⟩;obtain⟨HB3,g2,hs2,htri⟩:=nN;clear HG hb2 HB2 d0 d1 d2 d3;have d0:=ck0 g2;have d1:=ck1 g2;have d2:=ck2 g2;have d3:=ck3 g2;clear g2;cases hless:FB y.toList x.n.toList
   ·exact od
   ·rw[hless] at htri;go_wp2_with fail;refine (HC.out _).mono ?_;rintro e w3 ⟨rfl,hb3⟩;have HB4:=aa (HB3.trans (hb3.mono (FA HB.size af)));clear hb3 d0 d1 d2 d3;exact vH
  ·exact ob

theorem dS (x:Vd) (va:Option Addr) (vl vc:Nat) (w:World):
  Calls Tryz.prog 250 #[.agg #[.string x.n,.int .i64 x.c,.string x.z,.string x.k,.bool x.x,.string x.m,.bool x.y,.slice va vl vc]] w fun e w'=>e=.returned (.string x.n)/\Below w.heap.size w w':=by
 go_enter Tryz.func250,Tryz.ntmps250;go_wp2;go_ret;exact⟨rfl,al _ _⟩

theorem nj (x:Vd) (va:Option Addr) (vl vc:Nat) (w:World) (hn:x.n.size<=9223372036854775807) (hz:x.z.size<=9223372036854775807) (hk:x.k.size<=9223372036854775807) (hm:x.m.size<=9223372036854775807) (hr:ay w va vl vc x.zs):
  Calls Tryz.prog 251 #[.agg #[.string x.n,.int .i64 x.c,.string x.z,.string x.k,.bool x.x,.string x.m,.bool x.y,.slice va vl vc]] w (ar (pn x) w):=by
 have HR:=aa (hr.below (al w (.cells (vov x va vl vc) 99)));clear hr;go_enter Tryz.func251,Tryz.ntmps251;go_wp2_with fail;refine (oL x.n x.c x.z x.k x.x x.m x.y va vl vc x.zs _ hn hz hk hm HR.out).mono ?_;exact nV

theorem fg (a:Option Addr) (len cap:Nat) (xs:List Vd) (t:ByteArray) (w:World) (hr:aN w a len cap 8 (xs.map vdF)):
  Calls Tryz.prog 183 #[.slice a len cap,.string t] w fun e w'=>e=.returned (.tuple #[.int .i64 (pl Vd.n xs t:Nat),.bool (hit Vd.n xs t)])/\Below w.heap.size w w':=by
 obtain⟨HR,hxl,hlc⟩:=fT;clear hr;have hmcalled:∀(v:Value) (w:World),(method 416 99 v "loop.example/g00571/impl.called").run Tryz.prog w=.ok (250,v) w:=fun _ _=>by kernel_rfl
 go_enter Tryz.func183,Tryz.ntmps183;go_wp2;go_loopw [10] (fun i wr=> ∃k:Nat,k<=len/\i=.int .i64 k/\Hid (∀(j:Nat) y,j<k->xs[j]?=some y->FB y.n.toList t.toList=true)/\Hid (Below w.heap.size w wr)) (fun i _=>len - (intOf i).toNat);case atStart=>exact⟨0,by omega,rfl,fun j y hj=>by omega,Fw _ _⟩
 case round=>
  obtain⟨k,hk,rfl,HE,HB⟩:=hrel;by_cases hlt:k<len
  ·obtain⟨b,o,x,rfl,hb,hx,hat⟩:=bN (HR.below HB.out) hlt;obtain⟨va,vl,vc,hvr,z0,z2,z3,z5,c0,c1,c2,c3,c4,c5,c6,c7⟩:=aK hat;have HX:=aa hx;clear hat hx z0 z2 z3 z5 hvr;have HC:=aa (fun v:World=>dS x va vl vc v);have HB1:=aa (HB.alloc HB.size (.cells (vov x va vl vc) 99));go_wp2_with fail;refine (HC.out _).mono ?_;rintro e w1 ⟨rfl,hb1⟩;obtain⟨g1,-,-⟩:=cE hb1;have hs1:=hb1.size;rw[show (wr.alloc (.cells (vov x va vl vc) 99)).heap.size=wr.heap.size+1 from by simp] at hs1;obtain⟨HB2,d0,d1,d2,d3⟩:=fS;have d4:=ck4 g1;have d5:=ck5 g1;have d6:=ck6 g1;have d7:=ck7 g1;clear g1 hb1 c0 c1 c2 c3 c4 c5 c6 c7 HB1;cases hless:FB x.n.toList t.toList
   ·go_wp2_with fail;refine (HC.out _).mono ?_;rintro e w2 ⟨rfl,hb2⟩;obtain⟨HB3,hp⟩:=nL;clear hb2;go_wp2_with fail;refine bodyPost_ret (v:=.tuple #[.int .i64 k,.bool (x.n.toList==t.toList)]) (by simp[results,Tryz.results183,go_sem]) rfl ⟨?_,HB3.out⟩;unfold hit;rw[hp,HX.out]
   ·exact oa
  ·obtain rfl:k=len:=af
   have hp:pl Vd.n xs t=xs.length:=gg (fun j y hy=>HE.out j y kY hy);have hh:hit Vd.n xs t=false:=by unfold hit;rw[hp,List.getElem?_eq_none (Ft _)]
   have HP:=aa hp;have HH:=aa hh;clear hp hh;go_wp2;exact bodyPost_ret (v:=.tuple #[.int .i64 k,.bool false]) (by simp[results,Tryz.results183,go_sem]) rfl ⟨by rw[HP.out,HH.out,hxl],HB.out⟩

def sW (xs:List Vd) (t:ByteArray) (r w:World) (e:Ending) (w':World):Prop:=
 Below w.heap.size w w'/\((hit Vd.n xs t=true/\∃(x:Vd) (va:Option Addr) (vl vc:Nat),xs[pl Vd.n xs t]?=some x/\x.n=t/\e=.returned (.tuple #[.agg #[.string x.n,.int .i64 x.c,.string x.z,.string x.k,.bool x.x,.string x.m,.bool x.y,.slice va vl vc],.bool true])/\x.n.size<=9223372036854775807/\x.z.size<=9223372036854775807/\x.k.size<=9223372036854775807/\x.m.size<=9223372036854775807/\ay r va vl vc x.zs)\/(hit Vd.n xs t=false/\e=.returned (.tuple #[.agg #[.string ⟨#[]⟩,.int .i64 0,.string ⟨#[]⟩,.string ⟨#[]⟩,.bool false,.string ⟨#[]⟩,.bool false,.slice none 0 0],.bool false])))

theorem rI (a:Option Addr) (len cap:Nat) (xs:List Vd) (t:ByteArray) (r w:World) (hr:aN r a len cap 8 (xs.map vdF)) (hrw:Below r.heap.size r w):
  Calls Tryz.prog 165 #[.slice a len cap,.string t] w (sW xs t r w):=by
 obtain⟨HR,HRW,hxl⟩:=nF;have HR1:=aa ((hr.below hrw).below (al w (.cells #[.string ⟨#[]⟩,.int .i64 0,.string ⟨#[]⟩,.string ⟨#[]⟩,.bool false,.string ⟨#[]⟩,.bool false,.slice none 0 0] 99)));clear hr hrw;go_enter Tryz.func165,Tryz.ntmps165;go_wp2_with fail;refine (fg a len cap xs t _ HR1.out).mono ?_;rintro e w1 ⟨rfl,hb⟩;obtain⟨g1,hb1,-⟩:=cE hb;obtain⟨d0,f0,d1,f1,d2,f2,d3,f3⟩:=gL;obtain⟨d4,f4,d5,f5,d6,f6⟩:=si;have d7:=ck7 g1;have f7:=av g1 7;have HB:=aa hb1;have hs1:=hb.size;rw[show (w.alloc (.cells #[.string ⟨#[]⟩,.int .i64 0,.string ⟨#[]⟩,.string ⟨#[]⟩,.bool false,.string ⟨#[]⟩,.bool false,.slice none 0 0] 99)).heap.size=w.heap.size+1 from by simp] at hs1;have hlt1:w.heap.size<w1.heap.size:=af
 clear hb g1 HR1 hs1;cases hh:hit Vd.n xs t
 ·generalize pl Vd.n xs t=j;have HH:=aa hh;clear hh hb1 HR hxl;go_wp2;refine bodyPost_ret (v:=.tuple #[.agg #[.string ⟨#[]⟩,.int .i64 0,.string ⟨#[]⟩,.string ⟨#[]⟩,.bool false,.string ⟨#[]⟩,.bool false,.slice none 0 0],.bool false]) (by simp[results,Tryz.results165,go_sem, *]) rfl ⟨?_,.inr ⟨HH.out,rfl⟩⟩;exact Below.alloc (ah (Ft _) (ah (Ft _) (ah (Ft _) (ah (Ft _) (ah (Ft _) (ah (Ft _) (ah (Ft _) (ah (Ft _) (HB.out))))))))) jJ _
 ·obtain⟨x,hx,hn⟩:=dq hh;have hj:pl Vd.n xs t<len:=by have:=(Fm.1 hx).1;omega
  obtain⟨b,o,y,rfl,hbl,hy,hat⟩:=bN HR.out hj;rw[hx] at hy;obtain rfl:=Fq hy;obtain⟨va,vl,vc,hvr,z0,z2,z3,z5,c0,c1,c2,c3,c4,c5,c6,c7⟩:=aK hat;obtain⟨hbw,e0,e1,e2,e3⟩:=u_;obtain⟨e4,e5⟩:=vj;have e6:=(ak hb1 hbw).trans ((ak HRW.out hbl).trans c6);have e7:=(ak hb1 hbw).trans ((ak HRW.out hbl).trans c7);have HI:Hid (sW xs t r w (.returned (.tuple #[.agg #[.string x.n,.int .i64 x.c,.string x.z,.string x.k,.bool x.x,.string x.m,.bool x.y,.slice va vl vc],.bool true])) w):=⟨Fw _ _,.inl ⟨hh,x,va,vl,vc,hx,hn,rfl,z0,z2,z3,z5,hvr⟩⟩;clear c0 c1 c2 c3 c4 c5 c6 c7 hat hx hn hy hh z0 z2 z3 z5 hvr HR HRW hb1;obtain⟨j,hjj⟩:∃j,pl Vd.n xs t=j:=⟨_,rfl⟩;rw[hjj] at hj;simp only[hjj] at*;clear hjj;go_wp2;refine bodyPost_ret (v:=.tuple #[.agg #[.string x.n,.int .i64 x.c,.string x.z,.string x.k,.bool x.x,.string x.m,.bool x.y,.slice va vl vc],.bool true]) (by simp[results,Tryz.results165,go_sem, *]) rfl ⟨?_,HI.2⟩;exact ah (Ft _) (ah (Ft _) (ah (Ft _) (ah (Ft _) (ah (Ft _) (ah (Ft _) (ah (Ft _) (ah (Ft _) (HB.out))))))))

theorem dW (d:Ad) (now:Int) (xs:List Vd) (t:ByteArray) (r w:World) (hr:aN r d.a3 d.l3 d.c3 8 (xs.map vdF)) (hrw:Below r.heap.size r w):
  Calls Tryz.prog 126 #[.agg #[.slice d.a1 d.l1 d.c1,.slice d.a2 d.l2 d.c2,.slice d.a3 d.l3 d.c3,.slice d.a4 d.l4 d.c4,.slice d.a5 d.l5 d.c5,.int .i64 now],.string t] w (sW xs t r w):=by
 have HR:=aa hr;have HRW:=aa (hrw.trans ((aF w (.cells (clv d now) 36) (.cells #[.string ⟨#[]⟩,.int .i64 0,.string ⟨#[]⟩,.string ⟨#[]⟩,.bool false,.string ⟨#[]⟩,.bool false,.slice none 0 0] 99)).mono hrw.size));clear hr hrw;go_enter Tryz.func126,Tryz.ntmps126;go_wp2_with fail;refine (rI _ _ _ xs t r _ HR.out HRW.out).mono ?_;rintro e w1 ⟨hb,hf⟩;have g1:=(hb.block (w.heap.size+1) aS).trans (bE _ _ _);obtain⟨d0,f0,d1,f1,d2,f2,d3,f3⟩:=gL;obtain⟨d4,f4,d5,f5,d6,f6⟩:=si;have d7:=ck7 g1;have f7:=av g1 7;have HB:Hid (Below w.heap.size w w1):=(aF _ _ _).trans (hb.mono bG);clear g1 hb HR HRW;rcases hf with ⟨hh,x,va,vl,vc,hx,hn,rfl,z0,z2,z3,z5,hvr⟩|⟨hh,rfl⟩
 ·have HI:Hid (sW xs t r w (.returned (.tuple #[.agg #[.string x.n,.int .i64 x.c,.string x.z,.string x.k,.bool x.x,.string x.m,.bool x.y,.slice va vl vc],.bool true])) w):=⟨Fw _ _,.inl ⟨hh,x,va,vl,vc,hx,hn,rfl,z0,z2,z3,z5,hvr⟩⟩;clear hx hn hh z0 z2 z3 z5 hvr;go_wp2;refine bodyPost_ret (v:=.tuple #[.agg #[.string x.n,.int .i64 x.c,.string x.z,.string x.k,.bool x.x,.string x.m,.bool x.y,.slice va vl vc],.bool true]) (by simp[results,Tryz.results126,go_sem, *]) rfl ⟨?_,HI.2⟩;exact yF
 ·have HH:=aa hh;clear hh;go_wp2;refine bodyPost_ret (v:=.tuple #[.agg #[.string ⟨#[]⟩,.int .i64 0,.string ⟨#[]⟩,.string ⟨#[]⟩,.bool false,.string ⟨#[]⟩,.bool false,.slice none 0 0],.bool false]) (by simp[results,Tryz.results126,go_sem, *]) rfl ⟨?_,.inr ⟨HH.out,rfl⟩⟩;exact yF

theorem pI (a:Option Addr) (len cap:Nat) (xs:List Vd) (most:Int) (w:World) (hr:aN w a len cap 8 (xs.map vdF)):
  Calls Tryz.prog 150 #[.slice a len cap,.int .i64 most] w (ar (ed pn Vd.n xs most) w):=by
 obtain⟨HR,hxl,hlc⟩:=fT;clear hr;have hmcalled:∀(v:Value) (w:World),(method 416 99 v "loop.example/g00571/impl.called").run Tryz.prog w=.ok (250,v) w:=fun _ _=>by kernel_rfl
 have hmright:∀(v:Value) (w:World),(method 416 99 v "loop.example/g00571/impl.right").run Tryz.prog w=.ok (251,v) w:=fun _ _=>by kernel_rfl
 by_cases hmo:most<(len:Int)
 ·go_enter Tryz.func150,Tryz.ntmps150;exact j5
 go_enter Tryz.func150,Tryz.ntmps150;go_wp2;go_loopw [5,14] (fun q i wr=> ∃(k:Nat) (y:ByteArray),k<=len/\q=.string y/\i=.int .i64 k/\Hid (k=0->y=⟨#[]⟩)/\Hid (∀z,0<k->xs[k - 1]?=some z->z.n=y)/\Hid (∀(j:Nat) z,j<k->xs[j]?=some z->pn z)/\Hid (∀(j:Nat) z u,j+1<k->xs[j+1]?=some z->xs[j]?=some u->FB u.n.toList z.n.toList=true)/\Hid (Below w.heap.size w wr)) (fun _ i _=>len - (intOf i).toNat);case atStart=>exact⟨0,_,by omega,rfl,rfl,fun _=>rfl,fun _ h=>absurd h af,fun _ _ h=>absurd h af,fun _ _ _ h=>absurd h af,Fw _ _⟩
 case round=>
  obtain⟨k,y,hk,rfl,rfl,H0,H1,HE,HO,HB⟩:=hrel;by_cases hlt:k<len
  ·obtain⟨b,o,x,rfl,hb,hx,hat⟩:=bN (HR.below HB.out) hlt;obtain⟨va,vl,vc,hvr,z0,z2,z3,z5,c0,c1,c2,c3,c4,c5,c6,c7⟩:=aK hat;have HX:=aa hx;have HC:=aa (fun v:World=>dS x va vl vc v);have HB1:=aa (HB.alloc HB.size (.cells (vov x va vl vc) 99));have HRt:=aa (nj x va vl vc (wr.alloc (.cells (vov x va vl vc) 99)) z0 z2 z3 z5 (hvr.below (al _ _)));clear hat hx z0 z2 z3 z5 hvr;go_wp2_with fail;refine HRt.mono ?_;rintro e w1 ⟨r,rfl,hrt,hb1⟩;obtain⟨g1,-,-⟩:=cE hb1;have hs1:=hb1.size;rw[show (wr.alloc (.cells (vov x va vl vc) 99)).heap.size=wr.heap.size+1 from by simp] at hs1;obtain⟨HB2,d0,d1,d2,d3⟩:=fS;have d4:=ck4 g1;have d5:=ck5 g1;have d6:=ck6 g1;have d7:=ck7 g1;have HG:=aa g1;have HI:=aa hrt;clear g1 hb1 HB1 HRt hrt c0 c1 c2 c3 c4 c5 c6 c7;cases r
   ·exact nQ
   have HOK:=aa (HI.1 rfl);clear HI;go_wp2_with fail;refine (HC.out _).mono ?_;rintro e w2 ⟨rfl,hb2⟩;obtain⟨HB3,g2,hs2,htri⟩:=nN;clear HG hb2 HB2 d0 d1 d2 d3 d4 d5 d6 d7;have d0:=ck0 g2;have d1:=ck1 g2;have d2:=ck2 g2;have d3:=ck3 g2;have d4:=ck4 g2;have d5:=ck5 g2;have d6:=ck6 g2;have d7:=ck7 g2;clear g2;cases hless:FB y.toList x.n.toList
   ·exact od
   ·rw[hless] at htri;go_wp2_with fail;refine (HC.out _).mono ?_;rintro e w3 ⟨rfl,hb3⟩;have HB4:=aa (HB3.trans (hb3.mono (FA HB.size af)));clear hb3 d0 d1 d2 d3 d4 d5 d6 d7;exact vH
  ·exact ob

theorem dR (x:Xd)  (w:World):
  Calls Tryz.prog 254 #[.agg #[.string x.n,.int .i64 x.z,.string x.k,.bool x.x,.string x.v]] w fun e w'=>e=.returned (.string x.n)/\Below w.heap.size w w':=by
 go_enter Tryz.func254,Tryz.ntmps254;go_wp2;go_ret;exact⟨rfl,al _ _⟩

theorem ni (x:Xd)  (w:World) (hn:x.n.size<=9223372036854775807) (hk:x.k.size<=9223372036854775807) (hv:x.v.size<=9223372036854775807):
  Calls Tryz.prog 255 #[.agg #[.string x.n,.int .i64 x.z,.string x.k,.bool x.x,.string x.v]] w (ar (pd x) w):=by
 skip;skip;go_enter Tryz.func255,Tryz.ntmps255;go_wp2_with fail;refine (eP x.n x.z x.k x.x x.v _ hn hk hv).mono ?_;exact nV

theorem iW (a:Option Addr) (len cap:Nat) (xs:List Xd) (t:ByteArray) (w:World) (hr:aN w a len cap 5 (xs.map xdF)):
  Calls Tryz.prog 182 #[.slice a len cap,.string t] w fun e w'=>e=.returned (.tuple #[.int .i64 (pl Xd.n xs t:Nat),.bool (hit Xd.n xs t)])/\Below w.heap.size w w':=by
 obtain⟨HR,hxl,hlc⟩:=fT;clear hr;have hmcalled:∀(v:Value) (w:World),(method 416 105 v "loop.example/g00571/impl.called").run Tryz.prog w=.ok (254,v) w:=fun _ _=>by kernel_rfl
 go_enter Tryz.func182,Tryz.ntmps182;go_wp2;go_loopw [10] (fun i wr=> ∃k:Nat,k<=len/\i=.int .i64 k/\Hid (∀(j:Nat) y,j<k->xs[j]?=some y->FB y.n.toList t.toList=true)/\Hid (Below w.heap.size w wr)) (fun i _=>len - (intOf i).toNat);case atStart=>exact⟨0,by omega,rfl,fun j y hj=>by omega,Fw _ _⟩
 case round=>
  obtain⟨k,hk,rfl,HE,HB⟩:=hrel;by_cases hlt:k<len
  ·obtain⟨b,o,x,rfl,hb,hx,hat⟩:=dF (HR.below HB.out) hlt;obtain⟨z0,z2,z4,c0,c1,c2,c3,c4⟩:=bw hat;have HX:=aa hx;clear hat hx z0 z2 z4;have HC:=aa (fun v:World=>dR x v);have HB1:=aa (HB.alloc HB.size (.cells (xov x) 105));go_wp2_with fail;refine (HC.out _).mono ?_;rintro e w1 ⟨rfl,hb1⟩;obtain⟨g1,-,-⟩:=cE hb1;have hs1:=hb1.size;rw[show (wr.alloc (.cells (xov x) 105)).heap.size=wr.heap.size+1 from by simp] at hs1;obtain⟨HB2,d0,d1,d2,d3⟩:=fS;have d4:=ck4 g1;clear g1 hb1 c0 c1 c2 c3 c4 HB1;cases hless:FB x.n.toList t.toList
   ·go_wp2_with fail;refine (HC.out _).mono ?_;rintro e w2 ⟨rfl,hb2⟩;obtain⟨HB3,hp⟩:=nL;clear hb2;go_wp2_with fail;refine bodyPost_ret (v:=.tuple #[.int .i64 k,.bool (x.n.toList==t.toList)]) (by simp[results,Tryz.results182,go_sem]) rfl ⟨?_,HB3.out⟩;unfold hit;rw[hp,HX.out]
   ·exact oa
  ·obtain rfl:k=len:=af
   have hp:pl Xd.n xs t=xs.length:=gg (fun j y hy=>HE.out j y kY hy);have hh:hit Xd.n xs t=false:=by unfold hit;rw[hp,List.getElem?_eq_none (Ft _)]
   have HP:=aa hp;have HH:=aa hh;clear hp hh;go_wp2;exact bodyPost_ret (v:=.tuple #[.int .i64 k,.bool false]) (by simp[results,Tryz.results182,go_sem]) rfl ⟨by rw[HP.out,HH.out,hxl],HB.out⟩

def sV (xs:List Xd) (t:ByteArray) (_r w:World) (e:Ending) (w':World):Prop:=
 Below w.heap.size w w'/\((hit Xd.n xs t=true/\∃(x:Xd),xs[pl Xd.n xs t]?=some x/\x.n=t/\e=.returned (.tuple #[.agg #[.string x.n,.int .i64 x.z,.string x.k,.bool x.x,.string x.v],.bool true])/\x.n.size<=9223372036854775807/\x.k.size<=9223372036854775807/\x.v.size<=9223372036854775807)\/(hit Xd.n xs t=false/\e=.returned (.tuple #[.agg #[.string ⟨#[]⟩,.int .i64 0,.string ⟨#[]⟩,.bool false,.string ⟨#[]⟩],.bool false])))

theorem rH (a:Option Addr) (len cap:Nat) (xs:List Xd) (t:ByteArray) (r w:World) (hr:aN r a len cap 5 (xs.map xdF)) (hrw:Below r.heap.size r w):
  Calls Tryz.prog 164 #[.slice a len cap,.string t] w (sV xs t r w):=by
 obtain⟨HR,HRW,hxl⟩:=nF;have HR1:=aa ((hr.below hrw).below (al w (.cells #[.string ⟨#[]⟩,.int .i64 0,.string ⟨#[]⟩,.bool false,.string ⟨#[]⟩] 105)));clear hr hrw;go_enter Tryz.func164,Tryz.ntmps164;go_wp2_with fail;refine (iW a len cap xs t _ HR1.out).mono ?_;rintro e w1 ⟨rfl,hb⟩;obtain⟨g1,hb1,-⟩:=cE hb;obtain⟨d0,f0,d1,f1,d2,f2,d3,f3⟩:=gL;have d4:=ck4 g1;have f4:=av g1 4;have HB:=aa hb1;have hs1:=hb.size;rw[show (w.alloc (.cells #[.string ⟨#[]⟩,.int .i64 0,.string ⟨#[]⟩,.bool false,.string ⟨#[]⟩] 105)).heap.size=w.heap.size+1 from by simp] at hs1;have hlt1:w.heap.size<w1.heap.size:=af
 clear hb g1 HR1 hs1;cases hh:hit Xd.n xs t
 ·generalize pl Xd.n xs t=j;have HH:=aa hh;clear hh hb1 HR hxl;go_wp2;refine bodyPost_ret (v:=.tuple #[.agg #[.string ⟨#[]⟩,.int .i64 0,.string ⟨#[]⟩,.bool false,.string ⟨#[]⟩],.bool false]) (by simp[results,Tryz.results164,go_sem, *]) rfl ⟨?_,.inr ⟨HH.out,rfl⟩⟩;exact Below.alloc (ah (Ft _) (ah (Ft _) (ah (Ft _) (ah (Ft _) (ah (Ft _) (HB.out)))))) jJ _
 ·obtain⟨x,hx,hn⟩:=dq hh;have hj:pl Xd.n xs t<len:=by have:=(Fm.1 hx).1;omega
  obtain⟨b,o,y,rfl,hbl,hy,hat⟩:=dF HR.out hj;rw[hx] at hy;obtain rfl:=Fq hy;obtain⟨z0,z2,z4,c0,c1,c2,c3,c4⟩:=bw hat;obtain⟨hbw,e0,e1,e2,e3⟩:=u_;have e4:=(ak hb1 hbw).trans ((ak HRW.out hbl).trans c4);have HI:Hid (sV xs t r w (.returned (.tuple #[.agg #[.string x.n,.int .i64 x.z,.string x.k,.bool x.x,.string x.v],.bool true])) w):=⟨Fw _ _,.inl ⟨hh,x,hx,hn,rfl,z0,z2,z4⟩⟩;clear c0 c1 c2 c3 c4 hat hx hn hy hh z0 z2 z4 HR HRW hb1;obtain⟨j,hjj⟩:∃j,pl Xd.n xs t=j:=⟨_,rfl⟩;rw[hjj] at hj;simp only[hjj] at*;clear hjj;go_wp2;refine bodyPost_ret (v:=.tuple #[.agg #[.string x.n,.int .i64 x.z,.string x.k,.bool x.x,.string x.v],.bool true]) (by simp[results,Tryz.results164,go_sem, *]) rfl ⟨?_,HI.2⟩;exact ah (Ft _) (ah (Ft _) (ah (Ft _) (ah (Ft _) (ah (Ft _) (HB.out)))))

theorem fu (d:Ad) (now:Int) (xs:List Xd) (t:ByteArray) (r w:World) (hr:aN r d.a4 d.l4 d.c4 5 (xs.map xdF)) (hrw:Below r.heap.size r w):
  Calls Tryz.prog 125 #[.agg #[.slice d.a1 d.l1 d.c1,.slice d.a2 d.l2 d.c2,.slice d.a3 d.l3 d.c3,.slice d.a4 d.l4 d.c4,.slice d.a5 d.l5 d.c5,.int .i64 now],.string t] w (sV xs t r w):=by
 have HR:=aa hr;have HRW:=aa (hrw.trans ((aF w (.cells (clv d now) 36) (.cells #[.string ⟨#[]⟩,.int .i64 0,.string ⟨#[]⟩,.bool false,.string ⟨#[]⟩] 105)).mono hrw.size));clear hr hrw;go_enter Tryz.func125,Tryz.ntmps125;go_wp2_with fail;refine (rH _ _ _ xs t r _ HR.out HRW.out).mono ?_;rintro e w1 ⟨hb,hf⟩;have g1:=(hb.block (w.heap.size+1) aS).trans (bE _ _ _);obtain⟨d0,f0,d1,f1,d2,f2,d3,f3⟩:=gL;have d4:=ck4 g1;have f4:=av g1 4;have HB:Hid (Below w.heap.size w w1):=(aF _ _ _).trans (hb.mono bG);clear g1 hb HR HRW;rcases hf with ⟨hh,x,hx,hn,rfl,z0,z2,z4⟩|⟨hh,rfl⟩
 ·have HI:Hid (sV xs t r w (.returned (.tuple #[.agg #[.string x.n,.int .i64 x.z,.string x.k,.bool x.x,.string x.v],.bool true])) w):=⟨Fw _ _,.inl ⟨hh,x,hx,hn,rfl,z0,z2,z4⟩⟩;clear hx hn hh z0 z2 z4;go_wp2;refine bodyPost_ret (v:=.tuple #[.agg #[.string x.n,.int .i64 x.z,.string x.k,.bool x.x,.string x.v],.bool true]) (by simp[results,Tryz.results125,go_sem, *]) rfl ⟨?_,HI.2⟩;exact ym
 ·have HH:=aa hh;clear hh;go_wp2;refine bodyPost_ret (v:=.tuple #[.agg #[.string ⟨#[]⟩,.int .i64 0,.string ⟨#[]⟩,.bool false,.string ⟨#[]⟩],.bool false]) (by simp[results,Tryz.results125,go_sem, *]) rfl ⟨?_,.inr ⟨HH.out,rfl⟩⟩;exact ym

theorem pH (a:Option Addr) (len cap:Nat) (xs:List Xd) (most:Int) (w:World) (hr:aN w a len cap 5 (xs.map xdF)):
  Calls Tryz.prog 151 #[.slice a len cap,.int .i64 most] w (ar (ed pd Xd.n xs most) w):=by
 obtain⟨HR,hxl,hlc⟩:=fT;clear hr;have hmcalled:∀(v:Value) (w:World),(method 416 105 v "loop.example/g00571/impl.called").run Tryz.prog w=.ok (254,v) w:=fun _ _=>by kernel_rfl
 have hmright:∀(v:Value) (w:World),(method 416 105 v "loop.example/g00571/impl.right").run Tryz.prog w=.ok (255,v) w:=fun _ _=>by kernel_rfl
 by_cases hmo:most<(len:Int)
 ·go_enter Tryz.func151,Tryz.ntmps151;exact j5
 go_enter Tryz.func151,Tryz.ntmps151;go_wp2;go_loopw [5,14] (fun q i wr=> ∃(k:Nat) (y:ByteArray),k<=len/\q=.string y/\i=.int .i64 k/\Hid (k=0->y=⟨#[]⟩)/\Hid (∀z,0<k->xs[k - 1]?=some z->z.n=y)/\Hid (∀(j:Nat) z,j<k->xs[j]?=some z->pd z)/\Hid (∀(j:Nat) z u,j+1<k->xs[j+1]?=some z->xs[j]?=some u->FB u.n.toList z.n.toList=true)/\Hid (Below w.heap.size w wr)) (fun _ i _=>len - (intOf i).toNat);case atStart=>exact⟨0,_,by omega,rfl,rfl,fun _=>rfl,fun _ h=>absurd h af,fun _ _ h=>absurd h af,fun _ _ _ h=>absurd h af,Fw _ _⟩
 case round=>
  obtain⟨k,y,hk,rfl,rfl,H0,H1,HE,HO,HB⟩:=hrel;by_cases hlt:k<len
  ·obtain⟨b,o,x,rfl,hb,hx,hat⟩:=dF (HR.below HB.out) hlt;obtain⟨z0,z2,z4,c0,c1,c2,c3,c4⟩:=bw hat;have HX:=aa hx;have HC:=aa (fun v:World=>dR x v);have HB1:=aa (HB.alloc HB.size (.cells (xov x) 105));have HRt:=aa (ni x (wr.alloc (.cells (xov x) 105)) z0 z2 z4);clear hat hx z0 z2 z4;go_wp2_with fail;refine HRt.mono ?_;rintro e w1 ⟨r,rfl,hrt,hb1⟩;obtain⟨g1,-,-⟩:=cE hb1;have hs1:=hb1.size;rw[show (wr.alloc (.cells (xov x) 105)).heap.size=wr.heap.size+1 from by simp] at hs1;obtain⟨HB2,d0,d1,d2,d3⟩:=fS;have d4:=ck4 g1;have HG:=aa g1;have HI:=aa hrt;clear g1 hb1 HB1 HRt hrt c0 c1 c2 c3 c4;cases r
   ·exact nQ
   have HOK:=aa (HI.1 rfl);clear HI;go_wp2_with fail;refine (HC.out _).mono ?_;rintro e w2 ⟨rfl,hb2⟩;obtain⟨HB3,g2,hs2,htri⟩:=nN;clear HG hb2 HB2 d0 d1 d2 d3 d4;have d0:=ck0 g2;have d1:=ck1 g2;have d2:=ck2 g2;have d3:=ck3 g2;have d4:=ck4 g2;clear g2;cases hless:FB y.toList x.n.toList
   ·exact od
   ·rw[hless] at htri;go_wp2_with fail;refine (HC.out _).mono ?_;rintro e w3 ⟨rfl,hb3⟩;have HB4:=aa (HB3.trans (hb3.mono (FA HB.size af)));clear hb3 d0 d1 d2 d3 d4;exact vH
  ·exact ob

theorem dU (x:Pd) (va:Option Addr) (vl vc:Nat) (w:World):
  Calls Tryz.prog 246 #[.agg #[.string x.n,.int .i64 x.c,.string x.z,.slice va vl vc,.string x.d,.int .i64 x.p]] w fun e w'=>e=.returned (.string x.n)/\Below w.heap.size w w':=by
 go_enter Tryz.func246,Tryz.ntmps246;go_wp2;go_ret;exact⟨rfl,al _ _⟩

theorem nk (x:Pd) (va:Option Addr) (vl vc:Nat) (w:World) (hn:x.n.size<=9223372036854775807) (hz:x.z.size<=9223372036854775807) (hd:x.d.size<=9223372036854775807) (hr:ay w va vl vc x.zs):
  Calls Tryz.prog 247 #[.agg #[.string x.n,.int .i64 x.c,.string x.z,.slice va vl vc,.string x.d,.int .i64 x.p]] w (ar (qO x) w):=by
 have HR:=aa (hr.below (al w (.cells (pov x va vl vc) 64)));clear hr;go_enter Tryz.func247,Tryz.ntmps247;go_wp2_with fail;refine (zy x.n x.c x.z va vl vc x.zs x.d x.p _ hn hz hd HR.out).mono ?_;exact nV

theorem iX (a:Option Addr) (len cap:Nat) (xs:List Pd) (t:ByteArray) (w:World) (hr:aN w a len cap 6 (xs.map pdF)):
  Calls Tryz.prog 121 #[.slice a len cap,.string t] w fun e w'=>e=.returned (.tuple #[.int .i64 (pl Pd.n xs t:Nat),.bool (hit Pd.n xs t)])/\Below w.heap.size w w':=by
 obtain⟨HR,hxl,hlc⟩:=fT;clear hr;have hmcalled:∀(v:Value) (w:World),(method 416 64 v "loop.example/g00571/impl.called").run Tryz.prog w=.ok (246,v) w:=fun _ _=>by kernel_rfl
 go_enter Tryz.func121,Tryz.ntmps121;go_wp2;go_loopw [10] (fun i wr=> ∃k:Nat,k<=len/\i=.int .i64 k/\Hid (∀(j:Nat) y,j<k->xs[j]?=some y->FB y.n.toList t.toList=true)/\Hid (Below w.heap.size w wr)) (fun i _=>len - (intOf i).toNat);case atStart=>exact⟨0,by omega,rfl,fun j y hj=>by omega,Fw _ _⟩
 case round=>
  obtain⟨k,hk,rfl,HE,HB⟩:=hrel;by_cases hlt:k<len
  ·obtain⟨b,o,x,rfl,hb,hx,hat⟩:=bY (HR.below HB.out) hlt;obtain⟨va,vl,vc,hvr,z0,z2,z4,c0,c1,c2,c3,c4,c5⟩:=aT hat;have HX:=aa hx;clear hat hx z0 z2 z4 hvr;have HC:=aa (fun v:World=>dU x va vl vc v);have HB1:=aa (HB.alloc HB.size (.cells (pov x va vl vc) 64));go_wp2_with fail;refine (HC.out _).mono ?_;rintro e w1 ⟨rfl,hb1⟩;obtain⟨g1,-,-⟩:=cE hb1;have hs1:=hb1.size;rw[show (wr.alloc (.cells (pov x va vl vc) 64)).heap.size=wr.heap.size+1 from by simp] at hs1;obtain⟨HB2,d0,d1,d2,d3⟩:=fS;have d4:=ck4 g1;have d5:=ck5 g1;clear g1 hb1 c0 c1 c2 c3 c4 c5 HB1;cases hless:FB x.n.toList t.toList
   ·go_wp2_with fail;refine (HC.out _).mono ?_;rintro e w2 ⟨rfl,hb2⟩;obtain⟨HB3,hp⟩:=nL;clear hb2;go_wp2_with fail;refine bodyPost_ret (v:=.tuple #[.int .i64 k,.bool (x.n.toList==t.toList)]) (by simp[results,Tryz.results121,go_sem]) rfl ⟨?_,HB3.out⟩;unfold hit;rw[hp,HX.out]
   ·exact oa
  ·obtain rfl:k=len:=af
   have hp:pl Pd.n xs t=xs.length:=gg (fun j y hy=>HE.out j y kY hy);have hh:hit Pd.n xs t=false:=by unfold hit;rw[hp,List.getElem?_eq_none (Ft _)]
   have HP:=aa hp;have HH:=aa hh;clear hp hh;go_wp2;exact bodyPost_ret (v:=.tuple #[.int .i64 k,.bool false]) (by simp[results,Tryz.results121,go_sem]) rfl ⟨by rw[HP.out,HH.out,hxl],HB.out⟩

def C_ (xs:List Pd) (t:ByteArray) (r w:World) (e:Ending) (w':World):Prop:=
 Below w.heap.size w w'/\((hit Pd.n xs t=true/\∃(x:Pd) (va:Option Addr) (vl vc:Nat),xs[pl Pd.n xs t]?=some x/\x.n=t/\e=.returned (.tuple #[.agg #[.string x.n,.int .i64 x.c,.string x.z,.slice va vl vc,.string x.d,.int .i64 x.p],.bool true])/\x.n.size<=9223372036854775807/\x.z.size<=9223372036854775807/\x.d.size<=9223372036854775807/\ay r va vl vc x.zs)\/(hit Pd.n xs t=false/\e=.returned (.tuple #[.agg #[.string ⟨#[]⟩,.int .i64 0,.string ⟨#[]⟩,.slice none 0 0,.string ⟨#[]⟩,.int .i64 0],.bool false])))

theorem rJ (a:Option Addr) (len cap:Nat) (xs:List Pd) (t:ByteArray) (r w:World) (hr:aN r a len cap 6 (xs.map pdF)) (hrw:Below r.heap.size r w):
  Calls Tryz.prog 89 #[.slice a len cap,.string t] w (C_ xs t r w):=by
 obtain⟨HR,HRW,hxl⟩:=nF;have HR1:=aa ((hr.below hrw).below (al w (.cells #[.string ⟨#[]⟩,.int .i64 0,.string ⟨#[]⟩,.slice none 0 0,.string ⟨#[]⟩,.int .i64 0] 64)));clear hr hrw;go_enter Tryz.func89,Tryz.ntmps89;go_wp2_with fail;refine (iX a len cap xs t _ HR1.out).mono ?_;rintro e w1 ⟨rfl,hb⟩;obtain⟨g1,hb1,-⟩:=cE hb;obtain⟨d0,f0,d1,f1,d2,f2,d3,f3⟩:=gL;have d4:=ck4 g1;have f4:=av g1 4;have d5:=ck5 g1;have f5:=av g1 5;have HB:=aa hb1;have hs1:=hb.size;rw[show (w.alloc (.cells #[.string ⟨#[]⟩,.int .i64 0,.string ⟨#[]⟩,.slice none 0 0,.string ⟨#[]⟩,.int .i64 0] 64)).heap.size=w.heap.size+1 from by simp] at hs1;have hlt1:w.heap.size<w1.heap.size:=af
 clear hb g1 HR1 hs1;cases hh:hit Pd.n xs t
 ·generalize pl Pd.n xs t=j;have HH:=aa hh;clear hh hb1 HR hxl;go_wp2;refine bodyPost_ret (v:=.tuple #[.agg #[.string ⟨#[]⟩,.int .i64 0,.string ⟨#[]⟩,.slice none 0 0,.string ⟨#[]⟩,.int .i64 0],.bool false]) (by simp[results,Tryz.results89,go_sem, *]) rfl ⟨?_,.inr ⟨HH.out,rfl⟩⟩;exact Below.alloc (ah (Ft _) (ah (Ft _) (ah (Ft _) (ah (Ft _) (ah (Ft _) (ah (Ft _) (HB.out))))))) jJ _
 ·obtain⟨x,hx,hn⟩:=dq hh;have hj:pl Pd.n xs t<len:=by have:=(Fm.1 hx).1;omega
  obtain⟨b,o,y,rfl,hbl,hy,hat⟩:=bY HR.out hj;rw[hx] at hy;obtain rfl:=Fq hy;obtain⟨va,vl,vc,hvr,z0,z2,z4,c0,c1,c2,c3,c4,c5⟩:=aT hat;obtain⟨hbw,e0,e1,e2,e3⟩:=u_;obtain⟨e4,e5⟩:=vj;have HI:Hid (C_ xs t r w (.returned (.tuple #[.agg #[.string x.n,.int .i64 x.c,.string x.z,.slice va vl vc,.string x.d,.int .i64 x.p],.bool true])) w):=⟨Fw _ _,.inl ⟨hh,x,va,vl,vc,hx,hn,rfl,z0,z2,z4,hvr⟩⟩;clear c0 c1 c2 c3 c4 c5 hat hx hn hy hh z0 z2 z4 hvr HR HRW hb1;obtain⟨j,hjj⟩:∃j,pl Pd.n xs t=j:=⟨_,rfl⟩;rw[hjj] at hj;simp only[hjj] at*;clear hjj;go_wp2;refine bodyPost_ret (v:=.tuple #[.agg #[.string x.n,.int .i64 x.c,.string x.z,.slice va vl vc,.string x.d,.int .i64 x.p],.bool true]) (by simp[results,Tryz.results89,go_sem, *]) rfl ⟨?_,HI.2⟩;exact ah (Ft _) (ah (Ft _) (ah (Ft _) (ah (Ft _) (ah (Ft _) (ah (Ft _) (HB.out))))))

theorem pJ (a:Option Addr) (len cap:Nat) (xs:List Pd) (most:Int) (w:World) (hr:aN w a len cap 6 (xs.map pdF)):
  Calls Tryz.prog 152 #[.slice a len cap,.int .i64 most] w (ar (ed qO Pd.n xs most) w):=by
 obtain⟨HR,hxl,hlc⟩:=fT;clear hr;have hmcalled:∀(v:Value) (w:World),(method 416 64 v "loop.example/g00571/impl.called").run Tryz.prog w=.ok (246,v) w:=fun _ _=>by kernel_rfl
 have hmright:∀(v:Value) (w:World),(method 416 64 v "loop.example/g00571/impl.right").run Tryz.prog w=.ok (247,v) w:=fun _ _=>by kernel_rfl
 by_cases hmo:most<(len:Int)
 ·go_enter Tryz.func152,Tryz.ntmps152;exact j5
 go_enter Tryz.func152,Tryz.ntmps152;go_wp2;go_loopw [5,14] (fun q i wr=> ∃(k:Nat) (y:ByteArray),k<=len/\q=.string y/\i=.int .i64 k/\Hid (k=0->y=⟨#[]⟩)/\Hid (∀z,0<k->xs[k - 1]?=some z->z.n=y)/\Hid (∀(j:Nat) z,j<k->xs[j]?=some z->qO z)/\Hid (∀(j:Nat) z u,j+1<k->xs[j+1]?=some z->xs[j]?=some u->FB u.n.toList z.n.toList=true)/\Hid (Below w.heap.size w wr)) (fun _ i _=>len - (intOf i).toNat);case atStart=>exact⟨0,_,by omega,rfl,rfl,fun _=>rfl,fun _ h=>absurd h af,fun _ _ h=>absurd h af,fun _ _ _ h=>absurd h af,Fw _ _⟩
 case round=>
  obtain⟨k,y,hk,rfl,rfl,H0,H1,HE,HO,HB⟩:=hrel;by_cases hlt:k<len
  ·obtain⟨b,o,x,rfl,hb,hx,hat⟩:=bY (HR.below HB.out) hlt;obtain⟨va,vl,vc,hvr,z0,z2,z4,c0,c1,c2,c3,c4,c5⟩:=aT hat;have HX:=aa hx;have HC:=aa (fun v:World=>dU x va vl vc v);have HB1:=aa (HB.alloc HB.size (.cells (pov x va vl vc) 64));have HRt:=aa (nk x va vl vc (wr.alloc (.cells (pov x va vl vc) 64)) z0 z2 z4 (hvr.below (al _ _)));clear hat hx z0 z2 z4 hvr;go_wp2_with fail;refine HRt.mono ?_;rintro e w1 ⟨r,rfl,hrt,hb1⟩;obtain⟨g1,-,-⟩:=cE hb1;have hs1:=hb1.size;rw[show (wr.alloc (.cells (pov x va vl vc) 64)).heap.size=wr.heap.size+1 from by simp] at hs1;obtain⟨HB2,d0,d1,d2,d3⟩:=fS;have d4:=ck4 g1;have d5:=ck5 g1;have HG:=aa g1;have HI:=aa hrt;clear g1 hb1 HB1 HRt hrt c0 c1 c2 c3 c4 c5;cases r
   ·exact nQ
   have HOK:=aa (HI.1 rfl);clear HI;go_wp2_with fail;refine (HC.out _).mono ?_;rintro e w2 ⟨rfl,hb2⟩;obtain⟨HB3,g2,hs2,htri⟩:=nN;clear HG hb2 HB2 d0 d1 d2 d3 d4 d5;have d0:=ck0 g2;have d1:=ck1 g2;have d2:=ck2 g2;have d3:=ck3 g2;have d4:=ck4 g2;have d5:=ck5 g2;clear g2;cases hless:FB y.toList x.n.toList
   ·exact od
   ·rw[hless] at htri;go_wp2_with fail;refine (HC.out _).mono ?_;rintro e w3 ⟨rfl,hb3⟩;have HB4:=aa (HB3.trans (hb3.mono (FA HB.size af)));clear hb3 d0 d1 d2 d3 d4 d5;exact vH
  ·exact ob

def ens (w:World):Prop:=∃T v,w.cell? ⟨4,0,none⟩=some (.iface T v)
theorem ens.lt {w:World} (h:ens w):4<w.heap.size:=by
 obtain⟨T,v,h⟩:=h;rcases Nat.lt_or_ge (4) w.heap.size with h1|h1
 ·exact h1
 ·simp[World.cell?,Array.getElem?_eq_none h1] at h
theorem ens.below {w w':World} (h:ens w) (hb:Below w.heap.size w w'):ens w':=by
 have hl:=h.lt;obtain⟨T,v,h⟩:=h;exact⟨T,v,(ak hb hl).trans h⟩
def Eu (p:Prop) (w:World) (e:Ending) (w':World):Prop:=Below w.heap.size w w'/\((p/\e=.returned .nilIface)\/(¬p/\∃T v,e=.returned (.iface T v)))

theorem fW (d:Ad) (now:Int) (xs:List Kd) (t:ByteArray) (w:World) (hr:aN w d.a2 d.l2 d.c2 4 (xs.map kdF)) (hG:ens w):
  Calls Tryz.prog 153 #[.agg #[.slice d.a1 d.l1 d.c1,.slice d.a2 d.l2 d.c2,.slice d.a3 d.l3 d.c3,.slice d.a4 d.l4 d.c4,.slice d.a5 d.l5 d.c5,.int .i64 now],.string t] w (Eu (hit Kd.n xs t=true) w):=by
 obtain⟨HR,HE,HB⟩:=k_;clear hr hG;go_enter Tryz.func153,Tryz.ntmps153;go_wp2_with fail;refine (ij d now xs t w _ HR.out (al _ _)).mono ?_;rintro e w1 ⟨hb,hf⟩;obtain⟨HA0,hbx⟩:=aL hb;replace HB:=upB HB hbx;clear hb hbx HA0;obtain⟨T,v,hv⟩:=HE.below HB.out;have hl:=(HE.below HB.out).lt;clear HE HR;rcases hf with ⟨hh,x,hx,hn,rfl,z0,z3⟩|⟨hh,rfl⟩
 ·have HH:=aa hh;clear hh hx hn z0 z3;go_wp2;go_ret;exact⟨(HB.alloc HB.size _),.inl ⟨HH.out,rfl⟩⟩
 ·have HH:=aa hh;clear hh;go_wp2;go_ret;exact⟨(HB.alloc HB.size _),.inr ⟨by rw[HH.out];decide,T,v,rfl⟩⟩

theorem lz (d:Ad) (c:Cl) (t s:ByteArray) (w:World) (hr:aJ w d c.raw) (hx:aP Xd.n c.xs) (hv:aP Vd.n c.vs):
  Calls Tryz.prog 154 #[.agg #[.slice d.a1 d.l1 d.c1,.slice d.a2 d.l2 d.c2,.slice d.a3 d.l3 d.c3,.slice d.a4 d.l4 d.c4,.slice d.a5 d.l5 d.c5,.int .i64 c.now],.string t,.string s] w (ar (kN c t s) w):=by
 obtain⟨HR,HB⟩:=gK;have HX:=aa hx;have HV:=aa hv;clear hr hx hv;go_enter Tryz.func154,Tryz.ntmps154;go_wp2_with fail;refine (fu d c.now c.xs t w _ HR.x (al _ _)).mono ?_;rintro e w1 ⟨hb,hf⟩;obtain⟨HA0,hbx⟩:=aL hb;have Bk:=aa HA0;replace HB:=upB HB hbx;clear hb hbx HA0;rcases hf with ⟨hh,x,hx,hn,rfl,z0,z2,z4⟩|⟨hh,rfl⟩
 ·have HX1:=aa hx;have HN1:=aa hn;clear hx hn hh z0 z2 z4;obtain⟨k0,k1,k2,k3,k4,k5⟩:=cs6 Bk;have ltk_1:=ae Bk.out;go_wp2_with fail;refine (dW d c.now c.vs s w _ HR.v (HB.trans ((al _ _).mono HB.size))).mono ?_;rintro e w2 ⟨hb,hf⟩;clear k0 k1 k2 k3 k4 k5 ltk_1;obtain⟨HA0,hbx⟩:=aL hb;replace Bk:=upK Bk hbx;have Bx:=aa HA0;replace HB:=upB HB hbx;clear hb hbx HA0;rcases hf with ⟨hh,v,va,vl,vc,hx,hn,rfl,z0,z2,z3,z5,hvr⟩|⟨hh,rfl⟩
  ·have HX2:=aa hx;have HN2:=aa hn;clear hx hn hh z0 z2 z3 z5 hvr;obtain⟨x0,x1,x2,x3,x4⟩:=cs5 Bx;have ltx_2:=ae Bx.out;cases q1:(x.v.toList==s.toList)
   ·go_wp2;go_ret;refine ar.f (fun ⟨i,j,x',v',e1,e2,e3,e4,e5,_⟩=>?_) (HB.alloc HB.size _);obtain⟨_,rfl⟩:=HX.inj e1 HX1.out (e2.trans HN1.symm);rw[a9 e5] at q1;cases q1
   cases q2:(v.m.toList==t.toList)
   ·go_wp2;go_ret;refine ar.f (fun ⟨i,j,x',v',e1,e2,e3,e4,e5,e6,_⟩=>?_) (HB.alloc HB.size _);obtain⟨_,rfl⟩:=HV.inj e3 HX2.out (e4.trans HN2.symm);rw[a9 e6] at q2;cases q2
   by_cases q3:x.z<=v.c;rotate_left
   ·go_wp2;go_ret;refine ar.f (fun ⟨i,j,x',v',e1,e2,e3,e4,e5,e6,e7,_⟩=>?_) (HB.alloc HB.size _);obtain⟨_,rfl⟩:=HX.inj e1 HX1.out (e2.trans HN1.symm);obtain⟨_,rfl⟩:=HV.inj e3 HX2.out (e4.trans HN2.symm);omega
   cases q4:(v.k.toList==x.k.toList)
   ·go_wp2;go_ret;refine ar.f (fun ⟨i,j,x',v',e1,e2,e3,e4,e5,e6,e7,e8,_⟩=>?_) (HB.alloc HB.size _);obtain⟨_,rfl⟩:=HX.inj e1 HX1.out (e2.trans HN1.symm);obtain⟨_,rfl⟩:=HV.inj e3 HX2.out (e4.trans HN2.symm);rw[a9 e8] at q4;cases q4
   cases q5:(v.x==x.x)
   ·go_wp2;go_ret;refine ar.f (fun ⟨i,j,x',v',e1,e2,e3,e4,e5,e6,e7,e8,e9⟩=>?_) (HB.alloc HB.size _);obtain⟨_,rfl⟩:=HX.inj e1 HX1.out (e2.trans HN1.symm);obtain⟨_,rfl⟩:=HV.inj e3 HX2.out (e4.trans HN2.symm);rw[e9] at q5;simp at q5
   ·go_wp2;go_ret;exact ar.t ⟨_,_,x,v,HX1.out,HN1.out,HX2.out,HN2.out,f_ q1,f_ q2,q3,f_ q4,by simpa using q5⟩ (HB.alloc HB.size _)
  ·have HH2:=aa hh;clear hh;obtain⟨x0,x1,x2,x3,x4⟩:=cs5 Bx;have ltx_2:=ae Bx.out;go_wp2;go_ret;refine ar.f (fun ⟨i,j,x',v',e1,e2,e3,e4,_⟩=>?_) (HB.alloc HB.size _);have:=(cN HV.out e3 e4).2;rw[HH2.out] at this;cases this
 ·have HH1:=aa hh;clear hh;obtain⟨k0,k1,k2,k3,k4,k5⟩:=cs6 Bk;have ltk_1:=ae Bk.out;go_wp2_with fail;refine (dW d c.now c.vs s w _ HR.v (HB.trans ((al _ _).mono HB.size))).mono ?_;rintro e w2 ⟨hb,hf⟩;clear k0 k1 k2 k3 k4 k5 ltk_1;obtain⟨HA0,hbx⟩:=aL hb;replace Bk:=upK Bk hbx;have Bx:=aa HA0;replace HB:=upB HB hbx;clear hb hbx HA0;rcases hf with ⟨hh,v,va,vl,vc,hx,hn,rfl,z0,z2,z3,z5,hvr⟩|⟨hh,rfl⟩
  ·have HX2:=aa hx;have HN2:=aa hn;clear hx hn hh z0 z2 z3 z5 hvr;exact yH
  ·have HH2:=aa hh;clear hh;exact yH

theorem rB (d:Ad) (c:Cl) (w:World) (hr:aJ w d c.raw) (hxr:aP Xd.n c.xs) (hvr:aP Vd.n c.vs) (hG:ens w):
  Calls Tryz.prog 117 #[.agg #[.slice d.a1 d.l1 d.c1,.slice d.a2 d.l2 d.c2,.slice d.a3 d.l3 d.c3,.slice d.a4 d.l4 d.c4,.slice d.a5 d.l5 d.c5,.int .i64 c.now]] w (ar (rU c) w):=by
 obtain⟨a1,l1,y1,a2,l2,y2,a3,l3,y3,a4,l4,y4,a5,l5,y5⟩:=d;dsimp only;obtain⟨HR,hl3⟩:=uW;have hm3:l3<=9223372036854775807:=FA hr.v.2.1 hr.v.2.2.1;have hl4:c.xs.length=l4:=uT
 have hm4:l4<=9223372036854775807:=FA hr.x.2.1 hr.x.2.2.1;clear hr;have HE:=aa hG;have HXR:=aa hxr;have HVR:=aa hvr;clear hG hxr hvr;go_enter Tryz.func117,Tryz.ntmps117;go_wp2;go_loopw [10] (fun i wr=> ∃k:Nat,k<=l3/\i=.int .i64 k/\Hid (∀(j:Nat) z,j<k->c.vs[j]?=some z->QV c z)/\Hid (Below w.heap.size w wr)/\Hid (wr.heap[w.heap.size]?=some (.cells (clo6 a1 l1 y1 a2 l2 y2 a3 l3 y3 a4 l4 y4 a5 l5 y5 c.now) 36 (0,0)))) (fun i _=>l3 - (intOf i).toNat);case atStart=>exact⟨0,by omega,rfl,fun _ _ h=>absurd h af,al _ _,FD⟩
 case round=>
  obtain⟨k,hk,rfl,HQ,HB,Bk⟩:=hrel;by_cases hlt:k<l3
  ·obtain⟨b,o,v,rfl,hb,hx,hat⟩:=bN (HR.v.below HB.out) hlt;obtain⟨va,vl,vc,hvr,z0,z2,z3,z5,c0,c1,c2,c3,c4,c5,c6,c7⟩:=aK hat;have HXv:=aa hx;clear hat hx z0 z2 z3 z5 hvr;obtain⟨k0,k1,k2,k3,k4,k5⟩:=cs6 Bk;have ltk_0:=ae Bk.out;go_wp2_with fail;refine (fW ⟨a1,l1,y1,a2,l2,y2,(some ⟨b,o,none⟩),l3,y3,a4,l4,y4,a5,l5,y5⟩ c.now c.ks v.k _ (HR.k.below (HB.trans ((al _ _).mono HB.size))) (HE.below (HB.trans ((al _ _).mono HB.size)))).mono ?_;rintro e w1 ⟨hb2,hf⟩;clear k0 k1 k2 k3 k4 k5 ltk_0;obtain⟨HA0,hbx⟩:=aL hb2;replace Bk:=upK Bk hbx;have Br:=aa HA0;replace HB:=upB HB hbx;clear hb2 hbx HA0;clear hb c0 c1 c2 c3 c4 c5 c6 c7;rcases hf with ⟨hh,rfl⟩|⟨hh,T,q,rfl⟩;rotate_left
   ·have HH:=aa hh;clear hh;obtain⟨k0,k1,k2,k3,k4,k5⟩:=cs6 Bk;obtain⟨r0,r1,r2,r3,r4,r5,r6,r7⟩:=cs8 Br;go_wp2;go_ret;exact ar.f (fun h=>HH.out (h.1 k v HXv.out).1) HB.out
   have HH:=aa hh;clear hh;by_cases he:v.m=⟨#[]⟩
   ·have hq:=cV he;have HEm:=aa he;clear he;obtain⟨k0,k1,k2,k3,k4,k5⟩:=cs6 Bk;obtain⟨r0,r1,r2,r3,r4,r5,r6,r7⟩:=cs8 Br;go_wp2_with fail;refine⟨⟨k+1,by omega,by go_num,fun j z hj hz=>?_,HB.out,Bk.out⟩,by simp[intOf];omega⟩;by_cases e:j=k
    ·subst e;rw[HXv.out] at hz;exact qk
    ·exact HQ.out j z af hz
   ·have hq:=bc he;have HEm:=aa he;clear he;obtain⟨k0,k1,k2,k3,k4,k5⟩:=cs6 Bk;obtain⟨r0,r1,r2,r3,r4,r5,r6,r7⟩:=cs8 Br;go_wp2_with fail;refine (lz ⟨a1,l1,y1,a2,l2,y2,(some ⟨b,o,none⟩),l3,y3,a4,l4,y4,a5,l5,y5⟩ c v.m v.n _ (HR.below HB.out) HXR.out HVR.out).mono ?_;rintro e w2 ⟨r,rfl,hi,hb3⟩;clear k0 k1 k2 k3 k4 k5 r0 r1 r2 r3 r4 r5 r6 r7;replace Bk:=upK Bk hb3;replace Br:=upK Br hb3;replace HB:=upB HB hb3;clear hb3;have HI:=aa hi;clear hi;cases r
    ·go_wp2;go_ret;refine ar.f (fun h=>?_) HB.out;rcases (h.1 k v HXv.out).2 with h2|h2
     ·exact HEm.out h2
     ·have:=HI.2 h2;cases this
    ·go_wp2_with fail;refine⟨⟨k+1,by omega,by go_num,fun j z hj hz=>?_,HB.out,Bk.out⟩,by simp[intOf];omega⟩;by_cases e:j=k
     ·subst e;rw[HXv.out] at hz;exact qv
     ·exact HQ.out j z af hz
  ·obtain rfl:l3=k:=af
   have HQ1:Hid (∀(j:Nat) z,c.vs[j]?=some z->QV c z):=fun j z hz=>HQ.out j z c_ hz;clear HQ;have k3:=ck3 Bk;go_wp2;go_loopw [37] (fun i wr=> ∃k:Nat,k<=l4/\i=.int .i64 k/\Hid (∀(j:Nat) z,j<k->c.xs[j]?=some z->QX c z)/\Hid (Below w.heap.size w wr)/\Hid (wr.heap[w.heap.size]?=some (.cells (clo6 a1 l1 y1 a2 l2 y2 a3 l3 y3 a4 l4 y4 a5 l5 y5 c.now) 36 (0,0)))) (fun i _=>l4 - (intOf i).toNat);case atStart=>exact⟨0,by omega,rfl,fun _ _ h=>absurd h af,HB.out,Bk.out⟩
   case round=>
    obtain⟨k,hk,rfl,HQ,HB,Bk⟩:=hrel;by_cases hlt:k<l4
    ·obtain⟨b,o,x,rfl,hb,hx,hat⟩:=dF (HR.x.below HB.out) hlt;obtain⟨z0,z2,z4,c0,c1,c2,c3,c4⟩:=bw hat;have HXx:=aa hx;clear hat hx z0 z2 z4;obtain⟨k0,k1,k2,k3,k4,k5⟩:=cs6 Bk;have ltk_0:=ae Bk.out;go_wp2_with fail;refine (fW ⟨a1,l1,y1,a2,l2,y2,a3,l3,y3,(some ⟨b,o,none⟩),l4,y4,a5,l5,y5⟩ c.now c.ks x.k _ (HR.k.below (HB.trans ((al _ _).mono HB.size))) (HE.below (HB.trans ((al _ _).mono HB.size)))).mono ?_;rintro e w1 ⟨hb2,hf⟩;clear k0 k1 k2 k3 k4 k5 ltk_0;obtain⟨HA0,hbx⟩:=aL hb2;replace Bk:=upK Bk hbx;have Br:=aa HA0;replace HB:=upB HB hbx;clear hb2 hbx HA0;clear hb c0 c1 c2 c3 c4;rcases hf with ⟨hh,rfl⟩|⟨hh,T,q,rfl⟩;rotate_left
     ·have HH:=aa hh;clear hh;obtain⟨k0,k1,k2,k3,k4,k5⟩:=cs6 Bk;obtain⟨r0,r1,r2,r3,r4⟩:=cs5 Br;go_wp2;go_ret;exact ar.f (fun h=>HH.out (h.2 k x HXx.out).1) HB.out
     have HH:=aa hh;clear hh;by_cases he:x.v=⟨#[]⟩
     ·have hq:=cV he;have HEm:=aa he;clear he;obtain⟨k0,k1,k2,k3,k4,k5⟩:=cs6 Bk;obtain⟨r0,r1,r2,r3,r4⟩:=cs5 Br;go_wp2_with fail;refine⟨⟨k+1,by omega,by go_num,fun j z hj hz=>?_,HB.out,Bk.out⟩,by simp[intOf];omega⟩;by_cases e:j=k
      ·subst e;rw[HXx.out] at hz;exact qk
      ·exact HQ.out j z af hz
     ·have hq:=bc he;have HEm:=aa he;clear he;obtain⟨k0,k1,k2,k3,k4,k5⟩:=cs6 Bk;obtain⟨r0,r1,r2,r3,r4⟩:=cs5 Br;go_wp2_with fail;refine (lz ⟨a1,l1,y1,a2,l2,y2,a3,l3,y3,(some ⟨b,o,none⟩),l4,y4,a5,l5,y5⟩ c x.n x.v _ (HR.below HB.out) HXR.out HVR.out).mono ?_;rintro e w2 ⟨r,rfl,hi,hb3⟩;clear k0 k1 k2 k3 k4 k5 r0 r1 r2 r3 r4;replace Bk:=upK Bk hb3;replace Br:=upK Br hb3;replace HB:=upB HB hb3;clear hb3;have HI:=aa hi;clear hi;cases r
      ·go_wp2;go_ret;refine ar.f (fun h=>?_) HB.out;rcases (h.2 k x HXx.out).2 with h2|h2
       ·exact HEm.out h2
       ·have:=HI.2 h2;cases this
      ·go_wp2_with fail;refine⟨⟨k+1,by omega,by go_num,fun j z hj hz=>?_,HB.out,Bk.out⟩,by simp[intOf];omega⟩;by_cases e:j=k
       ·subst e;rw[HXx.out] at hz;exact qv
       ·exact HQ.out j z af hz
    ·obtain rfl:l4=k:=af
     have HQ2:Hid (∀(j:Nat) z,c.xs[j]?=some z->QX c z):=fun j z hz=>HQ.out j z c_ hz;exact me

theorem rz (a:Option Addr) (len cap:Nat) (zs:List ByteArray) (t:ByteArray) (w:World) (hr:ay w a len cap zs):
  Calls Tryz.prog 194 #[.slice a len cap,.string t] w fun e w'=>(∃r:Int,e=.returned (.int .i64 r)/\((0<=r/\InL zs t)\/(r= -1/\¬InL zs t)))/\w'=w:=by
 have HR:=aa hr;have hlc:=FA hr.2.1 hr.2.2.1;have hzl:=hr.1;clear hr;go_enter Tryz.func194,Tryz.ntmps194;go_wp2;go_loop [8] (fun i=> ∃k:Nat,k<=len/\i=.int .i64 k/\Hid (∀(j:Nat) x,j<k->zs[j]?=some x->¬x=t)) (fun i=>len - (intOf i).toNat);case atStart=>exact⟨0,by omega,rfl,fun _ _ h=>absurd h af⟩
 case round=>
  obtain⟨k,hk,rfl,HE⟩:=hrel;by_cases hlt:k<len
  ·obtain⟨b,o,x,rfl,hb,hx,hc,hsz⟩:=HR.at hlt;have HX:=aa hx;clear hx;by_cases hn:t=x
   ·have hq:=a9 hn;have HN:=aa hn;clear hn;go_wp2;go_ret;exact⟨⟨k,rfl,.inl ⟨by omega,k,by rw[HX.out,HN.out]⟩⟩,rfl⟩
   ·have hq:=bC hn;have HN:=aa hn;clear hn;go_wp2;refine⟨⟨k+1,by omega,by go_num,fun j z hj hz=>?_⟩,by simp[intOf];omega⟩;by_cases e:j=k
    ·subst e;rw[HX.out] at hz;obtain rfl:=Fq hz;exact fun q=>HN.out q.symm
    ·exact HE.out j z af hz
  ·obtain rfl:len=k:=af
   go_wp2;go_ret;exact⟨⟨-1,rfl,.inr ⟨rfl,fun ⟨j,hj⟩=>HE.out j t nA hj rfl⟩⟩,rfl⟩

theorem cj (a:Option Addr) (len cap:Nat) (zs:List ByteArray) (t:ByteArray) (w:World) (hr:ay w a len cap zs):
  Calls Tryz.prog 179 #[.slice a len cap,.string t] w (ar (InL zs t) w):=by
 have HR:=aa hr;clear hr;go_enter Tryz.func179,Tryz.ntmps179;go_wp2_with fail;refine (rz a len cap zs t _ HR.out).mono ?_;rintro e w1 ⟨⟨r,rfl,hr⟩,rfl⟩;rcases hr with ⟨h0,hi⟩|⟨rfl,hi⟩
 ·go_wp2;go_ret;exact ar.t hi (Fw _ _)
 ·go_wp2;go_ret;exact ar.f hi (Fw _ _)

theorem km (d:Ad) (now:Int) (xs:List Xd) (a:Option Addr) (len cap:Nat) (zs:List ByteArray) (w:World) (hr:aN w d.a4 d.l4 d.c4 5 (xs.map xdF)) (hz:ay w a len cap zs) (hG:ens w):
  Calls Tryz.prog 155 #[.agg #[.slice d.a1 d.l1 d.c1,.slice d.a2 d.l2 d.c2,.slice d.a3 d.l3 d.c3,.slice d.a4 d.l4 d.c4,.slice d.a5 d.l5 d.c5,.int .i64 now],.slice a len cap] w (Eu (∀(j:Nat) t,zs[j]?=some t->hit Xd.n xs t=true) w):=by
 have HR:=aa hr;have HE:=aa hG;have HZ:=aa hz;have hlc:=FA hz.2.1 hz.2.2.1;have hzl:=hz.1;clear hr hG hz;go_enter Tryz.func155,Tryz.ntmps155;go_wp2;go_loopw [11] (fun i wr=> ∃k:Nat,k<=len/\i=.int .i64 k/\Hid (∀(j:Nat) t,j<k->zs[j]?=some t->hit Xd.n xs t=true)/\Hid (Below w.heap.size w wr)/\Hid (wr.heap[w.heap.size]?=some (.cells (clv d now) 36 (0,0)))) (fun i _=>len - (intOf i).toNat);case atStart=>exact⟨0,by omega,rfl,fun _ _ h=>absurd h af,al _ _,FD⟩
 case round=>
  obtain⟨k,hk,rfl,HQ,HB,Bk⟩:=hrel;by_cases hlt:k<len
  ·obtain⟨b,o,t,rfl,hb,hx,hc,hsz⟩:=(HZ.below HB.out).at hlt;have HX:=aa hx;clear hx;obtain⟨k0,k1,k2,k3,k4,k5⟩:=cs6 Bk;go_wp2_with fail;refine (fu d now xs t w _ HR.out HB.out).mono ?_;rintro e w1 ⟨hb2,hf⟩;clear k0 k1 k2 k3 k4 k5;replace Bk:=upK Bk hb2;replace HB:=upB HB hb2;clear hb2;clear hb hc hsz;obtain⟨T,q,hv⟩:=HE.below HB.out;have hl:=(HE.below HB.out).lt;rcases hf with ⟨hh,x,hx,hn,rfl,z0,z2,z4⟩|⟨hh,rfl⟩
   ·have HH:=aa hh;clear hh hx hn z0 z2 z4 hv hl;go_wp2;refine⟨⟨k+1,by omega,by go_num,fun j z hj hz=>?_,HB.alloc HB.size _,(Fy _ _ _ (ae Bk.out)).trans Bk.out⟩,by simp[intOf];omega⟩;by_cases e:j=k
    ·subst e;rw[HX.out] at hz;obtain rfl:=Fq hz;exact HH.out
    ·exact HQ.out j z af hz
   ·have HH:=aa hh;clear hh;go_wp2;go_ret;exact⟨HB.alloc HB.size _,.inr ⟨fun h=>(by have:=h k t HX.out;rw[HH.out] at this;cases this),T,q,rfl⟩⟩
  ·obtain rfl:len=k:=af
   go_wp2;go_ret;exact⟨HB.out,.inl ⟨fun j t ht=>HQ.out j t sf ht,rfl⟩⟩

def EJ (c:Cl) (t:ByteArray) (r w:World) (e:Ending) (w':World):Prop:=
 Below w.heap.size w w'/\((∃(v:Vd) (va:Option Addr) (vl vc:Nat),bJ c t v/\e=.returned (.tuple #[.agg #[.string v.n,.int .i64 v.c,.string v.z,.string v.k,.bool v.x,.string v.m,.bool v.y,.slice va vl vc],.bool true])/\v.n.size<=9223372036854775807/\v.z.size<=9223372036854775807/\ay r va vl vc v.zs)\/((∀v,¬bJ c t v)/\e=.returned (.tuple #[.agg #[.string ⟨#[]⟩,.int .i64 0,.string ⟨#[]⟩,.string ⟨#[]⟩,.bool false,.string ⟨#[]⟩,.bool false,.slice none 0 0],.bool false])))

theorem sJ (d:Ad) (c:Cl) (t:ByteArray) (r:World) (w:World) (hr:aJ r d c.raw) (hrw:Below r.heap.size r w) (hx:aP Xd.n c.xs) (hv:aP Vd.n c.vs) (hne:∀(j:Nat) v,c.vs[j]?=some v->¬v.n=⟨#[]⟩):
  Calls Tryz.prog 178 #[.agg #[.slice d.a1 d.l1 d.c1,.slice d.a2 d.l2 d.c2,.slice d.a3 d.l3 d.c3,.slice d.a4 d.l4 d.c4,.slice d.a5 d.l5 d.c5,.int .i64 c.now],.string t] w (EJ c t r w):=by
 have HR:=aa hr;have HRW:=aa hrw;obtain⟨HX,HV,HNE⟩:=iT;have HB:=aa (Fw w.heap.size w);clear hr hx hv hrw hne;go_enter Tryz.func178,Tryz.ntmps178;go_wp2_with fail;refine (fu d c.now c.xs t r _ HR.x (HRW.trans ((aF _ _ _).mono HRW.size))).mono ?_;rintro e w1 ⟨hb,hf⟩;obtain⟨HA0,HA1,hbx⟩:=cH hb;have Bk:=aa HA0;have Bs:=aa HA1;replace HB:=upB HB hbx;clear hb hbx HA0 HA1;rcases hf with ⟨hh,x,hx,hn,rfl,z0,z2,z4⟩|⟨hh,rfl⟩
 ·have HX1:=aa hx;have HN1:=aa hn;clear hx hn hh z0 z2 z4;obtain⟨k0,k1,k2,k3,k4,k5⟩:=cs6 Bk;have ltk_1:=ae Bk.out;go_wp2_with fail;refine (dW d c.now c.vs x.v r _ HR.v (HRW.trans ((HB.trans ((al _ _).mono HB.size)).mono HRW.size))).mono ?_;rintro e w2 ⟨hb,hf⟩;clear k0 k1 k2 k3 k4 k5 ltk_1;obtain⟨HA0,hbx⟩:=aL hb;replace Bk:=upK Bk hbx;replace Bs:=upK Bs hbx;have Bx:=aa HA0;replace HB:=upB HB hbx;clear hb hbx HA0;rcases hf with ⟨hh,v,va,vl,vc,hx,hn,rfl,z0,z2,z3,z5,hvr⟩|⟨hh,rfl⟩
  ·have HX2:=aa hx;have HN2:=aa hn;have HT:=aa hvr;have HZ0:=aa z0;have HZ2:=aa z2;clear hx hn hh z0 z2 z3 z5 hvr;obtain⟨s0,s1,s2,s3,s4,s5,s6,s7⟩:=cs8 Bs;obtain⟨fr0,fr1,fr2,fr3,fr4,fr5,fr6,fr7⟩:=vh;go_wp2;refine bodyPost_ret (v:=.tuple #[.agg #[.string v.n,.int .i64 v.c,.string v.z,.string v.k,.bool v.x,.string v.m,.bool v.y,.slice va vl vc],.bool true]) uP rfl ⟨ah (FV _) (ah (FV _) (ah (FV _) (ah (FV _) (ah (FV _) (ah (FV _) (ah (FV _) (ah (FV _) (HB.out)))))))),.inl ⟨v,va,vl,vc,⟨_,_,x,HX1.out,HN1.out,HX2.out,HN2.out⟩,rfl,HZ0.out,HZ2.out,HT.out⟩⟩
  ·have HH2:=aa hh;clear hh;obtain⟨s0,s1,s2,s3,s4,s5,s6,s7⟩:=cs8 Bs;obtain⟨fr0,fr1,fr2,fr3,fr4,fr5,fr6,fr7⟩:=vh;go_wp2;refine bodyPost_ret (v:=.tuple #[.agg #[.string ⟨#[]⟩,.int .i64 0,.string ⟨#[]⟩,.string ⟨#[]⟩,.bool false,.string ⟨#[]⟩,.bool false,.slice none 0 0],.bool false]) uP rfl ⟨ah (FV _) (ah (FV _) (ah (FV _) (ah (FV _) (ah (FV _) (ah (FV _) (ah (FV _) (ah (FV _) (HB.out)))))))),.inr ⟨fun v ⟨i,j,x2,e1,e2,e3,e4⟩=>(by obtain⟨_,rfl⟩:=HX.inj e1 HX1.out (e2.trans HN1.symm);have:=(cN HV.out e3 e4).2;rw[HH2.out] at this;cases this),rfl⟩⟩
 ·have HH1:=aa hh;clear hh;obtain⟨k0,k1,k2,k3,k4,k5⟩:=cs6 Bk;have ltk_1:=ae Bk.out;go_wp2_with fail;refine (dW d c.now c.vs ⟨#[]⟩ r _ HR.v (HRW.trans ((HB.trans ((al _ _).mono HB.size)).mono HRW.size))).mono ?_;rintro e w2 ⟨hb,hf⟩;clear k0 k1 k2 k3 k4 k5 ltk_1;obtain⟨HA0,hbx⟩:=aL hb;replace Bk:=upK Bk hbx;replace Bs:=upK Bs hbx;have Bx:=aa HA0;replace HB:=upB HB hbx;clear hb hbx HA0;rcases hf with ⟨hh,v,va,vl,vc,hx,hn,rfl,z0,z2,z3,z5,hvr⟩|⟨hh,rfl⟩
  ·have HX2:=aa hx;have HN2:=aa hn;have HT:=aa hvr;have HZ0:=aa z0;have HZ2:=aa z2;clear hx hn hh z0 z2 z3 z5 hvr;exact absurd HN2.out (HNE.out _ _ HX2.out)
  ·have HH2:=aa hh;clear hh;obtain⟨s0,s1,s2,s3,s4,s5,s6,s7⟩:=cs8 Bs;obtain⟨fr0,fr1,fr2,fr3,fr4,fr5,fr6,fr7⟩:=vh;go_wp2;refine bodyPost_ret (v:=.tuple #[.agg #[.string ⟨#[]⟩,.int .i64 0,.string ⟨#[]⟩,.string ⟨#[]⟩,.bool false,.string ⟨#[]⟩,.bool false,.slice none 0 0],.bool false]) uP rfl ⟨ah (FV _) (ah (FV _) (ah (FV _) (ah (FV _) (ah (FV _) (ah (FV _) (ah (FV _) (ah (FV _) (HB.out)))))))),.inr ⟨fun v ⟨i,j,x2,e1,e2,e3,e4⟩=>(by have:=(cN HX.out e1 e2).2;rw[HH1.out] at this;cases this),rfl⟩⟩

theorem gY (d:Ad) (now:Int) (ps:List Pd) (t:ByteArray) (w:World) (hr:aN w d.a5 d.l5 d.c5 6 (ps.map pdF)) (hl:ps.length<=8) (hp:∀(j:Nat) p,ps[j]?=some p->0<=p.c/\p.c<=1000000):
  Calls Tryz.prog 124 #[.agg #[.slice d.a1 d.l1 d.c1,.slice d.a2 d.l2 d.c2,.slice d.a3 d.l3 d.c3,.slice d.a4 d.l4 d.c4,.slice d.a5 d.l5 d.c5,.int .i64 now],.string t] w fun e w'=>e=.returned (.int .i64 (cpuOf t ps))/\Below w.heap.size w w':=by
 obtain⟨a1,l1,y1,a2,l2,y2,a3,l3,y3,a4,l4,y4,a5,l5,y5⟩:=d;dsimp only at hr ⊢;have HR:=aa hr;have hxl:ps.length=l5:=dv
 have HP:=aa hp;clear hr hp;go_enter Tryz.func124,Tryz.ntmps124;go_wp2;go_loopw [5,11] (fun q i wr=> ∃(k:Nat) (s:Int),k<=l5/\q=.int .i64 s/\i=.int .i64 k/\Hid (s=cpuOf t (ps.take k))/\0<=s/\s<=k*1000000/\Hid (Below w.heap.size w wr)) (fun _ i _=>l5 - (intOf i).toNat);case atStart=>exact⟨0,0,by omega,rfl,rfl,rfl,by omega,by omega,al _ _⟩
 case round=>
  obtain⟨k,s,hk,rfl,rfl,HS,hs0,hs1,HB⟩:=hrel;by_cases hlt:k<l5
  ·obtain⟨b,o,p,rfl,hb,hx,hat⟩:=bY (HR.below HB.out) hlt;obtain⟨va,vl,vc,hvr,z0,z2,z4,c0,c1,c2,c3,c4,c5⟩:=aT hat;have HX:=aa hx;have hpc:=HP.out k p hx;clear hat hx z0 z2 z4 hvr;by_cases hn:p.d=t
   ·have hq:=a9 hn;have HN:=aa hn;clear hn;go_wp2;refine⟨⟨k+1,s+p.c,by omega,by go_num,by go_num,?_,by omega,by omega,HB.alloc HB.size _⟩,by simp[intOf];omega⟩;show _=_;rw[eR HX.out,if_pos HN.out,<-HS.out]
   ·have hq:=bC hn;have HN:=aa hn;clear hn;go_wp2;refine⟨⟨k+1,s,by omega,rfl,by go_num,?_,by omega,by omega,HB.alloc HB.size _⟩,by simp[intOf];omega⟩;show _=_;rw[eR HX.out,if_neg HN.out,<-HS.out,Int.add_zero]
  ·obtain rfl:l5=k:=af
   exact qK

theorem zA (d:Ad) (c:Cl) (t:ByteArray) (w:World) (hr:aJ w d c.raw):
  Calls Tryz.prog 157 #[.agg #[.slice d.a1 d.l1 d.c1,.slice d.a2 d.l2 d.c2,.slice d.a3 d.l3 d.c3,.slice d.a4 d.l4 d.c4,.slice d.a5 d.l5 d.c5,.int .i64 c.now],.string t] w (ar (sU c t) w):=by
 obtain⟨a1,l1,y1,a2,l2,y2,a3,l3,y3,a4,l4,y4,a5,l5,y5⟩:=d;dsimp only;have HR:=aa hr;obtain⟨hl5,hm5⟩:=jN;clear hr;go_enter Tryz.func157,Tryz.ntmps157;go_wp2;go_loopw [5,11] (fun q i wr=> ∃(k:Nat) (s:ByteArray),k<=l5/\q=.string s/\i=.int .i64 k/\Hid (∀(j:Nat) p,j<k->c.ps[j]?=some p->¬p.d=⟨#[]⟩->InL p.zs t->p.d=s)/\Hid (s=⟨#[]⟩\/∃(j:Nat) (p:Pd),j<k/\c.ps[j]?=some p/\¬p.d=⟨#[]⟩/\InL p.zs t/\p.d=s)/\Hid (Below w.heap.size w wr)) (fun _ i _=>l5 - (intOf i).toNat);case atStart=>exact⟨0,_,by omega,rfl,rfl,fun _ _ h=>absurd h af,.inl rfl,al _ _⟩
 case round=>
  obtain⟨k,s,hk,rfl,rfl,HQ,HS,HB⟩:=hrel;by_cases hlt:k<l5
  ·obtain⟨b,o,p,rfl,hb,hx,hat⟩:=bY (HR.p.below HB.out) hlt;obtain⟨va,vl,vc,hvr,z0,z2,z4,c0,c1,c2,c3,c4,c5⟩:=aT hat;have HX:=aa hx;have HT:=aa hvr;clear hat hx z0 z2 z4 hvr;have skip:(p.d=⟨#[]⟩\/¬InL p.zs t)->∀(j:Nat) q,j<k+1->c.ps[j]?=some q->¬q.d=⟨#[]⟩->InL q.zs t->q.d=s:=by
    intro h j q hj hq h1 h2;by_cases e:j=k
    ·subst e;rw[HX.out] at hq;obtain rfl:=Fq hq;rcases h with h|h
     ·exact absurd h h1
     ·exact absurd h2 h
    ·exact HQ.out j q af hq h1 h2
   have SK:=aa skip;clear skip;have keepS:s=⟨#[]⟩\/∃(j:Nat) (p:Pd),j<k+1/\c.ps[j]?=some p/\¬p.d=⟨#[]⟩/\InL p.zs t/\p.d=s:=HS.imp id (fun ⟨j,p,h1,h2⟩=>⟨j,p,by omega,h2⟩);have KS:=aa keepS;clear keepS;by_cases he:p.d=⟨#[]⟩
   ·have hq:=cV he;have HEm:=aa he;clear he;go_wp2;exact⟨⟨k+1,s,by omega,rfl,by go_num,SK.out (.inl HEm.out),KS.out,HB.alloc HB.size _⟩,by simp[intOf];omega⟩
   ·have hq:=bc he;have HEm:=aa he;clear he;go_wp2_with fail;refine (cj va vl vc p.zs t _ (HT.below (al _ _))).mono ?_;rintro e w1 ⟨r,rfl,hi,hb2⟩;obtain⟨HA0,hbx⟩:=aL hb2;have Br:=aa HA0;replace HB:=upB HB hbx;clear hb2 hbx HA0;have HI:=aa hi;clear hi c0 c1 c2 c3 c4 c5 hb;cases r
    ·obtain⟨r0,r1,r2,r3,r4,r5⟩:=cs6 Br;go_wp2;exact⟨⟨k+1,s,by omega,rfl,by go_num,SK.out (.inr (fun h=>by have:=HI.2 h;cases this)),KS.out,HB.out⟩,by simp[intOf];omega⟩
    ·have HIn:=aa (HI.1 cr);clear HI;by_cases hs:s=⟨#[]⟩
     ·have hq2:=cV hs;have HSe:=aa hs;clear hs;obtain⟨r0,r1,r2,r3,r4,r5⟩:=cs6 Br;go_wp2_with fail;refine⟨⟨k+1,p.d,by omega,rfl,by go_num,fun j q hj hq h1 h2=>?_,.inr ⟨k,p,by omega,HX.out,HEm.out,HIn.out,rfl⟩,HB.out⟩,by simp[intOf];omega⟩;by_cases e:j=k
      ·subst e;rw[HX.out] at hq;obtain rfl:=Fq hq;rfl
      ·exact absurd (HSe.out ▸ HQ.out j q af hq h1 h2) h1
     ·have hq2:=bc hs;have HSe:=aa hs;clear hs;by_cases hd:p.d=s
      ·have hq3:=a9 hd;have HD:=aa hd;clear hd;obtain⟨r0,r1,r2,r3,r4,r5⟩:=cs6 Br;go_wp2_with fail;refine⟨⟨k+1,p.d,by omega,rfl,by go_num,fun j q hj hq h1 h2=>?_,.inr ⟨k,p,by omega,HX.out,HEm.out,HIn.out,rfl⟩,HB.out⟩,by simp[intOf];omega⟩;by_cases e:j=k
       ·subst e;rw[HX.out] at hq;obtain rfl:=Fq hq;rfl
       ·exact (HQ.out j q af hq h1 h2).trans HD.symm
      ·have hq3:=bC hd;have HD:=aa hd;clear hd;obtain⟨r0,r1,r2,r3,r4,r5⟩:=cs6 Br;go_wp2;go_ret;refine ar.f (fun h=>?_) HB.out;rcases HS.out with h1|⟨j,q,h1,h2,h3,h4,h5⟩
       ·exact HSe.out h1
       ·exact HD.out ((h k j p q HX.out h2 HEm.out h3 HIn.out h4).trans h5)
  ·obtain rfl:l5=k:=af
   go_wp2;go_ret;refine ar.t (fun i j p q hi hj h1 h2 h3 h4=>?_) HB.out;rw[HQ.out i p (by have:=(Fm.1 hi).1;omega) hi h1 h3,HQ.out j q nA hj h2 h4]

structure Nv where
 n:Nd
 a:Option Addr
 l:Nat
 c:Nat
def ltN (a b:Nv):Prop:=FB a.n.n.toList b.n.n.toList=true
def frV (c:Cl) (v:Nv):Int:=frN c v.n

def Nv.enc (v:Nv):List Value:=[.string v.n.n,.string v.n.z,.int .i64 v.n.c,.int .i64 v.n.s,.int .i64 v.n.u,.bool v.n.d,.slice v.a v.l v.c]
def cq (w:World) (g:Nat) (ms:List Nv):Prop:=ms=[]\/∃cur,w.heap[g]?=some (.cells cur 57 (0,0))/\∀(j:Nat) v,ms[j]?=some v->∀(i:Nat) u,v.enc[i]?=some u->cur[j*7+i]?=some u
theorem cq.blk {w:World} {g:Nat} {ms:List Nv} (h:cq w g ms) {j:Nat} {v:Nv} (hj:ms[j]?=some v):∃cur,w.heap[g]?=some (.cells cur 57 (0,0))/\∀(j:Nat) v,ms[j]?=some v->∀(i:Nat) u,v.enc[i]?=some u->cur[j*7+i]?=some u:=by
 rcases h with rfl|h
 ·simp at hj
 ·exact h
theorem cq.below {w w':World} {g:Nat} {ms:List Nv} (h:cq w g ms) (hb:Below w.heap.size w w'):cq w' g ms:=h.imp id (fun ⟨cur,h1,h2⟩=>⟨cur,(hb.block _ (ae h1)).trans h1,h2⟩)
theorem cq.lt {w:World} {g:Nat} {ms:List Nv} (h:cq w g ms) {j:Nat} {v:Nv} (hj:ms[j]?=some v):g<w.heap.size:=by
 obtain⟨cur,h1,h2⟩:=h.blk hj;exact ae h1
theorem cq.cI {w:World} {g:Nat} {ms:List Nv} (h:cq w g ms) {j:Nat} {v:Nv} (hj:ms[j]?=some v) (i:Nat):w.frozen? ⟨g,i,none⟩=false:=by
 obtain⟨cur,h1,h2⟩:=h.blk hj;exact av h1 i
theorem cq.cells {w:World} {g:Nat} {ms:List Nv} (h:cq w g ms) {j:Nat} {v:Nv} (hj:ms[j]?=some v):w.cell? ⟨g,j*7,none⟩=some (.string v.n.n)/\w.cell? ⟨g,j*7+1,none⟩=some (.string v.n.z)/\w.cell? ⟨g,j*7+2,none⟩=some (.int .i64 v.n.c)/\w.cell? ⟨g,j*7+3,none⟩=some (.int .i64 v.n.s)/\w.cell? ⟨g,j*7+4,none⟩=some (.int .i64 v.n.u)/\w.cell? ⟨g,j*7+5,none⟩=some (.bool v.n.d)/\w.cell? ⟨g,j*7+6,none⟩=some (.slice v.a v.l v.c):=by
 obtain⟨cur,h1,h2⟩:=h.blk hj;have h3:=h2 j v hj;exact⟨(aw h1 _).trans (h3 0 _ rfl),(aw h1 _).trans (h3 1 _ rfl),(aw h1 _).trans (h3 2 _ rfl),(aw h1 _).trans (h3 3 _ rfl),(aw h1 _).trans (h3 4 _ rfl),(aw h1 _).trans (h3 5 _ rfl),(aw h1 _).trans (h3 6 _ rfl)⟩
theorem cq.put {w:World} {g:Nat} {ms:List Nv} (h:cq w g ms) {j:Nat} (hj:j<ms.length) (v:Nv):cq (((((((w.setCell ⟨g,j*7,none⟩ (.string v.n.n)).setCell ⟨g,j*7+1,none⟩ (.string v.n.z)).setCell ⟨g,j*7+2,none⟩ (.int .i64 v.n.c)).setCell ⟨g,j*7+3,none⟩ (.int .i64 v.n.s)).setCell ⟨g,j*7+4,none⟩ (.int .i64 v.n.u)).setCell ⟨g,j*7+5,none⟩ (.bool v.n.d)).setCell ⟨g,j*7+6,none⟩ (.slice v.a v.l v.c)) g (ms.set j v):=by
 obtain⟨cur,hg,h2⟩:=h.blk (Fu hj);refine .inr ⟨_,(heap_setCell_same _ _ _ _ _ _ (heap_setCell_same _ _ _ _ _ _ (heap_setCell_same _ _ _ _ _ _ (heap_setCell_same _ _ _ _ _ _ (heap_setCell_same _ _ _ _ _ _ (heap_setCell_same _ _ _ _ _ _ (heap_setCell_same _ _ _ _ _ _ hg))))))),fun k u hk i x hi=>?_⟩;have hil:i<7:=(Fm.1 hi).1;have hb:=h2 j ms[j] (Fu hj) 6 _ rfl;have hsz:j*7+6<cur.size:=(FG.1 hb).1;rw[dQ hj] at hk;split at hk
 ·rename_i e;subst e;obtain rfl:=Fq hk;rcases i with _|_|_|_|_|_|_|i;all_goals first
   | omega
   | (cases hi;simp only[FL,Array.size_setIfInBounds];repeat (first|rw[if_neg af]|rw[if_pos trivial]|rw[if_pos af]);try rfl)
 ·rename_i e;simp only[FL];repeat rw[if_neg af]
  exact h2 k u hk i x hi
theorem aC.D8 {w0 w:World} {g j:Nat} {v:Nv} (h:aC (fun k=>k=g) w0 w):aC (fun k=>k=g) w0 (((((((w.setCell ⟨g,j*7,none⟩ (.string v.n.n)).setCell ⟨g,j*7+1,none⟩ (.string v.n.z)).setCell ⟨g,j*7+2,none⟩ (.int .i64 v.n.c)).setCell ⟨g,j*7+3,none⟩ (.int .i64 v.n.s)).setCell ⟨g,j*7+4,none⟩ (.int .i64 v.n.u)).setCell ⟨g,j*7+5,none⟩ (.bool v.n.d)).setCell ⟨g,j*7+6,none⟩ (.slice v.a v.l v.c)):=(((((((h.set rfl)).set rfl).set rfl).set rfl).set rfl).set rfl).set rfl
theorem eg.least {f:Nv->Int} {lt:Nv->Nv->Prop} (ms:List Nv):eg f lt ms ms (min 1 ms.length):=by
 cases ms with
 | nil=>exact⟨[],rfl,rfl,List.Perm.refl _,List.Pairwise.nil⟩
 | cons a r=>rw[show min 1 (a ::r).length=1 by simp];exact eg.one aS

theorem gu.key {f:Nv->Int} {lt:Nv->Nv->Prop} {ms ls:List Nv} {k j:Nat} {x:Nv} (h:gu f lt ms ls k j x):ms[k]?=some x:=by
 obtain⟨A,B,_,_,_,h3,_⟩:=h;exact h3
theorem gu.mem {f:Nv->Int} {lt:Nv->Nv->Prop} {ms ls:List Nv} {k j i:Nat} {x y:Nv} (h:gu f lt ms ls k j x) (hy:ls[i]?=some y):y∈ms:=by
 obtain⟨A,B,rfl,_,_,h3,h4,_⟩:=h;have hm:=FZ hy;have hk:=(Fm.1 h3).1;have h9:ms=ms.take k++x ::ms.drop (k+1):=by
  rw[<-(Fm.1 h3).2,<-GU hk,List.take_append_drop]
 rw[h9];simp only[G2,Gj] at hm ⊢;rcases hm with hm|hm|hm|hm
 ·exact .inl (h4.mem_iff.1 (List.mem_append_left _ hm))
 ·exact .inr (.inl hm)
 ·exact .inl (h4.mem_iff.1 (List.mem_append_right _ hm))
 ·exact .inr (.inr hm)
theorem ka {ms:List Nv} {k:Nat} {x:Nv} (hl:∀(i j:Nat) a b,i<j->ms[i]?=some a->ms[j]?=some b->ltN a b) (hx:ms[k]?=some x):∀y,y∈ms.take k->ltN y x:=by
 intro y hy;obtain⟨i,hi⟩:=List.getElem?_of_mem hy;rw[FR] at hi;split at hi
 ·rename_i h;exact hl i k y x h hi hx
 ·cases hi

theorem uD {w:World} {g:Nat} {ms:List Nv} (h:cq w g ms):cq w.drew g ms:=h
theorem rf {S:Nat->Prop} {w w':World} (h:aC S w w'):aC S w w'.drew:=⟨h.os,h.tape,h.output,h.size,h.block⟩
def jl (x y:Int):Int:=if x<y then -1 else if y<x then 1 else 0
theorem zT (x y:Int):jl x y<0↔x<y:=by
 unfold jl;split
 ·rename_i h;simp[h]
 ·rename_i h;split <;> simp[h]

theorem zq (a:Option Addr) (g len cap cb:Nat) (c:Cl) (ms:List Nv) (w:World) (ha:0<len->a=some ⟨g,0,none⟩) (hl:ms.length=len) (h6:len<=8) (hs:cq w g ms) (hlt:∀(i j:Nat) a b,i<j->ms[i]?=some a->ms[j]?=some b->ltN a b)
  (hC:∀W,aC (fun k=>k=g) w W->∀a b:Nv,a∈ms->b∈ms->Calls Tryz.prog 92 #[.agg #[.string a.n.n,.string a.n.z,.int .i64 a.n.c,.int .i64 a.n.s,.int .i64 a.n.u,.bool a.n.d,.slice a.a a.l a.c],.agg #[.string b.n.n,.string b.n.z,.int .i64 b.n.c,.int .i64 b.n.s,.int .i64 b.n.u,.bool b.n.d,.slice b.a b.l b.c],.pointer (some ⟨cb,0,none⟩)] W fun e W'=>e=.returned (.int .i64 (jl (frV c b) (frV c a)))/\Below W.heap.size W W'):
  Calls Tryz.prog 162 #[.slice a len cap,.int .i64 0,.int .i64 len,.func (.func 92) #[] #[.pointer (some ⟨cb,0,none⟩)]] w fun e w'=>e=.returned (.tuple #[])/\∃ls,eg (frV c) ltN ms ls len/\cq w' g ls/\aC (fun k=>k=g) w w':=by
 have HS0:=aa hs;have HL:=aa hlt;have HCC:=aa hC;have HML:=aa hl;clear hs hlt hC hl;go_enter Tryz.func162,Tryz.ntmps162;go_wp2_with fail;go_loopw [8] (fun i wr=> ∃(k:Nat) (ls:List Nv),1<=k/\(k<=len\/k=1)/\i=.int .i64 k/\Hid (eg (frV c) ltN ms ls (min k len))/\Hid (cq wr g ls)/\Hid (aC (fun k=>k=g) w wr)) (fun i _=>len - (intOf i).toNat);case atStart=>exact⟨1,ms,by omega,.inr rfl,rfl,by rw[<-HML.out];exact eg.least ms,HS0.out,aC.refl _ _⟩
 case round=>
  obtain⟨k,ls,hk1,hk2,rfl,HK,HS,HW⟩:=hrel;by_cases hkl:k<len
  ·have hkl2:(k:Int)<(len:Int):=af
   obtain rfl:=ha af;have hk0:eg (frV c) ltN ms ls k:=by have h:=HK.out;rwa [Nat.min_eq_left (Nat.le_of_lt hkl)] at h
   obtain⟨x,hx⟩:=hk0.start (by rw[HML.out];exact hkl);have HJ0:=aa hx;clear hx HK hk0;go_wp2_with fail;go_loopw [9] (fun i wr=> ∃(j:Nat) (ls:List Nv),j<=k/\i=.int .i64 j/\Hid (gu (frV c) ltN ms ls k j x)/\Hid (cq wr g ls)/\Hid (aC (fun k=>k=g) w wr)) (fun i _=>(intOf i).toNat);case atStart=>exact⟨k,ls,Ft _,rfl,HJ0.out,HS.out,HW.out⟩
   case round=>
    clear HJ0 HS HW ls;obtain⟨j,ls,hjk,rfl,HJ,HS,HW⟩:=hrel;rcases j with _|j
    ·have hne0:=Wd.ne wr;go_wp2_with fail;refine ag aq aq ?_;repeat (go_big_quiet_step (first|fail))
     refine wpQuiet_nil ?_;rintro _ ⟨q1,rfl⟩;have HW1:=aa (HW.below q1.b);have HS1:=aa (HS.below q1.b);clear hne0;go_wp2;refine⟨⟨k+1,ls,by omega,.inl af,by go_num,?_,HS1.out,HW1.out⟩,by simp[intOf];omega⟩;show eg _ _ _ _ _;rw[Nat.min_eq_left (show k+1<=len by omega)];exact HJ.stop (ka HL.out HJ.key) (.inl rfl)
    ·have hlen:=HJ.len;have hml:=HML.out;have hjl:j<ls.length:=af
     obtain⟨y,hy⟩:∃y,ls[j]?=some y:=⟨_,Fu hjl⟩;have HY:=aa hy;have HXX:=aa HJ.at;have HXM:=aa (HJ.mem HXX.out);have HYM:=aa (HJ.mem hy);have hg:=HS.lt hy;obtain⟨c0,c1,c2,c3,c4,c5,c6⟩:=HS.cells HXX.out;obtain⟨d0,d1,d2,d3,d4,d5,d6⟩:=HS.cells hy;have hne0:=Wd.ne wr;have x0:=fun q:Wd wr=>(q.cell hg).trans c0;have x1:=fun q:Wd wr=>(q.cell hg).trans c1;have x2:=fun q:Wd wr=>(q.cell hg).trans c2;have x3:=fun q:Wd wr=>(q.cell hg).trans c3;have x4:=fun q:Wd wr=>(q.cell hg).trans c4;have x5:=fun q:Wd wr=>(q.cell hg).trans c5;have x6:=fun q:Wd wr=>(q.cell hg).trans c6;have y0:=fun q:Wd wr=>(q.cell hg).trans d0;have y1:=fun q:Wd wr=>(q.cell hg).trans d1;have y2:=fun q:Wd wr=>(q.cell hg).trans d2;have y3:=fun q:Wd wr=>(q.cell hg).trans d3;have y4:=fun q:Wd wr=>(q.cell hg).trans d4;have y5:=fun q:Wd wr=>(q.cell hg).trans d5;have y6:=fun q:Wd wr=>(q.cell hg).trans d6;have HC0:=aa (fun q:Wd wr=>HCC.out q.w (HW.below q.b) x y HXM.out HYM.out);clear hy hlen hml c0 c1 c2 c3 c4 c5 c6 d0 d1 d2 d3 d4 d5 d6;go_wp2_with fail;refine ag aq aq ?_;repeat (go_big_quiet_step (first|(go_at_call 92;exact Calls.wide (HC0.out _))|fail))
     refine wpQuiet_nil ?_;rintro _ ⟨q1,rfl⟩;have HW1:=aa (HW.below q1.b);have HS1:=aa (HS.below q1.b);clear hne0 HC0 x0 x1 x2 x3 x4 x5 x6 y0 y1 y2 y3 y4 y5 y6;have hcm:=zT (frV c y) (frV c x);by_cases hf:frV c y<frV c x
     ·have hd:=hcm.2 hf;have HF:=aa hf;clear hcm hf;obtain⟨c0,c1,c2,c3,c4,c5,c6⟩:=HS1.cells HXX.out;obtain⟨d0,d1,d2,d3,d4,d5,d6⟩:=HS1.cells HY.out;have f0:=HS1.cI HY.out ((j+1)*7);have e0:=HS1.cI HY.out (j*7);have f1:=HS1.cI HY.out ((j+1)*7+1);have e1:=HS1.cI HY.out (j*7+1);have f2:=HS1.cI HY.out ((j+1)*7+2);have e2:=HS1.cI HY.out (j*7+2);have f3:=HS1.cI HY.out ((j+1)*7+3);have e3:=HS1.cI HY.out (j*7+3);have f4:=HS1.cI HY.out ((j+1)*7+4);have e4:=HS1.cI HY.out (j*7+4);have f5:=HS1.cI HY.out ((j+1)*7+5);have e5:=HS1.cI HY.out (j*7+5);have f6:=HS1.cI HY.out ((j+1)*7+6);have e6:=HS1.cI HY.out (j*7+6);go_wp2_with fail;go_region;clear c0 c1 c2 c3 c4 c5 c6 d0 d1 d2 d3 d4 d5 d6 f0 e0 f1 e1 f2 e2 f3 e3 f4 e4 f5 e5 f6 e6;have hd1:=HJ.down HY.out HF.out;have HD:=aa hd1.1;have hl1:j+1<ls.length:=by have:=HJ.len;have:=HML.out;omega
      have HP:=aa ((HS1.put hl1 y).put (j:=j) (by rw[List.length_set];omega) x);have HK2:=aa (aC.D8 (j:=j) (v:=x) (aC.D8 (j:=j+1) (v:=y) HW1.out));clear hd1 hl1;go_wp2;exact⟨⟨j,_,by omega,by go_num,HD.out,uD HP.out,rf HK2.out⟩,by simp[intOf]⟩
     ·have hd:¬jl (frV c y) (frV c x)<0:=fun h=>hf (hcm.1 h);have HF:=aa hf;clear hcm hf;go_wp2;refine⟨⟨k+1,ls,by omega,.inl af,by go_num,?_,HS1.out,HW1.out⟩,by simp[intOf];omega⟩;show eg _ _ _ _ _;rw[Nat.min_eq_left (show k+1<=len by omega)];exact HJ.stop (ka HL.out HJ.key) (.inr ⟨y,HY.out,HF.out⟩)
  ·have hkl2:¬(k:Int)<(len:Int):=af
   have hk9:=HK.out;rw[Nat.min_eq_right (show len<=k by omega)] at hk9;have HK9:=aa hk9;clear hk9;go_wp2;go_end0;exact⟨rfl,ls,HK9.out,HS.out,HW.out⟩

theorem zm (a:Option Addr) (g len cap cb:Nat) (c:Cl) (ms:List Nv) (w:World) (ha:0<len->a=some ⟨g,0,none⟩) (hl:ms.length=len) (h6:len<=8) (hs:cq w g ms) (hlt:∀(i j:Nat) a b,i<j->ms[i]?=some a->ms[j]?=some b->ltN a b)
  (hC:∀W,aC (fun k=>k=g) w W->∀a b:Nv,a∈ms->b∈ms->Calls Tryz.prog 92 #[.agg #[.string a.n.n,.string a.n.z,.int .i64 a.n.c,.int .i64 a.n.s,.int .i64 a.n.u,.bool a.n.d,.slice a.a a.l a.c],.agg #[.string b.n.n,.string b.n.z,.int .i64 b.n.c,.int .i64 b.n.s,.int .i64 b.n.u,.bool b.n.d,.slice b.a b.l b.c],.pointer (some ⟨cb,0,none⟩)] W fun e W'=>e=.returned (.int .i64 (jl (frV c b) (frV c a)))/\Below W.heap.size W W'):
  Calls Tryz.prog 122 #[.slice a len cap,.int .i64 len,.func (.func 92) #[] #[.pointer (some ⟨cb,0,none⟩)]] w fun e w'=>e=.returned (.tuple #[])/\∃ls,eg (frV c) ltN ms ls len/\cq w' g ls/\aC (fun k=>k=g) w w':=by
 go_enter Tryz.func122,Tryz.ntmps122;go_wp2_with fail;go_loopw [7,8] (fun a b wr=>a=.int .i64 0/\b=.int .i64 20/\wr=w) (fun _ _ _=>0);case atStart=>exact⟨rfl,rfl,rfl⟩
 case round=>
  obtain⟨rfl,rfl,rfl⟩:=hrel;go_wp2_with fail;refine (zq a g len cap cb c ms wr ha hl h6 hs hlt hC).mono ?_;rintro e w1 ⟨rfl,hq⟩;have HQ:=aa hq;clear hq hs hlt hC ha;go_wp2_with fail;go_loopw [6] (fun a wr2=>a=.int .i64 20/\wr2=w1) (fun _ _=>0);case atStart=>exact⟨rfl,rfl⟩
  case round=>
   obtain⟨rfl,rfl⟩:=hrel;go_wp2;go_end0;exact⟨rfl,HQ.out⟩

theorem zp (a:Option Addr) (g len cap cb:Nat) (c:Cl) (ms:List Nv) (w:World) (ha:0<len->a=some ⟨g,0,none⟩) (hl:ms.length=len) (h6:len<=8) (hs:cq w g ms) (hlt:∀(i j:Nat) a b,i<j->ms[i]?=some a->ms[j]?=some b->ltN a b)
  (hC:∀W,aC (fun k=>k=g) w W->∀a b:Nv,a∈ms->b∈ms->Calls Tryz.prog 92 #[.agg #[.string a.n.n,.string a.n.z,.int .i64 a.n.c,.int .i64 a.n.s,.int .i64 a.n.u,.bool a.n.d,.slice a.a a.l a.c],.agg #[.string b.n.n,.string b.n.z,.int .i64 b.n.c,.int .i64 b.n.s,.int .i64 b.n.u,.bool b.n.d,.slice b.a b.l b.c],.pointer (some ⟨cb,0,none⟩)] W fun e W'=>e=.returned (.int .i64 (jl (frV c b) (frV c a)))/\Below W.heap.size W W'):
  Calls Tryz.prog 91 #[.slice a len cap,.func (.func 92) #[] #[.pointer (some ⟨cb,0,none⟩)]] w fun e w'=>e=.returned (.tuple #[])/\∃ls,eg (frV c) ltN ms ls len/\cq w' g ls/\aC (fun k=>k=g) w w':=by
 go_enter Tryz.func91,Tryz.ntmps91;go_wp2_with fail;refine (zm a g len cap cb c ms w ha hl h6 hs hlt hC).mono ?_;rintro e w1 ⟨rfl,hq⟩;have HQ:=aa hq;clear hq hs hlt hC ha;go_wp2;go_end0;exact⟨rfl,HQ.out⟩

theorem oN (x:Int) (w:World):Calls Tryz.prog 123 #[.int .i64 x] w fun e w'=>e=.returned (.bool false)/\w=w':=by
 go_enter Tryz.func123,Tryz.ntmps123;go_wp2;go_ret;exact⟨by simp,rfl⟩
theorem tN (x y:Int) (w:World):Calls Tryz.prog 93 #[.int .i64 x,.int .i64 y] w fun e w'=>e=.returned (.int .i64 (jl x y))/\Below w.heap.size w w':=by
 go_enter Tryz.func93,Tryz.ntmps93;go_wp2_with fail;refine (oN x w).mono ?_;rintro e w1 ⟨rfl,rfl⟩;go_wp2_with fail;refine (oN y w).mono ?_;rintro e w1 ⟨rfl,rfl⟩;by_cases h1:x<y
 ·go_wp2;go_ret;exact⟨by simp[jl,h1],Fw _ _⟩
 ·by_cases h2:y<x
  ·go_wp2;go_ret;exact⟨by simp[jl,h1,h2],Fw _ _⟩
  ·go_wp2;go_ret;exact⟨by rw[jl,if_neg af,if_neg af];rfl,Fw _ _⟩

theorem tG (d:Ad) (c:Cl) (p:Pd) (pa:Option Addr) (pl pc:Nat) (w:World) (hr:aJ w d c.raw) (hn:aP Nd.n c.ns) (hx:aP Xd.n c.xs) (hv:aP Vd.n c.vs) (hne:∀(j:Nat) v,c.vs[j]?=some v->¬v.n=⟨#[]⟩) (hp:ay w pa pl pc p.zs):
  Calls Tryz.prog 156 #[.agg #[.slice d.a1 d.l1 d.c1,.slice d.a2 d.l2 d.c2,.slice d.a3 d.l3 d.c3,.slice d.a4 d.l4 d.c4,.slice d.a5 d.l5 d.c5,.int .i64 c.now],.agg #[.string p.n,.int .i64 p.c,.string p.z,.slice pa pl pc,.string p.d,.int .i64 p.p]] w (ar (C9 c p) w):=by
 have HR:=aa hr;have HN:=aa hn;obtain⟨HX,HV,HNE⟩:=iT;have HP:=aa hp;have hlc:=FA hp.2.1 hp.2.2.1;have hzl:=hp.1;have HB:=aa (Fw w.heap.size w);clear hr hn hx hv hne hp;go_enter Tryz.func156,Tryz.ntmps156;go_wp2_with fail;refine (ig d c.now c.ns p.d w _ HR.n (aF _ _ _)).mono ?_;rintro e w1 ⟨hb,hf⟩;obtain⟨HA0,HA1,hbx⟩:=cH hb;have Bk:=aa HA0;have Bp:=aa HA1;replace HB:=upB HB hbx;clear hb hbx HA0 HA1;rcases hf with ⟨hh,n,va,vl,vc,hx,hn,rfl,z0,z1,hvr⟩|⟨hh,rfl⟩;rotate_left
 ·exact yS
 have HX1:=aa hx;have HN1:=aa hn;have HT1:=aa hvr;clear hx hn hh z0 z1 hvr;have hz:(p.z=⟨#[]⟩\/p.z=n.z)\/¬(p.z=⟨#[]⟩\/p.z=n.z):=Classical.em _;rcases hz with hz|hz;rotate_left
 ·have q1:=bc (fun e=>hz (.inl e));have q2:=bC (fun e=>hz (.inr e));have HC:=aa hz;clear hz;obtain⟨k0,k1,k2,k3,k4,k5⟩:=cs6 Bk;obtain⟨p0,p1,p2,p3,p4,p5⟩:=cs6 Bp;have ltp_1:=ae Bp.out;go_wp2;go_ret;refine ar.f (fun ⟨i,m,e1,e2,e3,_⟩=>?_) (HB.alloc HB.size _);obtain⟨_,rfl⟩:=HN.inj e1 HX1.out (e2.trans HN1.symm);exact HC.out e3
 have HC:=aa hz;have hq:(p.z.toList.isEmpty=true)\/(p.z.toList.isEmpty=false/\(p.z.toList==n.z.toList)=true):=by
  by_cases e:p.z=⟨#[]⟩
  ·exact .inl (cV e)
  ·exact .inr ⟨bc e,a9 (HC.resolve_left e)⟩
 clear hz;rcases hq with hq|⟨hq,hq2⟩
 ·exact Ec
 ·exact Ec

theorem zw (d:Ad) (c:Cl) (p:Pd) (pa:Option Addr) (pl pc:Nat) (w:World) (hr:aJ w d c.raw) (hn:aP Nd.n c.ns) (hx:aP Xd.n c.xs) (hv:aP Vd.n c.vs) (hne:∀(j:Nat) v,c.vs[j]?=some v->¬v.n=⟨#[]⟩) (hp:ay w pa pl pc p.zs):
  Calls Tryz.prog 161 #[.agg #[.slice d.a1 d.l1 d.c1,.slice d.a2 d.l2 d.c2,.slice d.a3 d.l3 d.c3,.slice d.a4 d.l4 d.c4,.slice d.a5 d.l5 d.c5,.int .i64 c.now],.agg #[.string p.n,.int .i64 p.c,.string p.z,.slice pa pl pc,.string p.d,.int .i64 p.p]] w (ar (EC c p) w):=by
 have HR:=aa hr;have HN:=aa hn;obtain⟨HX,HV,HNE⟩:=iT;have HP:=aa hp;have hlc:=FA hp.2.1 hp.2.2.1;have hzl:=hp.1;have HB:=aa (Fw w.heap.size w);clear hr hn hx hv hne hp;go_enter Tryz.func161,Tryz.ntmps161;go_wp2_with fail;refine (ig d c.now c.ns p.d w _ HR.n (aF _ _ _)).mono ?_;rintro e w1 ⟨hb,hf⟩;obtain⟨HA0,HA1,hbx⟩:=cH hb;have Bk:=aa HA0;have Bp:=aa HA1;replace HB:=upB HB hbx;clear hb hbx HA0 HA1;rcases hf with ⟨hh,n,va,vl,vc,hx,hn,rfl,z0,z1,hvr⟩|⟨hh,rfl⟩;rotate_left
 ·exact yS
 have HX1:=aa hx;have HN1:=aa hn;have HT1:=aa hvr;clear hx hn hh z0 z1 hvr;cases hd:n.d;rotate_left
 ·obtain⟨k0,k1,k2,k3,k4,k5⟩:=cs6 Bk;obtain⟨p0,p1,p2,p3,p4,p5⟩:=cs6 Bp;have ltp_1:=ae Bp.out;go_wp2;go_ret;refine ar.f (fun ⟨i,m,e1,e2,e3,_⟩=>?_) (HB.alloc HB.size _);obtain⟨_,rfl⟩:=HN.inj e1 HX1.out (e2.trans HN1.symm);rw[hd] at e3;cases e3
 have HC:=aa hd;clear hd;obtain⟨k0,k1,k2,k3,k4,k5⟩:=cs6 Bk;obtain⟨p0,p1,p2,p3,p4,p5⟩:=cs6 Bp;have ltp_1:=ae Bp.out;go_wp2;go_loopw [27] (fun i wr=> ∃k:Nat,k<=pl/\i=.int .i64 k/\Hid (∀(j:Nat) t,j<k->p.zs[j]?=some t->∃v,bJ c t v/\InL n.zs v.n)/\Hid (Below w.heap.size w wr)/\Hid (wr.heap[w.heap.size]?=some (.cells (clv d c.now) 36 (0,0)))/\Hid (wr.heap[w1.heap.size]?=some (.cells #[.string n.n,.string n.z,.int .i64 n.c,.int .i64 n.s,.int .i64 n.u,.bool false,.slice va vl vc] 57 (0,0)))) (fun i _=>pl - (intOf i).toNat);case atStart=>exact⟨0,by omega,rfl,fun _ _ h=>absurd h af,HB.alloc HB.size _,(Fy _ _ _ (ae Bk.out)).trans Bk.out,FD⟩
 case round=>
  obtain⟨k,hk,rfl,HQ,HB,Bk,Bn⟩:=hrel;by_cases hlt:k<pl
  ·obtain⟨b,o,t,rfl,hb,hx,hc,hsz⟩:=(HP.below HB.out).at hlt;have HXt:=aa hx;clear hx hsz;obtain⟨k0,k1,k2,k3,k4,k5⟩:=cs6 Bk;obtain⟨n0,n1,n2,n3,n4,n5,n6⟩:=cs7 Bn;go_wp2_with fail;refine (sJ d c t w _ HR.out HB.out HX.out HV.out HNE.out).mono ?_;rintro e w2 ⟨hb2,hf⟩;clear k0 k1 k2 k3 k4 k5 n0 n1 n2 n3 n4 n5 n6;replace Bk:=upK Bk hb2;replace Bn:=upK Bn hb2;replace HB:=upB HB hb2;clear hb2;clear hb hc;rcases hf with ⟨v,xa,xl,xc,hbd,rfl,z0,z2,hxr⟩|⟨hbd,rfl⟩;rotate_left
   ·exact xv
   have HD:=aa hbd;clear hbd hxr z0 z2;obtain⟨k0,k1,k2,k3,k4,k5⟩:=cs6 Bk;obtain⟨n0,n1,n2,n3,n4,n5,n6⟩:=cs7 Bn;have ltn_1:=ae Bn.out;go_wp2_with fail;refine (cj va vl vc n.zs v.n _ (HT1.below (HB.trans ((al _ _).mono HB.size)))).mono ?_;rintro e w3 ⟨r,rfl,hi,hb3⟩;clear k0 k1 k2 k3 k4 k5 n0 n1 n2 n3 n4 n5 n6 ltn_1;obtain⟨HA0,hbx⟩:=aL hb3;replace Bk:=upK Bk hbx;replace Bn:=upK Bn hbx;replace HB:=upB HB hbx;clear hb3 hbx HA0;have HI:=aa hi;clear hi;cases r
   ·go_wp2;go_ret;refine ar.f (fun ⟨i,m,e1,e2,e3,e4⟩=>?_) HB.out;obtain⟨_,rfl⟩:=HN.inj e1 HX1.out (e2.trans HN1.symm);obtain⟨v',e5,e6⟩:=e4 k t HXt.out;obtain rfl:=bJ.inj HX.out HV.out HD.out e5;have:=HI.2 e6;cases this
   ·go_wp2_with fail;refine⟨⟨k+1,by omega,by go_num,fun j s hj hs=>?_,HB.out,Bk.out,Bn.out⟩,by simp[intOf];omega⟩;by_cases e:j=k
    ·subst e;rw[HXt.out] at hs;obtain rfl:=Fq hs;exact⟨v,HD.out,HI.1 cr⟩
    ·exact HQ.out j s af hs
  ·exact xm

theorem zB (d:Ad) (c:Cl) (n:Nd) (pa:Option Addr) (pl pc:Nat) (w:World) (hr:aJ w d c.raw) (hv:aP Vd.n c.vs) (hp:ay w pa pl pc n.zs):
  Calls Tryz.prog 160 #[.agg #[.slice d.a1 d.l1 d.c1,.slice d.a2 d.l2 d.c2,.slice d.a3 d.l3 d.c3,.slice d.a4 d.l4 d.c4,.slice d.a5 d.l5 d.c5,.int .i64 c.now],.agg #[.string n.n,.string n.z,.int .i64 n.c,.int .i64 n.s,.int .i64 n.u,.bool n.d,.slice pa pl pc]] w (ar (ue c n) w):=by
 have HR:=aa hr;have HV:=aa hv;have HP:=aa hp;have hlc:=FA hp.2.1 hp.2.2.1;have hzl:=hp.1;clear hr hv hp;go_enter Tryz.func160,Tryz.ntmps160;go_wp2;go_loopw [12] (fun i wr=> ∃k:Nat,k<=pl/\i=.int .i64 k/\Hid (∀(j:Nat) t,j<k->n.zs[j]?=some t->∃(i:Nat) (v:Vd),c.vs[i]?=some v/\v.n=t/\(n.d=true\/InL v.zs n.n))/\Hid (Below w.heap.size w wr)/\Hid (wr.heap[w.heap.size]?=some (.cells (clv d c.now) 36 (0,0)))/\Hid (wr.heap[w.heap.size+1]?=some (.cells (nov n pa pl pc) 57 (0,0)))) (fun i _=>pl - (intOf i).toNat);case atStart=>exact⟨0,by omega,rfl,fun _ _ h=>absurd h af,aF _ _ _,cU _ _ _,bE _ _ _⟩
 case round=>
  obtain⟨k,hk,rfl,HQ,HB,Bk,Bn⟩:=hrel;by_cases hlt:k<pl
  ·obtain⟨b,o,t,rfl,hb,hx,hc,hsz⟩:=(HP.below HB.out).at hlt;have HXt:=aa hx;clear hx hsz;obtain⟨k0,k1,k2,k3,k4,k5⟩:=cs6 Bk;obtain⟨n0,n1,n2,n3,n4,n5,n6⟩:=cs7 Bn;go_wp2_with fail;refine (dW d c.now c.vs t w _ HR.v HB.out).mono ?_;rintro e w2 ⟨hb2,hf⟩;clear k0 k1 k2 k3 k4 k5 n0 n1 n2 n3 n4 n5 n6;replace Bk:=upK Bk hb2;replace Bn:=upK Bn hb2;replace HB:=upB HB hb2;clear hb2;clear hb hc;rcases hf with ⟨hh,v,va,vl,vc,hx,hn,rfl,z0,z2,z3,z5,hvr⟩|⟨hh,rfl⟩;rotate_left
   ·have HH:=aa hh;clear hh;obtain⟨k0,k1,k2,k3,k4,k5⟩:=cs6 Bk;obtain⟨n0,n1,n2,n3,n4,n5,n6⟩:=cs7 Bn;have ltn_1:=ae Bn.out;go_wp2;go_ret;refine ar.f (fun h=>?_) (HB.alloc HB.size _);obtain⟨i,v,e1,e2,_⟩:=h k t HXt.out;have:=(cN HV.out e1 e2).2;rw[HH.out] at this;cases this
   have HXv:=aa hx;have HNv:=aa hn;have HTv:=aa hvr;clear hx hn hh z0 z2 z3 z5 hvr;rcases G1 n.d with hd|hd
   ·have HD:=aa hd;clear hd;obtain⟨k0,k1,k2,k3,k4,k5⟩:=cs6 Bk;obtain⟨n0,n1,n2,n3,n4,-,n6⟩:=cs7 Bn;have ltn_1:=ae Bn.out;have n5:=(aw Bn.out 5).trans (congrArg (fun z=>some (Value.bool z)) HD.out);go_wp2_with fail;refine⟨⟨k+1,by omega,by go_num,fun j s hj hs=>?_,(HB.alloc HB.size _),(Fy _ _ _ (ae Bk.out)).trans Bk.out,(Fy _ _ _ (ae Bn.out)).trans Bn.out⟩,by simp[intOf];omega⟩;by_cases e:j=k
    ·subst e;rw[HXt.out] at hs;obtain rfl:=Fq hs;exact⟨_,v,HXv.out,HNv.out,.inl HD.out⟩
    ·exact HQ.out j s af hs
   ·have HD:=aa hd;clear hd;obtain⟨k0,k1,k2,k3,k4,k5⟩:=cs6 Bk;obtain⟨n0,n1,n2,n3,n4,-,n6⟩:=cs7 Bn;have ltn_1:=ae Bn.out;have n5:=(aw Bn.out 5).trans (congrArg (fun z=>some (Value.bool z)) HD.out);go_wp2_with fail;refine (cj va vl vc v.zs n.n _ (HTv.below (HB.trans ((al _ _).mono HB.size)))).mono ?_;rintro e w3 ⟨r,rfl,hi,hb3⟩;clear k0 k1 k2 k3 k4 k5 n0 n1 n2 n3 n4 n6 ltn_1 n5;obtain⟨HA0,hbx⟩:=aL hb3;replace Bk:=upK Bk hbx;replace Bn:=upK Bn hbx;have Bv:=aa HA0;replace HB:=upB HB hbx;clear hb3 hbx HA0;have HI:=aa hi;clear hi;cases r
    ·go_wp2;go_ret;refine ar.f (fun h=>?_) HB.out;obtain⟨i,v',e1,e2,e3⟩:=h k t HXt.out;obtain⟨_,rfl⟩:=HV.inj e1 HXv.out (e2.trans HNv.symm);rcases e3 with e3|e3
     ·rw[HD.out] at e3;cases e3
     ·have:=HI.2 e3;cases this
    ·go_wp2_with fail;refine⟨⟨k+1,by omega,by go_num,fun j s hj hs=>?_,HB.out,Bk.out,Bn.out⟩,by simp[intOf];omega⟩;by_cases e:j=k
     ·subst e;rw[HXt.out] at hs;obtain rfl:=Fq hs;exact⟨_,v,HXv.out,HNv.out,.inr (HI.1 cr)⟩
     ·exact HQ.out j s af hs
  ·exact yk

open Classical in
open Classical in
theorem kg (d:Ad) (now:Int) (vs:List Vd) (t:ByteArray) (w:World) (hr:aN w d.a3 d.l3 d.c3 8 (vs.map vdF)) (hl:vs.length<=8):
  Calls Tryz.prog 159 #[.agg #[.slice d.a1 d.l1 d.c1,.slice d.a2 d.l2 d.c2,.slice d.a3 d.l3 d.c3,.slice d.a4 d.l4 d.c4,.slice d.a5 d.l5 d.c5,.int .i64 now],.string t] w fun e w'=>e=.returned (.int .i64 (onOf t vs))/\Below w.heap.size w w':=by
 obtain⟨a1,l1,y1,a2,l2,y2,a3,l3,y3,a4,l4,y4,a5,l5,y5⟩:=d;dsimp only at hr ⊢;have HR:=aa hr;have hxl:vs.length=l3:=dv
 clear hr;go_enter Tryz.func159,Tryz.ntmps159;go_wp2;go_loopw [5,11] (fun q i wr=> ∃(k:Nat) (s:Int),k<=l3/\q=.int .i64 s/\i=.int .i64 k/\Hid (s=onOf t (vs.take k))/\0<=s/\s<=k/\Hid (Below w.heap.size w wr)) (fun _ i _=>l3 - (intOf i).toNat);case atStart=>exact⟨0,0,by omega,rfl,rfl,rfl,by omega,by omega,al _ _⟩
 case round=>
  obtain⟨k,s,hk,rfl,rfl,HS,hs0,hs1,HB⟩:=hrel;by_cases hlt:k<l3
  ·obtain⟨b,o,v,rfl,hb,hx,hat⟩:=bN (HR.below HB.out) hlt;obtain⟨va,vl,vc,hvr,z0,z2,z3,z5,c0,c1,c2,c3,c4,c5,c6,c7⟩:=aK hat;have HX:=aa hx;have HT:=aa hvr;clear hat hx z0 z2 z3 z5 hvr;go_wp2_with fail;refine (cj va vl vc v.zs t _ (HT.below (al _ _))).mono ?_;rintro e w1 ⟨r,rfl,hi,hb2⟩;obtain⟨HA0,hbx⟩:=aL hb2;replace HB:=upB HB hbx;clear hb2 hbx HA0;have HI:=aa hi;clear hi hb c0 c1 c2 c3 c4 c5 c6 c7;cases r
   ·go_wp2;refine⟨⟨k+1,s,by omega,rfl,by go_num,?_,by omega,by omega,HB.out⟩,by simp[intOf];omega⟩;exact xK
   ·go_wp2;refine⟨⟨k+1,s+1,by omega,by go_num,by go_num,?_,by omega,by omega,HB.out⟩,by simp[intOf];omega⟩;show _=_;rw[iD HX.out,if_pos (HI.1 cr),<-HS.out]
  ·obtain rfl:l3=k:=af
   exact qK

theorem oM (d:Ad) (c:Cl) (w:World) (hr:aJ w d c.raw) (hn:aP Nd.n c.ns) (hx:aP Xd.n c.xs) (hv:aP Vd.n c.vs) (hne:∀(j:Nat) v,c.vs[j]?=some v->¬v.n=⟨#[]⟩) (hps8:c.ps.length<=8) (hpc:∀(j:Nat) p,c.ps[j]?=some p->0<=p.c/\p.c<=1000000) (hG:ens w):
  Calls Tryz.prog 118 #[.agg #[.slice d.a1 d.l1 d.c1,.slice d.a2 d.l2 d.c2,.slice d.a3 d.l3 d.c3,.slice d.a4 d.l4 d.c4,.slice d.a5 d.l5 d.c5,.int .i64 c.now]] w (ar (mH c) w):=by
 obtain⟨a1,l1,y1,a2,l2,y2,a3,l3,y3,a4,l4,y4,a5,l5,y5⟩:=d;dsimp only;obtain⟨HR,hl1,hm1,hl3⟩:=nO;have hm3:l3<=9223372036854775807:=FA hr.v.2.1 hr.v.2.2.1;obtain⟨hl5,hm5⟩:=jN;clear hr;have HE:=aa hG;have HNR:=aa hn;have HXR:=aa hx;have HVR:=aa hv;have HNE:=aa hne;have HL5:=aa hps8;have HPC:=aa hpc;clear hn hx hv hne hps8 hpc hG;go_enter Tryz.func118,Tryz.ntmps118;go_wp2;go_loopw [12] (fun i wr=> ∃k:Nat,k<=l5/\i=.int .i64 k/\Hid (∀(j:Nat) z,j<k->c.ps[j]?=some z->PQ1 c z)/\Hid (Below w.heap.size w wr)/\Hid (wr.heap[w.heap.size]?=some (.cells (clo6 a1 l1 y1 a2 l2 y2 a3 l3 y3 a4 l4 y4 a5 l5 y5 c.now) 36 (0,0)))) (fun i _=>l5 - (intOf i).toNat);case atStart=>exact⟨0,by omega,rfl,fun _ _ h=>absurd h af,al _ _,FD⟩
 case round=>
  obtain⟨k,hk,rfl,HQ,HB,Bk⟩:=hrel;by_cases hlt:k<l5
  ·obtain⟨b,o,p,rfl,hb,hx,hat⟩:=bY (HR.p.below HB.out) hlt;obtain⟨va,vl,vc,hvr,z0,z2,z4,c0,c1,c2,c3,c4,c5⟩:=aT hat;have HXp:=aa hx;have HTp:=aa hvr;clear hat hx z0 z2 z4 hvr;obtain⟨k0,k1,k2,k3,k4,k5⟩:=cs6 Bk;have ltk_0:=ae Bk.out;go_wp2_with fail;refine (km ⟨a1,l1,y1,a2,l2,y2,a3,l3,y3,a4,l4,y4,(some ⟨b,o,none⟩),l5,y5⟩ c.now c.xs va vl vc p.zs _ (HR.x.below (HB.trans ((al _ _).mono HB.size))) (HTp.below (al _ _)) (HE.below (HB.trans ((al _ _).mono HB.size)))).mono ?_;rintro e w1 ⟨hb2,hf⟩;clear k0 k1 k2 k3 k4 k5 ltk_0;obtain⟨HA0,hbx⟩:=aL hb2;replace Bk:=upK Bk hbx;have Br:=aa HA0;replace HTp:=aa (HTp.below hbx);replace HB:=upB HB hbx;clear hb2 hbx HA0;clear hb c0 c1 c2 c3 c4 c5;rcases hf with ⟨hh,rfl⟩|⟨hh,T,q,rfl⟩;rotate_left
   ·have HH:=aa hh;clear hh;obtain⟨k0,k1,k2,k3,k4,k5⟩:=cs6 Bk;obtain⟨r0,r1,r2,r3,r4,r5⟩:=cs6 Br;go_wp2;go_ret;exact ar.f (fun h=>HH.out (h.1 k p HXp.out).1) HB.out
   have HH:=aa hh;clear hh;by_cases he:p.d=⟨#[]⟩
   ·have hq:=cV he;have HEm:=aa he;clear he;obtain⟨k0,k1,k2,k3,k4,k5⟩:=cs6 Bk;obtain⟨r0,r1,r2,r3,r4,r5⟩:=cs6 Br;go_wp2_with fail;refine⟨⟨k+1,by omega,by go_num,fun j z hj hz=>?_,HB.out,Bk.out⟩,by simp[intOf];omega⟩;by_cases e:j=k
    ·subst e;rw[HXp.out] at hz;exact qk
    ·exact HQ.out j z af hz
   ·have hq:=bc he;have HEm:=aa he;clear he;obtain⟨k0,k1,k2,k3,k4,k5⟩:=cs6 Bk;obtain⟨r0,r1,r2,r3,r4,r5⟩:=cs6 Br;go_wp2_with fail;refine (tG ⟨a1,l1,y1,a2,l2,y2,a3,l3,y3,a4,l4,y4,(some ⟨b,o,none⟩),l5,y5⟩ c p va vl vc _ (HR.below HB.out) HNR.out HXR.out HVR.out HNE.out HTp.out).mono ?_;rintro e w2 ⟨r,rfl,hi,hb3⟩;clear k0 k1 k2 k3 k4 k5 r0 r1 r2 r3 r4 r5;replace Bk:=upK Bk hb3;replace Br:=upK Br hb3;replace HTp:=aa (HTp.below hb3);replace HB:=upB HB hb3;clear hb3;have HI:=aa hi;clear hi;cases r
    ·go_wp2;go_ret;refine ar.f (fun h=>?_) HB.out;rcases (h.1 k p HXp.out).2 with h2|h2
     ·exact HEm.out h2
     ·have:=HI.2 h2;cases this
    ·go_wp2_with fail;refine⟨⟨k+1,by omega,by go_num,fun j z hj hz=>?_,HB.out,Bk.out⟩,by simp[intOf];omega⟩;by_cases e:j=k
     ·subst e;rw[HXp.out] at hz;exact qv
     ·exact HQ.out j z af hz
  ·obtain rfl:l5=k:=af
   have HQ1:Hid (∀(j:Nat) z,c.ps[j]?=some z->PQ1 c z):=fun j z hz=>HQ.out j z c_ hz;clear HQ;have kc:=ck0 Bk;go_wp2;go_loopw [36] (fun i wr=> ∃k:Nat,k<=l1/\i=.int .i64 k/\Hid (∀(j:Nat) z,j<k->c.ns[j]?=some z->PQ2 c z)/\Hid (Below w.heap.size w wr)/\Hid (wr.heap[w.heap.size]?=some (.cells (clo6 a1 l1 y1 a2 l2 y2 a3 l3 y3 a4 l4 y4 a5 l5 y5 c.now) 36 (0,0)))) (fun i _=>l1 - (intOf i).toNat);case atStart=>exact⟨0,by omega,rfl,fun _ _ h=>absurd h af,HB.out,Bk.out⟩
   case round=>
    obtain⟨k,hk,rfl,HQ,HB,Bk⟩:=hrel;by_cases hlt:k<l1
    ·obtain⟨b,o,n,rfl,hb,hx,hat⟩:=cB (HR.n.below HB.out) hlt;obtain⟨va,vl,vc,hvr,z0,z1,c0,c1,c2,c3,c4,c5,c6⟩:=aZ hat;have HXn:=aa hx;clear hat hx z0 z1 hvr;obtain⟨GK,GR,HW⟩:=B7;obtain⟨k0,k1,k2,k3,k4,k5⟩:=sl6 GK;obtain⟨r0,r1,r2,r3,r4,r5⟩:=sl6 GR;have hne0:=Wd.ne (wr.alloc (.cells (nov n va vl vc) 57));have HC:=aa (fun q:Wd (wr.alloc (.cells (nov n va vl vc) 57))=>gY ⟨(some ⟨b,o,none⟩),l1,y1,a2,l2,y2,a3,l3,y3,a4,l4,y4,a5,l5,y5⟩ c.now c.ps n.n q.w (HR.p.below (HW.trans (q.b.mono HW.size))) HL5.out HPC.out);go_wp2_with fail;refine ag aq aq ?_;repeat (go_big_quiet_step (first|(go_at_call 124;exact Calls.wide (HC.out _))|fail))
     refine wpQuiet_nil ?_;rintro _ ⟨q,rfl⟩;have HB2:=upB HW q.b;have Bk2:=upK GK q.b;clear HC hne0 k0 k1 k2 k3 k4 k5 r0 r1 r2 r3 r4 r5 c0 c1 c2 c3 c4 c5 c6 hb HB Bk HW GK GR;have HB:=HB2;have Bk:=Bk2;clear HB2 Bk2;by_cases hq:cpuOf n.n c.ps<=n.c
     ·exact yI
     ·have HQ2:=aa hq;go_wp2;go_ret;exact ar.f (fun h=>by have h1:cpuOf n.n c.ps<=n.c:=(h.2.1 k n HXn.out);have h2:=HQ2.out;omega) HB.out
    ·obtain rfl:l1=k:=af
     have HQ2:Hid (∀(j:Nat) z,c.ns[j]?=some z->PQ2 c z):=fun j z hz=>HQ.out j z c_ hz;clear HQ;have kc:=ck2 Bk;go_wp2;go_loopw [51] (fun i wr=> ∃k:Nat,k<=l3/\i=.int .i64 k/\Hid (∀(j:Nat) z,j<k->c.vs[j]?=some z->PQ3 c z)/\Hid (Below w.heap.size w wr)/\Hid (wr.heap[w.heap.size]?=some (.cells (clo6 a1 l1 y1 a2 l2 y2 a3 l3 y3 a4 l4 y4 a5 l5 y5 c.now) 36 (0,0)))) (fun i _=>l3 - (intOf i).toNat);case atStart=>exact⟨0,by omega,rfl,fun _ _ h=>absurd h af,HB.out,Bk.out⟩
     case round=>
      obtain⟨k,hk,rfl,HQ,HB,Bk⟩:=hrel;by_cases hlt:k<l3
      ·obtain⟨b,o,v,rfl,hb,hx,hat⟩:=bN (HR.v.below HB.out) hlt;obtain⟨va,vl,vc,hvr,z0,z2,z3,z5,c0,c1,c2,c3,c4,c5,c6,c7⟩:=aK hat;have HXv:=aa hx;clear hat hx z0 z2 z3 z5 hvr;have hcase:(v.x=false\/v.m=⟨#[]⟩)\/(v.x=true/\¬v.m=⟨#[]⟩):=by
        rcases G1 v.x with h|h
        ·by_cases e:v.m=⟨#[]⟩
         ·exact .inl (.inr e)
         ·exact .inr ⟨h,e⟩
        ·exact .inl (.inl h)
       rcases hcase with hcase|⟨hs,he⟩
       ·have HCs:=aa hcase;rcases hcase with hs|he
        ·exact xd
        ·have hq:=cV he;clear he;rcases G1 v.x with hs|hs
         ·exact xd
         ·exact xd
       ·have hq:=bc he;have HEm:=aa he;have HSi:=aa hs;rw[hs] at c4;clear he hs;obtain⟨k0,k1,k2,k3,k4,k5⟩:=cs6 Bk;have ltk_0:=ae Bk.out;go_wp2_with fail;refine (zA ⟨a1,l1,y1,a2,l2,y2,(some ⟨b,o,none⟩),l3,y3,a4,l4,y4,a5,l5,y5⟩ c v.m _ (HR.below (HB.trans ((al _ _).mono HB.size)))).mono ?_;rintro e w2 ⟨r,rfl,hi,hb3⟩;clear k0 k1 k2 k3 k4 k5 ltk_0;obtain⟨HA0,hbx⟩:=aL hb3;replace Bk:=upK Bk hbx;have Br:=aa HA0;replace HB:=upB HB hbx;clear hb3 hbx HA0;have HI:=aa hi;clear hi hb c0 c1 c2 c3 c4 c5 c6 c7;cases r
        ·go_wp2;go_ret;exact ar.f (fun h=>by have:=HI.2 ((h.2.2 k v HXv.out) HSi.out HEm.out);cases this) HB.out
        ·go_wp2_with fail;refine⟨⟨k+1,by omega,by go_num,fun j z hj hz=>?_,HB.out,Bk.out⟩,by simp[intOf];omega⟩;by_cases e:j=k
         ·subst e;rw[HXv.out] at hz;obtain rfl:=Fq hz;exact fun _ _=>HI.1 cr
         ·exact HQ.out j z af hz
      ·obtain rfl:l3=k:=af
       have HQ3:Hid (∀(j:Nat) z,c.vs[j]?=some z->PQ3 c z):=fun j z hz=>HQ.out j z c_ hz;clear HQ;go_wp2;go_ret;exact ar.t ⟨HQ1.out,HQ2.out,HQ3.out⟩ HB.out

theorem kK (d:Ad) (c:Cl) (w:World) (hr:aJ w d c.raw) (hn:aP Nd.n c.ns) (hvs8:c.vs.length<=8):
  Calls Tryz.prog 119 #[.agg #[.slice d.a1 d.l1 d.c1,.slice d.a2 d.l2 d.c2,.slice d.a3 d.l3 d.c3,.slice d.a4 d.l4 d.c4,.slice d.a5 d.l5 d.c5,.int .i64 c.now]] w (ar (lK c) w):=by
 obtain⟨a1,l1,y1,a2,l2,y2,a3,l3,y3,a4,l4,y4,a5,l5,y5⟩:=d;dsimp only;obtain⟨HR,hl1,hm1,hl3⟩:=nO;have hm3:l3<=9223372036854775807:=FA hr.v.2.1 hr.v.2.2.1;clear hr;have HNR:=aa hn;have HL3:=aa hvs8;clear hn hvs8;go_enter Tryz.func119,Tryz.ntmps119;go_wp2;go_loopw [14] (fun i wr=> ∃k:Nat,k<=l3/\i=.int .i64 k/\Hid (∀(j:Nat) z,j<k->c.vs[j]?=some z->AQ1 c z)/\Hid (Below w.heap.size w wr)/\Hid (wr.heap[w.heap.size]?=some (.cells (clo6 a1 l1 y1 a2 l2 y2 a3 l3 y3 a4 l4 y4 a5 l5 y5 c.now) 36 (0,0)))) (fun i _=>l3 - (intOf i).toNat);case atStart=>exact⟨0,by omega,rfl,fun _ _ h=>absurd h af,al _ _,FD⟩
 case round=>
  obtain⟨k,hk,rfl,HQ,HB,Bk⟩:=hrel;by_cases hlt:k<l3
  ·obtain⟨b,o,v,rfl,hb,hx,hat⟩:=bN (HR.v.below HB.out) hlt;obtain⟨va,vl,vc,hvr,z0,z2,z3,z5,c0,c1,c2,c3,c4,c5,c6,c7⟩:=aK hat;have HXv:=aa hx;have HTv:=aa hvr;clear hat hx z0 z2 z3 z5 hvr;have hvl:=HTv.1;have hvc:=FA HTv.2.1 HTv.2.2.1;have HVL:=aa hvl;clear hvl;have KV:=aa ((Fy wr (.cells (vov v va vl vc) 99) _ (ae Bk.out)).trans Bk.out);obtain⟨GV,BV⟩:=BO;have TV:=aa (HTv.below (al wr (.cells (vov v va vl vc) 99)));obtain⟨W,hW⟩:∃W,W=wr.alloc (.cells (vov v va vl vc) 99):=⟨_,rfl⟩;obtain⟨gb,hgb⟩:∃gb,gb=wr.heap.size:=⟨_,rfl⟩;rw[<-hW] at KV GV BV TV;rw[<-hgb] at GV;go_wp2;rw[<-hW,<-hgb];clear hW hgb HB Bk HTv c0 c1 c2 c3 c4 c5 c6 c7 hb;go_loopw [21] (fun i wr=> ∃kq:Nat,kq<=vl/\i=.int .i64 kq/\Hid (∀(j:Nat) t,j<kq->v.zs[j]?=some t->∃(i:Nat) (n:Nd),c.ns[i]?=some n/\n.n=t/\n.z=v.z)/\Hid (Below W.heap.size W wr)) (fun i _=>vl - (intOf i).toNat);case atStart=>exact⟨0,by omega,rfl,fun _ _ h=>absurd h af,Fw _ _⟩
   case round=>
    obtain⟨kq,hkq,rfl,HQ2,HBW⟩:=hrel;obtain⟨HB,Bk⟩:=nG;have Bv:=upK GV HBW.out;by_cases hlt2:kq<vl
    ·obtain⟨b2,o2,t,rfl,hb,hx,hc,hsz⟩:=(TV.below HBW.out).at hlt2;have HXt:=aa hx;clear hx hsz;obtain⟨k0,k1,k2,k3,k4,k5⟩:=cs6 Bk;obtain⟨v0,v1,v2,v3,v4,v5,v6,v7⟩:=cs8 Bv;go_wp2_with fail;refine (ig ⟨a1,l1,y1,a2,l2,y2,(some ⟨b,o,none⟩),l3,y3,a4,l4,y4,a5,l5,y5⟩ c.now c.ns t w _ HR.n HB.out).mono ?_;rintro e w1 ⟨hb2,hf⟩;have HBW1:=upB HBW hb2;clear k0 k1 k2 k3 k4 k5 v0 v1 v2 v3 v4 v5 v6 v7;replace Bk:=upK Bk hb2;replace Bv:=upK Bv hb2;replace HB:=upB HB hb2;clear hb2;clear hb hc;rcases hf with ⟨hh,m,ma,ml,mc,hx,hn,rfl,z0,z1,hmr⟩|⟨hh,rfl⟩;rotate_left
     ·have HH:=aa hh;clear hh;obtain⟨k0,k1,k2,k3,k4,k5⟩:=cs6 Bk;obtain⟨v0,v1,v2,v3,v4,v5,v6,v7⟩:=cs8 Bv;have ltv_1:=ae Bv.out;go_wp2;go_ret;refine ar.f (fun h=>?_) (HB.alloc HB.size _);obtain⟨i,m,e1,e2,_⟩:=(h.1 k v HXv.out) kq t HXt.out;have:=(cN HNR.out e1 e2).2;rw[HH.out] at this;cases this
     have HXm:=aa hx;have HNm:=aa hn;clear hx hn hh z0 z1 hmr;by_cases hz:m.z=v.z
     ·have q1:=a9 hz;have HZ:=aa hz;clear hz;obtain⟨k0,k1,k2,k3,k4,k5⟩:=cs6 Bk;obtain⟨v0,v1,v2,v3,v4,v5,v6,v7⟩:=cs8 Bv;have ltv_1:=ae Bv.out;go_wp2_with fail;refine⟨⟨kq+1,by omega,by go_num,fun j s hj hs=>?_,HBW1.alloc HBW1.size _⟩,by simp[intOf];omega⟩;by_cases e:j=kq
      ·subst e;rw[HXt.out] at hs;obtain rfl:=Fq hs;exact⟨_,m,HXm.out,HNm.out,HZ.out⟩
      ·exact HQ2.out j s af hs
     ·have q1:=bC hz;have HZ:=aa hz;clear hz;obtain⟨k0,k1,k2,k3,k4,k5⟩:=cs6 Bk;obtain⟨v0,v1,v2,v3,v4,v5,v6,v7⟩:=cs8 Bv;have ltv_1:=ae Bv.out;go_wp2;go_ret;refine ar.f (fun h=>?_) (HB.alloc HB.size _);obtain⟨i,m2,e1,e2,e3⟩:=(h.1 k v HXv.out) kq t HXt.out;obtain⟨_,rfl⟩:=HNR.inj e1 HXm.out (e2.trans HNm.symm);exact HZ.out e3
    ·exact CE
  ·obtain rfl:l3=k:=af
   have HQ1:Hid (∀(j:Nat) z,c.vs[j]?=some z->AQ1 c z):=fun j z hz=>HQ.out j z c_ hz;clear HQ;have kc:=ck0 Bk;go_wp2;go_loopw [45] (fun i wr=> ∃k:Nat,k<=l1/\i=.int .i64 k/\Hid (∀(j:Nat) z,j<k->c.ns[j]?=some z->AQ2 c z)/\Hid (Below w.heap.size w wr)/\Hid (wr.heap[w.heap.size]?=some (.cells (clo6 a1 l1 y1 a2 l2 y2 a3 l3 y3 a4 l4 y4 a5 l5 y5 c.now) 36 (0,0)))) (fun i _=>l1 - (intOf i).toNat);case atStart=>exact⟨0,by omega,rfl,fun _ _ h=>absurd h af,HB.out,Bk.out⟩
   case round=>
    obtain⟨k,hk,rfl,HQ,HB,Bk⟩:=hrel;by_cases hlt:k<l1
    ·obtain⟨b,o,n,rfl,hb,hx,hat⟩:=cB (HR.n.below HB.out) hlt;obtain⟨va,vl,vc,hvr,z0,z1,c0,c1,c2,c3,c4,c5,c6⟩:=aZ hat;have HXn:=aa hx;clear hat hx z0 z1 hvr;obtain⟨GK,GR,HW⟩:=B7;obtain⟨k0,k1,k2,k3,k4,k5⟩:=sl6 GK;have r0:=fun q:Wd (wr.alloc (.cells (nov n va vl vc) 57))=>q.slot (o:=0) GR.out rfl;have r3:=fun q:Wd (wr.alloc (.cells (nov n va vl vc) 57))=>q.slot (o:=3) GR.out rfl;have hne0:=Wd.ne (wr.alloc (.cells (nov n va vl vc) 57));have HC:=aa (fun q:Wd (wr.alloc (.cells (nov n va vl vc) 57))=>kg ⟨(some ⟨b,o,none⟩),l1,y1,a2,l2,y2,a3,l3,y3,a4,l4,y4,a5,l5,y5⟩ c.now c.vs n.n q.w (HR.v.below (HW.trans (q.b.mono HW.size))) HL3.out);go_wp2_with fail;refine ag aq aq ?_;repeat (go_big_quiet_step (first|(go_at_call 159;exact Calls.wide (HC.out _))|fail))
     refine wpQuiet_nil ?_;rintro _ ⟨q,rfl⟩;have HB2:=upB HW q.b;have Bk2:=upK GK q.b;clear HC hne0 k0 k1 k2 k3 k4 k5 r0 r3 c0 c1 c2 c3 c4 c5 c6 hb HB Bk HW GK GR;have HB:=HB2;have Bk:=Bk2;clear HB2 Bk2;by_cases hq:onOf n.n c.vs<=n.s
     ·exact yI
     ·have HQ2:=aa hq;go_wp2;go_ret;exact ar.f (fun h=>by have h1:onOf n.n c.vs<=n.s:=(h.2 k n HXn.out);have h2:=HQ2.out;omega) HB.out
    ·obtain rfl:l1=k:=af
     have HQ2:Hid (∀(j:Nat) z,c.ns[j]?=some z->AQ2 c z):=fun j z hz=>HQ.out j z c_ hz;exact me

theorem mz (d:Ad) (c:Cl) (w:World) (hr:aJ w d c.raw) (hn:aP Nd.n c.ns) (hx:aP Xd.n c.xs) (hv:aP Vd.n c.vs) (hne:∀(j:Nat) v,c.vs[j]?=some v->¬v.n=⟨#[]⟩):
  Calls Tryz.prog 120 #[.agg #[.slice d.a1 d.l1 d.c1,.slice d.a2 d.l2 d.c2,.slice d.a3 d.l3 d.c3,.slice d.a4 d.l4 d.c4,.slice d.a5 d.l5 d.c5,.int .i64 c.now]] w (ar (kv c) w):=by
 obtain⟨a1,l1,y1,a2,l2,y2,a3,l3,y3,a4,l4,y4,a5,l5,y5⟩:=d;dsimp only;have HR:=aa hr;have hl1:c.ns.length=l1:=sh
 have hm1:l1<=9223372036854775807:=FA hr.n.2.1 hr.n.2.2.1;obtain⟨hl5,hm5⟩:=jN;clear hr;have HNR:=aa hn;have HXR:=aa hx;have HVR:=aa hv;have HNE:=aa hne;clear hn hx hv hne;go_enter Tryz.func120,Tryz.ntmps120;go_wp2;go_loopw [10] (fun i wr=> ∃k:Nat,k<=l1/\i=.int .i64 k/\Hid (∀(j:Nat) z,j<k->c.ns[j]?=some z->ue c z)/\Hid (Below w.heap.size w wr)/\Hid (wr.heap[w.heap.size]?=some (.cells (clo6 a1 l1 y1 a2 l2 y2 a3 l3 y3 a4 l4 y4 a5 l5 y5 c.now) 36 (0,0)))) (fun i _=>l1 - (intOf i).toNat);case atStart=>exact⟨0,by omega,rfl,fun _ _ h=>absurd h af,al _ _,FD⟩
 case round=>
  obtain⟨k,hk,rfl,HQ,HB,Bk⟩:=hrel;by_cases hlt:k<l1
  ·obtain⟨b,o,n,rfl,hb,hx,hat⟩:=cB (HR.n.below HB.out) hlt;obtain⟨va,vl,vc,hvr,z0,z1,c0,c1,c2,c3,c4,c5,c6⟩:=aZ hat;have HXn:=aa hx;have HTn:=aa hvr;clear hat hx z0 z1 hvr;obtain⟨k0,k1,k2,k3,k4,k5⟩:=cs6 Bk;have ltk_0:=ae Bk.out;go_wp2_with fail;refine (zB ⟨(some ⟨b,o,none⟩),l1,y1,a2,l2,y2,a3,l3,y3,a4,l4,y4,a5,l5,y5⟩ c n va vl vc _ (HR.below (HB.trans ((al _ _).mono HB.size))) HVR.out (HTn.below (al _ _))).mono ?_;rintro e w2 ⟨r,rfl,hi,hb3⟩;clear k0 k1 k2 k3 k4 k5 ltk_0;obtain⟨HA0,hbx⟩:=aL hb3;replace Bk:=upK Bk hbx;replace HB:=upB HB hbx;clear hb3 hbx HA0;have HI:=aa hi;clear hi hb c0 c1 c2 c3 c4 c5 c6;cases r
   ·go_wp2;go_ret;exact ar.f (fun h=>by have:=HI.2 (h.1 k n HXn.out);cases this) HB.out
   ·go_wp2_with fail;refine⟨⟨k+1,by omega,by go_num,fun j z hj hz=>?_,HB.out,Bk.out⟩,by simp[intOf];omega⟩;by_cases e:j=k
    ·subst e;rw[HXn.out] at hz;obtain rfl:=Fq hz;exact HI.1 cr
    ·exact HQ.out j z af hz
  ·obtain rfl:l1=k:=af
   have HQ1:Hid (∀(j:Nat) z,c.ns[j]?=some z->ue c z):=fun j z hz=>HQ.out j z c_ hz;clear HQ;have kc:=ck4 Bk;go_wp2;go_loopw [22] (fun i wr=> ∃k:Nat,k<=l5/\i=.int .i64 k/\Hid (∀(j:Nat) z,j<k->c.ps[j]?=some z->MQ2 c z)/\Hid (Below w.heap.size w wr)/\Hid (wr.heap[w.heap.size]?=some (.cells (clo6 a1 l1 y1 a2 l2 y2 a3 l3 y3 a4 l4 y4 a5 l5 y5 c.now) 36 (0,0)))) (fun i _=>l5 - (intOf i).toNat);case atStart=>exact⟨0,by omega,rfl,fun _ _ h=>absurd h af,HB.out,Bk.out⟩
   case round=>
    obtain⟨k,hk,rfl,HQ,HB,Bk⟩:=hrel;by_cases hlt:k<l5
    ·obtain⟨b,o,p,rfl,hb,hx,hat⟩:=bY (HR.p.below HB.out) hlt;obtain⟨va,vl,vc,hvr,z0,z2,z4,c0,c1,c2,c3,c4,c5⟩:=aT hat;have HXp:=aa hx;have HTp:=aa hvr;clear hat hx z0 z2 z4 hvr;by_cases hp2:p.p=2;rotate_left
     ·have HP2:=aa hp2;obtain⟨k0,k1,k2,k3,k4,k5⟩:=cs6 Bk;have ltk_0:=ae Bk.out;go_wp2;refine⟨⟨k+1,by omega,by go_num,fun j z hj hz=>?_,(HB.alloc HB.size _),(Fy _ _ _ (ae Bk.out)).trans Bk.out⟩,by simp[intOf];omega⟩;exact yj
     have HP2:=aa hp2;rw[hp2] at c5;clear hp2;obtain⟨k0,k1,k2,k3,k4,k5⟩:=cs6 Bk;have ltk_0:=ae Bk.out;go_wp2_with fail;have HCall:=aa (zw ⟨a1,l1,y1,a2,l2,y2,a3,l3,y3,a4,l4,y4,(some ⟨b,o,none⟩),l5,y5⟩ c p va vl vc (wr.alloc (.cells #[.string p.n,.int .i64 p.c,.string p.z,.slice va vl vc,.string p.d,.int .i64 2] 64)) (HR.below (HB.trans ((al _ _).mono HB.size))) HNR.out HXR.out HVR.out HNE.out (HTp.below (al _ _)));rw[HP2.out] at HCall;refine (HCall.out).mono ?_;rintro e w2 ⟨r,rfl,hi,hb3⟩;clear k0 k1 k2 k3 k4 k5 ltk_0;obtain⟨HA0,hbx⟩:=aL hb3;replace Bk:=upK Bk hbx;replace HB:=upB HB hbx;clear hb3 hbx HA0;have HI:=aa hi;clear hi hb HCall c0 c1 c2 c3 c4 c5;cases r
     ·go_wp2;go_ret;exact ar.f (fun h=>by have:=HI.2 ((h.2 k p HXp.out) HP2.out);cases this) HB.out
     ·go_wp2_with fail;refine⟨⟨k+1,by omega,by go_num,fun j z hj hz=>?_,HB.out,Bk.out⟩,by simp[intOf];omega⟩;by_cases e:j=k
      ·subst e;rw[HXp.out] at hz;obtain rfl:=Fq hz;exact fun _=>HI.1 cr
      ·exact HQ.out j z af hz
    ·obtain rfl:l5=k:=af
     have HQ2:Hid (∀(j:Nat) z,c.ps[j]?=some z->MQ2 c z):=fun j z hz=>HQ.out j z c_ hz;exact me

theorem tJ (d:Ad) (c:Cl) (w:World) (hr:aJ w d c.raw):
  Calls Tryz.prog 116 #[.agg #[.slice d.a1 d.l1 d.c1,.slice d.a2 d.l2 d.c2,.slice d.a3 d.l3 d.c3,.slice d.a4 d.l4 d.c4,.slice d.a5 d.l5 d.c5,.int .i64 c.now]] w (ar (cX c) w):=by
 obtain⟨HR,HB⟩:=gK;clear hr;go_enter Tryz.func116,Tryz.ntmps116;go_wp2_with fail;refine (pK _ _ _ c.ns 6 _ (HR.n.below (HB.trans ((al _ _).mono HB.size)))).mono ?_;rintro e w1 ⟨r,rfl,hi,hb⟩;obtain⟨HA0,hbx⟩:=aL hb;have Bk:=aa HA0;replace HB:=upB HB hbx;clear hb hbx HA0;have HI1:=aa hi;clear hi;cases r
 ·exact qG
 obtain⟨k0,k1,k2,k3,k4,k5⟩:=cs6 Bk;go_wp2_with fail;refine (pL _ _ _ c.ks 8 _ (HR.k.below HB.out)).mono ?_;rintro e w2 ⟨r,rfl,hi,hb⟩;clear k0 k1 k2 k3 k4 k5;replace Bk:=upK Bk hb;replace HB:=upB HB hb;clear hb;have HI2:=aa hi;clear hi;cases r
 ·exact qI
 obtain⟨k0,k1,k2,k3,k4,k5⟩:=cs6 Bk;go_wp2_with fail;refine (pI _ _ _ c.vs 8 _ (HR.v.below HB.out)).mono ?_;rintro e w3 ⟨r,rfl,hi,hb⟩;clear k0 k1 k2 k3 k4 k5;replace Bk:=upK Bk hb;replace HB:=upB HB hb;clear hb;have HI3:=aa hi;clear hi;cases r
 ·exact xY
 obtain⟨k0,k1,k2,k3,k4,k5⟩:=cs6 Bk;go_wp2_with fail;refine (pH _ _ _ c.xs 8 _ (HR.x.below HB.out)).mono ?_;rintro e w4 ⟨r,rfl,hi,hb⟩;clear k0 k1 k2 k3 k4 k5;replace Bk:=upK Bk hb;replace HB:=upB HB hb;clear hb;have HI4:=aa hi;clear hi;cases r
 ·exact yb
 obtain⟨k0,k1,k2,k3,k4,k5⟩:=cs6 Bk;go_wp2_with fail;refine (pJ _ _ _ c.ps 8 _ (HR.p.below HB.out)).mono ?_;rintro e w5 ⟨r,rfl,hi,hb⟩;clear k0 k1 k2 k3 k4 k5;replace Bk:=upK Bk hb;replace HB:=upB HB hb;clear hb;have HI5:=aa hi;clear hi;cases r
 ·obtain⟨k0,k1,k2,k3,k4,k5⟩:=cs6 Bk;go_wp2;go_ret;exact ar.f (fun h=>by have:=HI5.2 h.2.2.2.2;cases this) HB.out
 go_wp2;go_ret;exact ar.t ⟨HI1.1 cr,HI2.1 cr,HI3.1 cr,HI4.1 cr,HI5.1 cr⟩ HB.out

theorem rp (d:Ad) (c:Cl) (w:World) (hr:aJ w d c.raw) (hG:ens w):
  Calls Tryz.prog 88 #[.agg #[.slice d.a1 d.l1 d.c1,.slice d.a2 d.l2 d.c2,.slice d.a3 d.l3 d.c3,.slice d.a4 d.l4 d.c4,.slice d.a5 d.l5 d.c5,.int .i64 c.now]] w (ar (aB c) w):=by
 obtain⟨HR,HE,HB⟩:=k_;clear hr hG;go_enter Tryz.func88,Tryz.ntmps88;go_wp2_with fail;refine (cd c.now 0 1000000 _).mono ?_;rintro e w1 ⟨r,rfl,hi,hw⟩;have hb:Below (w.alloc (.cells (clv d c.now) 36)).heap.size (w.alloc (.cells (clv d c.now) 36)) w1:=by first|(rw[hw];exact Fw _ _)|(rw[<-hw];exact Fw _ _)
 clear hw;obtain⟨HA0,hbx⟩:=aL hb;have Bk:=aa HA0;replace HB:=upB HB hbx;clear hb hbx HA0;have HI1:=aa hi;clear hi;cases r
 ·exact qG
 obtain⟨k0,k1,k2,k3,k4,k5⟩:=cs6 Bk;go_wp2_with fail;refine (tJ d c _ (HR.below HB.out)).mono ?_;rintro e w2 ⟨r,rfl,hi,hb⟩;clear k0 k1 k2 k3 k4 k5;replace Bk:=upK Bk hb;replace HB:=upB HB hb;clear hb;have HI2:=aa hi;clear hi;cases r
 ·exact qI
 have HOK:=aa (HI2.1 cr);obtain⟨k0,k1,k2,k3,k4,k5⟩:=cs6 Bk;go_wp2_with fail;refine (rB d c _ (HR.below HB.out) HOK.2.2.2.1.2.2 HOK.2.2.1.2.2 (HE.below HB.out)).mono ?_;rintro e w3 ⟨r,rfl,hi,hb⟩;clear k0 k1 k2 k3 k4 k5;replace Bk:=upK Bk hb;replace HB:=upB HB hb;clear hb;have HI3:=aa hi;clear hi;cases r
 ·exact xY
 obtain⟨k0,k1,k2,k3,k4,k5⟩:=cs6 Bk;go_wp2_with fail;refine (oM d c _ (HR.below HB.out) HOK.1.2.2 HOK.2.2.2.1.2.2 HOK.2.2.1.2.2 HOK.ne (by have:=HOK.2.2.2.2.1;omega) HOK.EP (HE.below HB.out)).mono ?_;rintro e w4 ⟨r,rfl,hi,hb⟩;clear k0 k1 k2 k3 k4 k5;replace Bk:=upK Bk hb;replace HB:=upB HB hb;clear hb;have HI4:=aa hi;clear hi;cases r
 ·exact yb
 obtain⟨k0,k1,k2,k3,k4,k5⟩:=cs6 Bk;go_wp2_with fail;refine (kK d c _ (HR.below HB.out) HOK.1.2.2 (by have:=HOK.2.2.1.1;omega)).mono ?_;rintro e w5 ⟨r,rfl,hi,hb⟩;clear k0 k1 k2 k3 k4 k5;replace Bk:=upK Bk hb;replace HB:=upB HB hb;clear hb;have HI5:=aa hi;clear hi;cases r
 ·exact yf
 obtain⟨k0,k1,k2,k3,k4,k5⟩:=cs6 Bk;go_wp2_with fail;refine (mz d c _ (HR.below HB.out) HOK.1.2.2 HOK.2.2.2.1.2.2 HOK.2.2.1.2.2 HOK.ne).mono ?_;rintro e w6 ⟨r,rfl,hi,hb⟩;clear k0 k1 k2 k3 k4 k5;replace Bk:=upK Bk hb;replace HB:=upB HB hb;clear hb;have HI6:=aa hi;clear hi;cases r
 ·exact yd
 go_wp2;go_ret;exact ar.t ⟨HI1.1 cr,HI2.1 cr,HI3.1 cr,HI4.1 cr,HI5.1 cr,HI6.1 cr⟩ HB.out

end Rc
end Go.Proofs.YtpejepeekdjfoaaGreatDoor

namespace Go.Proofs.YtpejepeekdjfoaaGreatDoor
open Go.RowKit Go.Extern.Stop Go.Stop Go.Extern
namespace Rc

structure Ers (w:World) (E:Nat->Addr):Prop where
 v0:w.cell? ⟨2,0,none⟩=some (.iface 266 (.pointer (some (E 0))))
 v1:w.cell? ⟨3,0,none⟩=some (.iface 266 (.pointer (some (E 1))))
 v2:w.cell? ⟨4,0,none⟩=some (.iface 266 (.pointer (some (E 2))))
 v3:w.cell? ⟨6,0,none⟩=some (.iface 266 (.pointer (some (E 3))))
 v4:w.cell? ⟨8,0,none⟩=some (.iface 266 (.pointer (some (E 4))))
 v5:w.cell? ⟨9,0,none⟩=some (.iface 266 (.pointer (some (E 5))))
 v6:w.cell? ⟨7,0,none⟩=some (.iface 266 (.pointer (some (E 6))))
 v7:w.cell? ⟨1,0,none⟩=some (.iface 266 (.pointer (some (E 7))))
 v8:w.cell? ⟨0,0,none⟩=some (.iface 266 (.pointer (some (E 8))))
 v9:w.cell? ⟨5,0,none⟩=some (.iface 266 (.pointer (some (E 9))))
 blk:∀i,i<10->∃cs T,w.heap[(E i).block]?=some (.cells cs T (0,0))
 inj:∀i j,i<10->j<10->E i=E j->i=j
theorem Ers.below {w w':World} {E:Nat->Addr} (h:Ers w E) (hb:Below w.heap.size w w'):Ers w' E:=
 ⟨(ak hb (bg h.v0)).trans h.v0,(ak hb (bg h.v1)).trans h.v1,(ak hb (bg h.v2)).trans h.v2,(ak hb (bg h.v3)).trans h.v3,(ak hb (bg h.v4)).trans h.v4,(ak hb (bg h.v5)).trans h.v5,(ak hb (bg h.v6)).trans h.v6,(ak hb (bg h.v7)).trans h.v7,(ak hb (bg h.v8)).trans h.v8,(ak hb (bg h.v9)).trans h.v9,fun i hi=>by
  obtain⟨cs,T,h1⟩:=h.blk i hi;exact⟨cs,T,(hb.block _ (ae h1)).trans h1⟩,h.inj⟩
theorem Ers.ens {w:World} {E:Nat->Addr} (h:Ers w E):ens w:=⟨_,_,h.v2⟩

theorem zt (v:Value) (w:World):(Extern.ReflectliteType.typeOf #[.iface 266 v]).run Tryz.prog w=.ok (.iface 223 (.agg #[.pointer (some ⟨10,266,none⟩)])) w:=by kernel_rfl
def Er:Array Value->Sem Value:=Extern.ReflectliteType.method fun t=>do Rtype.noPackHeld "Comparable" t;pure (.bool (<-typeInfo t).comparable)
theorem mu (w:World):(Er #[.agg #[.pointer (some ⟨10,266,none⟩)]]).run Tryz.prog w=.ok (.bool true) w:=by kernel_rfl
theorem gh (v:Value) (w:World):(Go.method 416 223 v "Comparable").run Tryz.prog w=.ok (288,v) w:=by kernel_rfl
theorem zv:(Tryz.prog.info? 266).map (·.comparable)=some true:=by kernel_rfl
theorem zu:(Tryz.prog.info? 304).map (·.size)=some 1:=by kernel_rfl
theorem Eg (v:Value) (xT:TypeId) (w:World):(GQ (.iface 266 v) xT 225 true).run Tryz.prog w=.ok (.tuple #[.nilIface,.bool false]) w:=run_typeAssert_lacksB Tryz.underlying225 (by kernel_rfl) (by kernel_rfl) v xT w
theorem tu (v:Value) (xT:TypeId) (w:World):(GQ (.iface 266 v) xT 228 true).run Tryz.prog w=.ok (.tuple #[.nilIface,.bool false]) w:=run_typeAssert_lacksB Tryz.underlying228 (by kernel_rfl) (by kernel_rfl) v xT w
theorem qR (v:Value) (xT:TypeId) (w:World):(GQ (.iface 266 v) xT 230 true).run Tryz.prog w=.ok (.tuple #[.nilIface,.bool false]) w:=run_typeAssert_lacksB Tryz.underlying230 (by kernel_rfl) (by kernel_rfl) v xT w

theorem en (a:Addr) (w:World)  :
  Calls Tryz.prog 98 #[.iface 266 (.pointer (some (a))),.iface 266 (.pointer (some (a)))] w fun e w'=>e=.returned (.bool true)/\w'=w:=by
 obtain⟨i,hi,hcmp⟩:=FJ.1 zv;obtain⟨j,hj,hjs⟩:=FJ.1 zu;obtain⟨h8,h32,tT,cT,mR⟩:=B6;have heq:=run_eql_iface_ptr_same (P:=Tryz.prog) w a Tryz.underlying68 Tryz.underlying266 hi hcmp hj;exact xV

theorem zr (a b:Addr) (ca cb:Array Value) (ta tb:TypeId) (w:World) (hne:a≠b) (ha:w.heap[a.block]?=some (.cells ca ta (0,0))) (hb:w.heap[b.block]?=some (.cells cb tb (0,0))):
  Calls Tryz.prog 98 #[.iface 266 (.pointer (some (a))),.iface 266 (.pointer (some (b)))] w fun e w'=>e=.returned (.bool false)/\w'=w:=by
 obtain⟨i,hi,hcmp⟩:=FJ.1 zv;obtain⟨j,hj,hjs⟩:=FJ.1 zu;obtain⟨h8,h32,tT,cT,mR⟩:=B6;have nE:=Eg;have uE:=tu;have vE:=qR;have heq:=run_eql_iface_ptr_other (P:=Tryz.prog) w Tryz.underlying68 Tryz.underlying266 hi hcmp hj (by rw[hjs];decide) hne ha hb;exact xV

theorem aG {w:World} {E:Nat->Addr} (h:Ers w E) (i j:Nat) (hi:i<10) (hj:j<10) (hne:¬i=j):
  Calls Tryz.prog 98 #[.iface 266 (.pointer (some (E i))),.iface 266 (.pointer (some (E j)))] w fun e w'=>e=.returned (.bool false)/\w'=w:=by
 obtain⟨ca,ta,h1⟩:=h.blk i hi;obtain⟨cb,tb,h2⟩:=h.blk j hj;exact zr (E i) (E j) ca cb ta tb w (fun e=>hne (h.inj i j hi hj e)) h1 h2

theorem EZ (E:Nat->Addr) (w:World) (h:Ers w E):Calls Tryz.prog 61 #[.iface 266 (.pointer (some (E 0)))] w fun e w'=>e=.returned (.int .i64 2)/\w'=w:=by
 obtain⟨HE,v0,v1,v2,v3,v4,v5,v6,v7,v8,v9⟩:=gM;clear h;go_enter Tryz.func61,Tryz.ntmps61;go_wp2_with fail;refine (en (E 0) _).mono ?_;exact gN

theorem EY (E:Nat->Addr) (w:World) (h:Ers w E):Calls Tryz.prog 61 #[.iface 266 (.pointer (some (E 1)))] w fun e w'=>e=.returned (.int .i64 1)/\w'=w:=by
 obtain⟨HE,v0,v1,v2,v3,v4,v5,v6,v7,v8,v9⟩:=gM;clear h;go_enter Tryz.func61,Tryz.ntmps61;go_wp2_with fail;refine (aG HE.out 1 0 aj aj aj).mono ?_;rintro e w' ⟨rfl,rfl⟩;go_wp2_with fail;refine (aG HE.out 1 9 aj aj aj).mono ?_;rintro e w' ⟨rfl,rfl⟩;go_wp2_with fail;refine (aG HE.out 1 2 aj aj aj).mono ?_;rintro e w' ⟨rfl,rfl⟩;go_wp2_with fail;refine (aG HE.out 1 3 aj aj aj).mono ?_;rintro e w' ⟨rfl,rfl⟩;go_wp2_with fail;refine (aG HE.out 1 6 aj aj aj).mono ?_;rintro e w' ⟨rfl,rfl⟩;go_wp2_with fail;refine (aG HE.out 1 4 aj aj aj).mono ?_;rintro e w' ⟨rfl,rfl⟩;go_wp2_with fail;refine (aG HE.out 1 5 aj aj aj).mono ?_;rintro e w' ⟨rfl,rfl⟩;go_wp2_with fail;refine (aG HE.out 1 7 aj aj aj).mono ?_;rintro e w' ⟨rfl,rfl⟩;go_wp2_with fail;refine (aG HE.out 1 8 aj aj aj).mono ?_;exact gN

theorem EX (E:Nat->Addr) (w:World) (h:Ers w E):Calls Tryz.prog 61 #[.iface 266 (.pointer (some (E 2)))] w fun e w'=>e=.returned (.int .i64 6)/\w'=w:=by
 obtain⟨HE,v0,v1,v2,v3,v4,v5,v6,v7,v8,v9⟩:=gM;clear h;go_enter Tryz.func61,Tryz.ntmps61;go_wp2_with fail;refine (aG HE.out 2 0 aj aj aj).mono ?_;rintro e w' ⟨rfl,rfl⟩;go_wp2_with fail;refine (aG HE.out 2 9 aj aj aj).mono ?_;rintro e w' ⟨rfl,rfl⟩;go_wp2_with fail;refine (en (E 2) _).mono ?_;exact gN

theorem EW (E:Nat->Addr) (w:World) (h:Ers w E):Calls Tryz.prog 61 #[.iface 266 (.pointer (some (E 3)))] w fun e w'=>e=.returned (.int .i64 7)/\w'=w:=by
 obtain⟨HE,v0,v1,v2,v3,v4,v5,v6,v7,v8,v9⟩:=gM;clear h;go_enter Tryz.func61,Tryz.ntmps61;go_wp2_with fail;refine (aG HE.out 3 0 aj aj aj).mono ?_;rintro e w' ⟨rfl,rfl⟩;go_wp2_with fail;refine (aG HE.out 3 9 aj aj aj).mono ?_;rintro e w' ⟨rfl,rfl⟩;go_wp2_with fail;refine (aG HE.out 3 2 aj aj aj).mono ?_;rintro e w' ⟨rfl,rfl⟩;go_wp2_with fail;refine (en (E 3) _).mono ?_;exact gN

theorem EV (E:Nat->Addr) (w:World) (h:Ers w E):Calls Tryz.prog 61 #[.iface 266 (.pointer (some (E 4)))] w fun e w'=>e=.returned (.int .i64 9)/\w'=w:=by
 obtain⟨HE,v0,v1,v2,v3,v4,v5,v6,v7,v8,v9⟩:=gM;clear h;go_enter Tryz.func61,Tryz.ntmps61;go_wp2_with fail;refine (aG HE.out 4 0 aj aj aj).mono ?_;rintro e w' ⟨rfl,rfl⟩;go_wp2_with fail;refine (aG HE.out 4 9 aj aj aj).mono ?_;rintro e w' ⟨rfl,rfl⟩;go_wp2_with fail;refine (aG HE.out 4 2 aj aj aj).mono ?_;rintro e w' ⟨rfl,rfl⟩;go_wp2_with fail;refine (aG HE.out 4 3 aj aj aj).mono ?_;rintro e w' ⟨rfl,rfl⟩;go_wp2_with fail;refine (aG HE.out 4 6 aj aj aj).mono ?_;rintro e w' ⟨rfl,rfl⟩;go_wp2_with fail;refine (en (E 4) _).mono ?_;exact gN

theorem EU (E:Nat->Addr) (w:World) (h:Ers w E):Calls Tryz.prog 61 #[.iface 266 (.pointer (some (E 5)))] w fun e w'=>e=.returned (.int .i64 11)/\w'=w:=by
 obtain⟨HE,v0,v1,v2,v3,v4,v5,v6,v7,v8,v9⟩:=gM;clear h;go_enter Tryz.func61,Tryz.ntmps61;go_wp2_with fail;refine (aG HE.out 5 0 aj aj aj).mono ?_;rintro e w' ⟨rfl,rfl⟩;go_wp2_with fail;refine (aG HE.out 5 9 aj aj aj).mono ?_;rintro e w' ⟨rfl,rfl⟩;go_wp2_with fail;refine (aG HE.out 5 2 aj aj aj).mono ?_;rintro e w' ⟨rfl,rfl⟩;go_wp2_with fail;refine (aG HE.out 5 3 aj aj aj).mono ?_;rintro e w' ⟨rfl,rfl⟩;go_wp2_with fail;refine (aG HE.out 5 6 aj aj aj).mono ?_;rintro e w' ⟨rfl,rfl⟩;go_wp2_with fail;refine (aG HE.out 5 4 aj aj aj).mono ?_;rintro e w' ⟨rfl,rfl⟩;go_wp2_with fail;refine (en (E 5) _).mono ?_;exact gN

theorem ET (E:Nat->Addr) (w:World) (h:Ers w E):Calls Tryz.prog 61 #[.iface 266 (.pointer (some (E 6)))] w fun e w'=>e=.returned (.int .i64 7)/\w'=w:=by
 obtain⟨HE,v0,v1,v2,v3,v4,v5,v6,v7,v8,v9⟩:=gM;clear h;go_enter Tryz.func61,Tryz.ntmps61;go_wp2_with fail;refine (aG HE.out 6 0 aj aj aj).mono ?_;rintro e w' ⟨rfl,rfl⟩;go_wp2_with fail;refine (aG HE.out 6 9 aj aj aj).mono ?_;rintro e w' ⟨rfl,rfl⟩;go_wp2_with fail;refine (aG HE.out 6 2 aj aj aj).mono ?_;rintro e w' ⟨rfl,rfl⟩;go_wp2_with fail;refine (aG HE.out 6 3 aj aj aj).mono ?_;rintro e w' ⟨rfl,rfl⟩;go_wp2_with fail;refine (en (E 6) _).mono ?_;exact gN

theorem ES (E:Nat->Addr) (w:World) (h:Ers w E):Calls Tryz.prog 61 #[.iface 266 (.pointer (some (E 7)))] w fun e w'=>e=.returned (.int .i64 11)/\w'=w:=by
 obtain⟨HE,v0,v1,v2,v3,v4,v5,v6,v7,v8,v9⟩:=gM;clear h;go_enter Tryz.func61,Tryz.ntmps61;go_wp2_with fail;refine (aG HE.out 7 0 aj aj aj).mono ?_;rintro e w' ⟨rfl,rfl⟩;go_wp2_with fail;refine (aG HE.out 7 9 aj aj aj).mono ?_;rintro e w' ⟨rfl,rfl⟩;go_wp2_with fail;refine (aG HE.out 7 2 aj aj aj).mono ?_;rintro e w' ⟨rfl,rfl⟩;go_wp2_with fail;refine (aG HE.out 7 3 aj aj aj).mono ?_;rintro e w' ⟨rfl,rfl⟩;go_wp2_with fail;refine (aG HE.out 7 6 aj aj aj).mono ?_;rintro e w' ⟨rfl,rfl⟩;go_wp2_with fail;refine (aG HE.out 7 4 aj aj aj).mono ?_;rintro e w' ⟨rfl,rfl⟩;go_wp2_with fail;refine (aG HE.out 7 5 aj aj aj).mono ?_;rintro e w' ⟨rfl,rfl⟩;go_wp2_with fail;refine (en (E 7) _).mono ?_;exact gN

theorem ER (E:Nat->Addr) (w:World) (h:Ers w E):Calls Tryz.prog 61 #[.iface 266 (.pointer (some (E 8)))] w fun e w'=>e=.returned (.int .i64 10)/\w'=w:=by
 obtain⟨HE,v0,v1,v2,v3,v4,v5,v6,v7,v8,v9⟩:=gM;clear h;go_enter Tryz.func61,Tryz.ntmps61;go_wp2_with fail;refine (aG HE.out 8 0 aj aj aj).mono ?_;rintro e w' ⟨rfl,rfl⟩;go_wp2_with fail;refine (aG HE.out 8 9 aj aj aj).mono ?_;rintro e w' ⟨rfl,rfl⟩;go_wp2_with fail;refine (aG HE.out 8 2 aj aj aj).mono ?_;rintro e w' ⟨rfl,rfl⟩;go_wp2_with fail;refine (aG HE.out 8 3 aj aj aj).mono ?_;rintro e w' ⟨rfl,rfl⟩;go_wp2_with fail;refine (aG HE.out 8 6 aj aj aj).mono ?_;rintro e w' ⟨rfl,rfl⟩;go_wp2_with fail;refine (aG HE.out 8 4 aj aj aj).mono ?_;rintro e w' ⟨rfl,rfl⟩;go_wp2_with fail;refine (aG HE.out 8 5 aj aj aj).mono ?_;rintro e w' ⟨rfl,rfl⟩;go_wp2_with fail;refine (aG HE.out 8 7 aj aj aj).mono ?_;rintro e w' ⟨rfl,rfl⟩;go_wp2_with fail;refine (en (E 8) _).mono ?_;exact gN

theorem mP (E:Nat->Addr) (i:Nat) (w:World) (h:Ers w E) (hi:i<9):Calls Tryz.prog 61 #[.iface 266 (.pointer (some (E i)))] w fun e w'=>e=.returned (.int .i64 (dA i))/\w'=w:=by
 match i,hi with
 | 0,_=>exact EZ E w h
 | 1,_=>exact EY E w h
 | 2,_=>exact EX E w h
 | 3,_=>exact EW E w h
 | 4,_=>exact EV E w h
 | 5,_=>exact EU E w h
 | 6,_=>exact ET E w h
 | 7,_=>exact ES E w h
 | 8,_=>exact ER E w h

theorem ei (E:Nat->Addr) (i:Nat) (cc:Int) (hcc:cc=dA i) (w:World) (h:Ers w E) (hi:i<9):Calls Tryz.prog 30 #[.iface 266 (.pointer (some (E i)))] w fun e w'=>e=.returned (.agg #[.slice none 0 0,.slice none 0 0,.slice none 0 0,.slice none 0 0,.slice none 0 0,.int .i64 0,.string ⟨#[]⟩,.int .i64 cc])/\Below w.heap.size w w':=by
 have HE:=aa (h.below (al w (.cells #[.slice none 0 0,.slice none 0 0,.slice none 0 0,.slice none 0 0,.slice none 0 0,.int .i64 0,.string ⟨#[]⟩,.int .i64 0] 38)));clear h;go_enter Tryz.func30,Tryz.ntmps30;go_wp2_with fail;refine (mP E i _ HE.out hi).mono ?_;rintro e w' ⟨rfl,rfl⟩;rw[<-hcc];clear hcc;go_wp2;exact bodyPost_ret (v:=.agg #[.slice none 0 0,.slice none 0 0,.slice none 0 0,.slice none 0 0,.slice none 0 0,.int .i64 0,.string ⟨#[]⟩,.int .i64 cc]) (by simp[results,Tryz.results30,go_sem]) rfl ⟨rfl,al _ _⟩

end Rc
end Go.Proofs.YtpejepeekdjfoaaGreatDoor

namespace Go.Proofs.YtpejepeekdjfoaaGreatDoor
open Go.RowKit

theorem oD (s:ByteArray) (w:World):
  Calls Tryz.prog 87 #[.string s] w fun e w'=>e=.returned (.bool (decide (8000<s.size)))/\w=w':=by
 go_enter Tryz.func87,Tryz.ntmps87;go_wp2;go_ret;exact⟨by simp;omega,rfl⟩
theorem ke (s:ByteArray) (w:World) (h:8000<s.size):
  Calls Tryz.prog 87 #[.string s] w fun e w'=>e=.returned (.bool true)/\w=w':=by
 have:=oD s w;rw[decide_eq_true h] at this;exact this
theorem jo (s:ByteArray) (w:World) (h:¬8000<s.size):
  Calls Tryz.prog 87 #[.string s] w fun e w'=>e=.returned (.bool false)/\w=w':=by
 have:=oD s w;rw[decide_eq_false h] at this;exact this

end Go.Proofs.YtpejepeekdjfoaaGreatDoor

namespace Go.Proofs.YtpejepeekdjfoaaGreatDoor
open Go.RowKit
namespace Rc
open Mk

def Bm (c:Cl) (t:ByteArray):Prop:=∃(i:Nat) (x:Xd),c.xs[i]?=some x/\x.n=t
theorem Bm.DB {c:Cl} {t:ByteArray} (h:hit Xd.n c.xs t=true):Bm c t:=by
 obtain⟨x,h1,h2⟩:=dq h;exact⟨_,x,h1,h2⟩
def gy (c:Cl) (t:ByteArray):Nat->Prop
 | 0=>8000<t.size
 | 1=>¬8000<t.size/\¬aB c
 | 2=>¬8000<t.size/\aB c/\¬Bm c t
 | _=>False
end Rc
end Go.Proofs.YtpejepeekdjfoaaGreatDoor

namespace Go.Proofs.YtpejepeekdjfoaaGreatDoor
open Go.RowKit
namespace Ap

theorem Dw {w w0:World} {base n:Nat} {v:Value} {zs:List ByteArray} (h:w.ownsRow base 9 1 v n (zs.map FK)) (hb:Below base w0 w) (hB:base=w0.heap.size) (hs:∀(j:Nat) x,zs[j]?=some x->x.size<=9223372036854775807):
  ∃a l c,v=.slice a l c/\bT zs w0 a l c w:=by
 subst hB;obtain⟨hl,h⟩:=h;have hl':zs.length=n:=by simpa using hl
 rcases h with ⟨rfl,rfl⟩|⟨g,cap,cur,rfl,hbg,hg,hnc,hcm,hsz,htk⟩
 ·obtain rfl:zs=[]:=List.eq_nil_of_length_eq_zero hl';exact⟨none,0,0,rfl,⟨rfl,Ft _,by omega,fun j x hx=>by simp at hx,.inl rfl⟩,.inl rfl,hb⟩
 ·refine⟨some ⟨g,0,none⟩,n,cap,rfl,⟨hl',hnc,by unfold maxLen at hcm;omega,hs,.inr ⟨g,0,rfl,ae hg,fun j x hx=>?_⟩⟩,.inr ⟨g,cur,rfl,hbg,hg⟩,hb⟩;exact yK
theorem mj (a:Option Addr) (len cap:Nat) (zs:List ByteArray) (w:World) (hr:ay w a len cap zs) (hl:len<=8001):
  Calls Tryz.prog 99 #[.slice a len cap] w fun e w'=> ∃a' l c,e=.returned (.slice a' l c)/\bT zs w a' l c w':=by
 cases a with
 | none=>
  obtain rfl:zs=[]:=by
   rcases hr.2.2.2.2 with h|⟨b,o,e,_⟩
   ·exact h
   ·cases e
  obtain rfl:len=0:=by have:=hr.1;simpa using this.symm
  clear hr
  go_enter Tryz.func99,Tryz.ntmps99
  go_wp2
  go_ret;exact⟨_,_,_,rfl,⟨rfl,Ft _,by omega,fun j x hx=>by simp at hx,.inl rfl⟩,.inl rfl,Fw _ _⟩
 | some ad=>
  have HN:=aa (sB hr);have HZ:=aa hr.2.2.2.1;have hzl:=hr.1;clear hr;obtain⟨i0,hi,hz0,hz1,hz2⟩:=info_parts fD
  go_enter Tryz.func99,Tryz.ntmps99
  go_wp2_with (first|(at_builtin;refine wpList_append_own _ rfl _ _ 55 rfl w.heap.size 9 i0 (.string ⟨#[]⟩) 1 16 Tryz.underlying55 hi hz0 hz1 hz2 rfl aj _ 0 _ rfl (Gh w w.heap.size 9 1) ad len cap (zs.map FK) rfl ?c1 HN.out ?c3 ?c4 ?c5 (Ft _) ?_))
  case c1=>simpa using hzl
  case c3=>intro u hu;obtain⟨x,_,rfl⟩:=List.mem_map.1 hu;rfl
  case c4=>unfold maxLen;omega
  case c5=>omega
  intro v' w3 hown3 hgrow hv;have HB3:=aa ((Fw w.heap.size w).grown hgrow (Ft _) (fun k hk=>by cases hk));have HO:=aa hown3;clear hown3 hgrow hv
  go_wp2
  go_ret;obtain⟨a',l,c,rfl,h2⟩:=Dw HO.out HB3.out rfl HZ.out;exact⟨a',l,c,rfl,h2⟩

theorem Eo (n:ByteArray) (c:Int) (z:ByteArray) (k:ByteArray) (x:Bool) (m:ByteArray) (y:Bool) (a:Option Addr) (len cap:Nat) (zs:List ByteArray) (w:World) (hr:ay w a len cap zs) (hl:len<=8001):
  Calls Tryz.prog 65 #[.agg #[.string n,.int .i64 c,.string z,.string k,.bool x,.string m,.bool y,.slice a len cap]] w fun e w'=> ∃a' l p,e=.returned (.agg #[.string n,.int .i64 c,.string z,.string k,.bool x,.string m,.bool y,.slice a' l p])/\bT zs w a' l p w':=by
 have HR:=aa (hr.below (aF w (.cells #[.string n,.int .i64 c,.string z,.string k,.bool x,.string m,.bool y,.slice a len cap] 99) (.cells #[.string ⟨#[]⟩,.int .i64 0,.string ⟨#[]⟩,.string ⟨#[]⟩,.bool false,.string ⟨#[]⟩,.bool false,.slice none 0 0] 99)));clear hr;go_enter Tryz.func65,Tryz.ntmps65;go_wp2_with fail;refine (mj a len cap zs _ HR.out hl).mono ?_;rintro e w3 ⟨a',l,p,rfl,h1,h2,hb⟩;obtain⟨g0,g1⟩:=vg;have HQ:Hid (ay w3 a' l p zs/\(zs=[]\/∃g cur,a'=some ⟨g,0,none⟩/\w.heap.size+1+1<=g/\w3.heap[g]?=some (.cells cur 9 (0,0)))/\Below w.heap.size w w3):=⟨h1,by simpa using h2,(aF w _ _).trans (hb.mono bG)⟩;have d0:=ck0 g0;have d1:=ck1 g0;have d2:=ck2 g0;have d3:=ck3 g0;have d4:=ck4 g0;have d5:=ck5 g0;have d6:=ck6 g0;have d7:=ck7 g0;have df7:=av g0 7;have e0:=ck0 g1;have ef0:=av g1 0;have e1:=ck1 g1;have ef1:=av g1 1;have e2:=ck2 g1;have ef2:=av g1 2;have e3:=ck3 g1;have ef3:=av g1 3;have e4:=ck4 g1;have ef4:=av g1 4;have e5:=ck5 g1;have ef5:=av g1 5;have e6:=ck6 g1;have ef6:=av g1 6;have e7:=ck7 g1;have ef7:=av g1 7;have HQ2:=aa (bT.set (bT.set (bT.set (bT.set (bT.set (bT.set (bT.set (bT.set (bT.set HQ.out (b:=w.heap.size) (i:=7) af af (v:=.slice a' l p)) (b:=w.heap.size+1) (i:=0) af af (v:=.string n)) (b:=w.heap.size+1) (i:=1) af af (v:=.int .i64 c)) (b:=w.heap.size+1) (i:=2) af af (v:=.string z)) (b:=w.heap.size+1) (i:=3) af af (v:=.string k)) (b:=w.heap.size+1) (i:=4) af af (v:=.bool x)) (b:=w.heap.size+1) (i:=5) af af (v:=.string m)) (b:=w.heap.size+1) (i:=6) af af (v:=.bool y)) (b:=w.heap.size+1) (i:=7) af af (v:=.slice a' l p));clear h1 h2 hb g0 g1;go_wp2_with fail;refine bodyPost_ret (v:=.agg #[.string n,.int .i64 c,.string z,.string k,.bool x,.string m,.bool y,.slice a' l p]) (by simp[results,Tryz.results65,go_sem, *]) rfl ⟨a',l,p,rfl,HQ2.1,?_,HQ2.2.2⟩;rcases HQ2.2.1 with h|⟨g,cur,h1,h2,h3⟩
 ·exact .inl h
 ·exact .inr ⟨g,cur,h1,by omega,h3⟩

end Ap
end Go.Proofs.YtpejepeekdjfoaaGreatDoor

namespace Go.Proofs.YtpejepeekdjfoaaGreatDoor
open Go.RowKit
namespace Rc
open Mk

theorem ru (x:Nd) (va:Option Addr) (vl vc:Nat) (w:World) (hr:ay w va vl vc x.zs) (hl:vl<=8001):
  Calls Tryz.prog 63 #[.agg #[.string x.n,.string x.z,.int .i64 x.c,.int .i64 x.s,.int .i64 x.u,.bool x.d,.slice va vl vc]] w fun e w'=> ∃a' l' c',e=.returned (.agg #[.string x.n,.string x.z,.int .i64 x.c,.int .i64 x.s,.int .i64 x.u,.bool x.d,.slice a' l' c'])/\cA w' a' l' c' x.zs (fun k=>w.heap.size<=k)/\Below w.heap.size w w':=by
 obtain⟨HR,HB⟩:=gK;clear hr;go_enter Tryz.func63,Tryz.ntmps63;go_wp2_with fail;refine (Ap.mj va vl vc x.zs _ (HR.below (HB.trans ((aF _ _ _).mono HB.size))) hl).mono ?_;rintro e w1 ⟨a',l',c',rfl,h1,h2,hb⟩;obtain⟨HA0,HA1,hbx⟩:=cH hb;have Bp:=aa HA0;have Br:=aa HA1;replace HB:=upB HB hbx;clear hb hbx HA0 HA1;have HO:Hid (cA w1 a' l' c' x.zs (fun k=>w.heap.size+1+1<=k)):=⟨h1,h2.imp id fun ⟨g,cur,e1,e2,e3⟩=>⟨g,cur,e1,by simpa using e2,e3⟩⟩;clear h1 h2;obtain⟨p0,p1,p2,p3,p4,p5,p6⟩:=cs7 Bp;obtain⟨r0,r1,r2,r3,r4,r5,r6⟩:=cs7 Br;obtain⟨fr0,fr1,fr2,fr3,fr4,fr5⟩:=gJ;have fp6:=av Bp.out 6;have fr6:=av Br.out 6;go_wp2_with fail;refine bodyPost_ret (v:=.agg #[.string x.n,.string x.z,.int .i64 x.c,.int .i64 x.s,.int .i64 x.u,.bool x.d,.slice a' l' c']) (by simp[results,Tryz.results63,go_sem, *]) rfl ⟨a',l',c',rfl,HO.aM (fun k _ s=>by have s1:w.heap.size+1+1<=k:=s;rw[Fp _ _ _ _ (show k≠w.heap.size+1 by omega),Fp _ _ _ _ (show k≠w.heap.size+1 by omega),Fp _ _ _ _ (show k≠w.heap.size+1 by omega),Fp _ _ _ _ (show k≠w.heap.size+1 by omega),Fp _ _ _ _ (show k≠w.heap.size+1 by omega),Fp _ _ _ _ (show k≠w.heap.size+1 by omega),Fp _ _ _ _ (show k≠w.heap.size+1 by omega),Fp _ _ _ _ (show k≠w.heap.size by omega)]) (fun k _ s=>by have s1:w.heap.size+1+1<=k:=s;show w.heap.size<=k;omega),sb1 (sb1 (sb1 (sb1 (sb1 (sb1 (sb1 (ah (Ft _) (HB.out))))))))⟩

theorem mx (a:Option Addr) (len cap:Nat) (xs:List Nd) (w:World) (hr:aN w a len cap 7 (xs.map ndF)) (hl:len<=8) (hs:∀(j:Nat) x,xs[j]?=some x->x.zs.length<=8001):
  Calls Tryz.prog 62 #[.slice a len cap,.func (.func 63) #[] #[]] w fun e w'=> ∃a' c',e=.returned (.slice a' len c')/\az w' a' len c' 7 57 (xs.map ndF) (fun k=>w.heap.size<=k)/\Below w.heap.size w w':=by
 have HR:=aa hr;have HS:=aa hs;have hxl:xs.length=len:=dv
 clear hr hs;obtain⟨i0,hi,hz0,hz1,hz2⟩:=info_parts my;have HI0:=aa (Fo hi (Fo hz0 (Fo hz1 hz2)));clear hi hz0 hz1 hz2;go_enter Tryz.func62,Tryz.ntmps62;go_wp2;go_loopw [5,10] (fun vo vi wr=> ∃(k:Nat) (vss:List (List Value)) (H:Nat->Nat->Nat),k<=len/\vi=.int .i64 k/\Hid (wr.ownsRow w.heap.size 57 7 vo k vss.flatten)/\Hid (aX wr (fun k=>w.heap.size<=k) 7 ((xs.take k).map ndF) vss H)/\Hid (Below w.heap.size w wr)) (fun _ vi _=>len - (intOf vi).toNat);case atStart=>exact⟨0,[],fun _ _=>0,by omega,rfl,Gh _ _ _ _,aX.nil _ _ _ _,Fw _ _⟩
 case round=>
  obtain⟨k,vss,H,hk,rfl,HO,HV,HB⟩:=hrel;have hBs:=HB.size;by_cases hlt:k<len
  ·obtain⟨b,o,x,rfl,hb,hx,hat⟩:=cB (HR.below HB.out) hlt;obtain⟨va,vl,vc,hvr,z0,z1,c0,c1,c2,c3,c4,c5,c6⟩:=aZ hat;obtain⟨hz8,HX,HT,HZz0⟩:=uX;have HZz1:=aa z1;clear hat hx hvr z0 z1;go_wp2_with fail;refine (ru x va vl vc _ (HT.below (al _ _)) hz8).mono ?_;rintro e w2 ⟨a',l',c',rfl,ho,hb2⟩;obtain⟨-,hbx⟩:=aL hb2;rw[dG] at ho;obtain⟨g,hg⟩:=ho.fr;obtain⟨HG,HX2,HO2,hs2⟩:=vf;clear ho hb2 hbx hg hb c0 c1 c2 c3 c4 c5 c6;go_wp2_with (first|(at_builtin;refine wpList_append_own _ rfl _ _ 30 rfl w.heap.size 57 i0 (.agg #[.string ⟨#[]⟩,.string ⟨#[]⟩,.int .i64 0,.int .i64 0,.int .i64 0,.bool false,.slice none 0 0]) 7 88 Tryz.underlying30 HI0.1 HI0.2.1 HI0.2.2.1 HI0.2.2.2 rfl aj _ _ _ rfl (HO2.alloc _) ⟨w2.heap.size,0,none⟩ 1 1 [.string x.n,.string x.z,.int .i64 x.c,.int .i64 x.s,.int .i64 x.u,.bool x.d,.slice a' l' c'] rfl rfl ?c1 ?c2 ?c3 ?c4 ?c5 ?_));case c1=>exact de _ _ _
   case c2=>intro u hu;simp only[Gj,GM,or_false] at hu;rcases hu with rfl|rfl|rfl|rfl|rfl|rfl|rfl <;> rfl
   case c3=>unfold maxLen;omega
   case c4=>omega
   case c5=>simp;omega
   rintro v' w3 hown3 hgrow -;have HO3:Hid (w3.ownsRow w.heap.size 57 7 v' (k+1) (vss++([[.string x.n,.string x.z,.int .i64 x.c,.int .i64 x.s,.int .i64 x.u,.bool x.d,.slice a' l' c']]:List (List Value))).flatten):=by
    exact pX
   have hb23:Below wr.heap.size wr (w2.alloc (.cells (nov x a' l' c') 57)):=HX2.trans ((al _ _).mono (Nat.le_of_lt hs2));have hV:=HV.app (r:=ndF x) (vs:=[.string x.n,.string x.z,.int .i64 x.c,.int .i64 x.s,.int .i64 x.u,.bool x.d,.slice a' l' c']) (hh:=g) hb23 (HO2.alloc _) aj hgrow rfl rfl
    (C7 HZz0.out HZz1.out (HG.aM (S':=fun k=>w.heap.size<=k) (fun cu _ q=>Fy _ _ _ (ae q)) (fun _ s=>by have s1:wr.heap.size+1<=g:=s;show w.heap.size<=g;omega)))
    (fun i zs hi hz=>by obtain⟨_,rfl⟩:=tv hi;have s1:wr.heap.size+1<=g:=(HG.lt hz).1;omega) (fun i i' zs zs' h1 _ h2 _=>(tv h1).1.trans (tv h2).1.symm)
   have e1:(xs.take (k+1)).map ndF=(xs.take k).map ndF++[ndF x]:=by rw[F6,HX.out];simp
   exact vN
  ·obtain rfl:len=k:=af
   have h5:=HV.out;rw[FF af] at h5;obtain⟨a',c',rfl,hR⟩:=h5.own HO.out (by simp[hxl]) aj (fun g hg=>(HO.lt g hg).1);have HR5:=aa hR;have hl5:(xs.map ndF).length=len:=by simpa using hxl
   exact qA

theorem rq (x:Vd) (va:Option Addr) (vl vc:Nat) (w:World) (hr:ay w va vl vc x.zs) (hl:vl<=8001):
  Calls Tryz.prog 65 #[.agg #[.string x.n,.int .i64 x.c,.string x.z,.string x.k,.bool x.x,.string x.m,.bool x.y,.slice va vl vc]] w fun e w'=> ∃a' l' c',e=.returned (.agg #[.string x.n,.int .i64 x.c,.string x.z,.string x.k,.bool x.x,.string x.m,.bool x.y,.slice a' l' c'])/\cA w' a' l' c' x.zs (fun k=>w.heap.size<=k)/\Below w.heap.size w w':=by
 refine (Ap.Eo x.n x.c x.z x.k x.x x.m x.y va vl vc x.zs w hr hl).mono ?_;rintro e w' ⟨a',l',c',rfl,h1,h2,hb⟩;exact⟨a',l',c',rfl,⟨h1,h2⟩,hb⟩

theorem mv (a:Option Addr) (len cap:Nat) (xs:List Vd) (w:World) (hr:aN w a len cap 8 (xs.map vdF)) (hl:len<=8) (hs:∀(j:Nat) x,xs[j]?=some x->x.zs.length<=8001):
  Calls Tryz.prog 64 #[.slice a len cap,.func (.func 65) #[] #[]] w fun e w'=> ∃a' c',e=.returned (.slice a' len c')/\az w' a' len c' 8 99 (xs.map vdF) (fun k=>w.heap.size<=k)/\Below w.heap.size w w':=by
 have HR:=aa hr;have HS:=aa hs;have hxl:xs.length=len:=dv
 clear hr hs;obtain⟨i0,hi,hz0,hz1,hz2⟩:=info_parts gi;have HI0:=aa (Fo hi (Fo hz0 (Fo hz1 hz2)));clear hi hz0 hz1 hz2;go_enter Tryz.func64,Tryz.ntmps64;go_wp2;go_loopw [5,10] (fun vo vi wr=> ∃(k:Nat) (vss:List (List Value)) (H:Nat->Nat->Nat),k<=len/\vi=.int .i64 k/\Hid (wr.ownsRow w.heap.size 99 8 vo k vss.flatten)/\Hid (aX wr (fun k=>w.heap.size<=k) 8 ((xs.take k).map vdF) vss H)/\Hid (Below w.heap.size w wr)) (fun _ vi _=>len - (intOf vi).toNat);case atStart=>exact⟨0,[],fun _ _=>0,by omega,rfl,Gh _ _ _ _,aX.nil _ _ _ _,Fw _ _⟩
 case round=>
  obtain⟨k,vss,H,hk,rfl,HO,HV,HB⟩:=hrel;have hBs:=HB.size;by_cases hlt:k<len
  ·obtain⟨b,o,x,rfl,hb,hx,hat⟩:=bN (HR.below HB.out) hlt;obtain⟨va,vl,vc,hvr,z0,z2,z3,z5,c0,c1,c2,c3,c4,c5,c6,c7⟩:=aK hat;obtain⟨hz8,HX,HT,HZz0⟩:=uX;have HZz2:=aa z2;have HZz3:=aa z3;have HZz5:=aa z5;clear hat hx hvr z0 z2 z3 z5;go_wp2_with fail;refine (rq x va vl vc _ (HT.below (al _ _)) hz8).mono ?_;rintro e w2 ⟨a',l',c',rfl,ho,hb2⟩;obtain⟨-,hbx⟩:=aL hb2;rw[dG] at ho;obtain⟨g,hg⟩:=ho.fr;obtain⟨HG,HX2,HO2,hs2⟩:=vf;clear ho hb2 hbx hg hb c0 c1 c2 c3 c4 c5 c6 c7;go_wp2_with (first|(at_builtin;refine wpList_append_own _ rfl _ _ 32 rfl w.heap.size 99 i0 (.agg #[.string ⟨#[]⟩,.int .i64 0,.string ⟨#[]⟩,.string ⟨#[]⟩,.bool false,.string ⟨#[]⟩,.bool false,.slice none 0 0]) 8 112 Tryz.underlying32 HI0.1 HI0.2.1 HI0.2.2.1 HI0.2.2.2 rfl aj _ _ _ rfl (HO2.alloc _) ⟨w2.heap.size,0,none⟩ 1 1 [.string x.n,.int .i64 x.c,.string x.z,.string x.k,.bool x.x,.string x.m,.bool x.y,.slice a' l' c'] rfl rfl ?c1 ?c2 ?c3 ?c4 ?c5 ?_));case c1=>exact de _ _ _
   case c2=>intro u hu;simp only[Gj,GM,or_false] at hu;rcases hu with rfl|rfl|rfl|rfl|rfl|rfl|rfl|rfl <;> rfl
   case c3=>unfold maxLen;omega
   case c4=>omega
   case c5=>simp;omega
   rintro v' w3 hown3 hgrow -;have HO3:Hid (w3.ownsRow w.heap.size 99 8 v' (k+1) (vss++([[.string x.n,.int .i64 x.c,.string x.z,.string x.k,.bool x.x,.string x.m,.bool x.y,.slice a' l' c']]:List (List Value))).flatten):=by
    exact pX
   have hb23:Below wr.heap.size wr (w2.alloc (.cells (vov x a' l' c') 99)):=HX2.trans ((al _ _).mono (Nat.le_of_lt hs2));have hV:=HV.app (r:=vdF x) (vs:=[.string x.n,.int .i64 x.c,.string x.z,.string x.k,.bool x.x,.string x.m,.bool x.y,.slice a' l' c']) (hh:=g) hb23 (HO2.alloc _) aj hgrow rfl rfl
    (ui HZz0.out HZz2.out HZz3.out HZz5.out (HG.aM (S':=fun k=>w.heap.size<=k) (fun cu _ q=>Fy _ _ _ (ae q)) (fun _ s=>by have s1:wr.heap.size+1<=g:=s;show w.heap.size<=g;omega)))
    (fun i zs hi hz=>by obtain⟨_,rfl⟩:=s_ hi;have s1:wr.heap.size+1<=g:=(HG.lt hz).1;omega) (fun i i' zs zs' h1 _ h2 _=>(s_ h1).1.trans (s_ h2).1.symm)
   have e1:(xs.take (k+1)).map vdF=(xs.take k).map vdF++[vdF x]:=by rw[F6,HX.out];simp
   exact vN
  ·obtain rfl:len=k:=af
   have h5:=HV.out;rw[FF af] at h5;obtain⟨a',c',rfl,hR⟩:=h5.own HO.out (by simp[hxl]) aj (fun g hg=>(HO.lt g hg).1);have HR5:=aa hR;have hl5:(xs.map vdF).length=len:=by simpa using hxl
   exact qA

theorem kh (x:Pd) (va:Option Addr) (vl vc:Nat) (w:World) (hr:ay w va vl vc x.zs) (hl:vl<=8001):
  Calls Tryz.prog 67 #[.agg #[.string x.n,.int .i64 x.c,.string x.z,.slice va vl vc,.string x.d,.int .i64 x.p]] w fun e w'=> ∃a' l' c',e=.returned (.agg #[.string x.n,.int .i64 x.c,.string x.z,.slice a' l' c',.string x.d,.int .i64 x.p])/\cA w' a' l' c' x.zs (fun k=>w.heap.size<=k)/\Below w.heap.size w w':=by
 obtain⟨HR,HB⟩:=gK;clear hr;go_enter Tryz.func67,Tryz.ntmps67;go_wp2_with fail;refine (Ap.mj va vl vc x.zs _ (HR.below (HB.trans ((aF _ _ _).mono HB.size))) hl).mono ?_;rintro e w1 ⟨a',l',c',rfl,h1,h2,hb⟩;obtain⟨HA0,HA1,hbx⟩:=cH hb;have Bp:=aa HA0;have Br:=aa HA1;replace HB:=upB HB hbx;clear hb hbx HA0 HA1;have HO:Hid (cA w1 a' l' c' x.zs (fun k=>w.heap.size+1+1<=k)):=⟨h1,h2.imp id fun ⟨g,cur,e1,e2,e3⟩=>⟨g,cur,e1,by simpa using e2,e3⟩⟩;clear h1 h2;obtain⟨p0,p1,p2,p3,p4,p5⟩:=cs6 Bp;obtain⟨r0,r1,r2,r3,r4,r5⟩:=cs6 Br;have fr0:=av Br.out 0;have fr1:=av Br.out 1;have fr2:=av Br.out 2;have fp3:=av Bp.out 3;have fr3:=av Br.out 3;have fr4:=av Br.out 4;have fr5:=av Br.out 5;go_wp2_with fail;refine bodyPost_ret (v:=.agg #[.string x.n,.int .i64 x.c,.string x.z,.slice a' l' c',.string x.d,.int .i64 x.p]) (by simp[results,Tryz.results67,go_sem, *]) rfl ⟨a',l',c',rfl,HO.aM (fun k _ s=>by have s1:w.heap.size+1+1<=k:=s;rw[Fp _ _ _ _ (show k≠w.heap.size+1 by omega),Fp _ _ _ _ (show k≠w.heap.size+1 by omega),Fp _ _ _ _ (show k≠w.heap.size+1 by omega),Fp _ _ _ _ (show k≠w.heap.size+1 by omega),Fp _ _ _ _ (show k≠w.heap.size+1 by omega),Fp _ _ _ _ (show k≠w.heap.size+1 by omega),Fp _ _ _ _ (show k≠w.heap.size by omega)]) (fun k _ s=>by have s1:w.heap.size+1+1<=k:=s;show w.heap.size<=k;omega),sb1 (sb1 (sb1 (sb1 (sb1 (sb1 (ah (Ft _) (HB.out)))))))⟩

theorem mw (a:Option Addr) (len cap:Nat) (xs:List Pd) (w:World) (hr:aN w a len cap 6 (xs.map pdF)) (hl:len<=8) (hs:∀(j:Nat) x,xs[j]?=some x->x.zs.length<=8001):
  Calls Tryz.prog 66 #[.slice a len cap,.func (.func 67) #[] #[]] w fun e w'=> ∃a' c',e=.returned (.slice a' len c')/\az w' a' len c' 6 64 (xs.map pdF) (fun k=>w.heap.size<=k)/\Below w.heap.size w w':=by
 have HR:=aa hr;have HS:=aa hs;have hxl:xs.length=len:=dv
 clear hr hs;obtain⟨i0,hi,hz0,hz1,hz2⟩:=info_parts iK;have HI0:=aa (Fo hi (Fo hz0 (Fo hz1 hz2)));clear hi hz0 hz1 hz2;go_enter Tryz.func66,Tryz.ntmps66;go_wp2;go_loopw [5,10] (fun vo vi wr=> ∃(k:Nat) (vss:List (List Value)) (H:Nat->Nat->Nat),k<=len/\vi=.int .i64 k/\Hid (wr.ownsRow w.heap.size 64 6 vo k vss.flatten)/\Hid (aX wr (fun k=>w.heap.size<=k) 6 ((xs.take k).map pdF) vss H)/\Hid (Below w.heap.size w wr)) (fun _ vi _=>len - (intOf vi).toNat);case atStart=>exact⟨0,[],fun _ _=>0,by omega,rfl,Gh _ _ _ _,aX.nil _ _ _ _,Fw _ _⟩
 case round=>
  obtain⟨k,vss,H,hk,rfl,HO,HV,HB⟩:=hrel;have hBs:=HB.size;by_cases hlt:k<len
  ·obtain⟨b,o,x,rfl,hb,hx,hat⟩:=bY (HR.below HB.out) hlt;obtain⟨va,vl,vc,hvr,z0,z2,z4,c0,c1,c2,c3,c4,c5⟩:=aT hat;obtain⟨hz8,HX,HT,HZz0⟩:=uX;have HZz2:=aa z2;have HZz4:=aa z4;clear hat hx hvr z0 z2 z4;go_wp2_with fail;refine (kh x va vl vc _ (HT.below (al _ _)) hz8).mono ?_;rintro e w2 ⟨a',l',c',rfl,ho,hb2⟩;obtain⟨-,hbx⟩:=aL hb2;rw[dG] at ho;obtain⟨g,hg⟩:=ho.fr;obtain⟨HG,HX2,HO2,hs2⟩:=vf;clear ho hb2 hbx hg hb c0 c1 c2 c3 c4 c5;go_wp2_with (first|(at_builtin;refine wpList_append_own _ rfl _ _ 34 rfl w.heap.size 64 i0 (.agg #[.string ⟨#[]⟩,.int .i64 0,.string ⟨#[]⟩,.slice none 0 0,.string ⟨#[]⟩,.int .i64 0]) 6 88 Tryz.underlying34 HI0.1 HI0.2.1 HI0.2.2.1 HI0.2.2.2 rfl aj _ _ _ rfl (HO2.alloc _) ⟨w2.heap.size,0,none⟩ 1 1 [.string x.n,.int .i64 x.c,.string x.z,.slice a' l' c',.string x.d,.int .i64 x.p] rfl rfl ?c1 ?c2 ?c3 ?c4 ?c5 ?_));case c1=>exact de _ _ _
   case c2=>intro u hu;simp only[Gj,GM,or_false] at hu;rcases hu with rfl|rfl|rfl|rfl|rfl|rfl <;> rfl
   case c3=>unfold maxLen;omega
   case c4=>omega
   case c5=>simp;omega
   rintro v' w3 hown3 hgrow -;have HO3:Hid (w3.ownsRow w.heap.size 64 6 v' (k+1) (vss++([[.string x.n,.int .i64 x.c,.string x.z,.slice a' l' c',.string x.d,.int .i64 x.p]]:List (List Value))).flatten):=by
    exact pX
   have hb23:Below wr.heap.size wr (w2.alloc (.cells (pov x a' l' c') 64)):=HX2.trans ((al _ _).mono (Nat.le_of_lt hs2));have hV:=HV.app (r:=pdF x) (vs:=[.string x.n,.int .i64 x.c,.string x.z,.slice a' l' c',.string x.d,.int .i64 x.p]) (hh:=g) hb23 (HO2.alloc _) aj hgrow rfl rfl
    (C5 HZz0.out HZz2.out HZz4.out (HG.aM (S':=fun k=>w.heap.size<=k) (fun cu _ q=>Fy _ _ _ (ae q)) (fun _ s=>by have s1:wr.heap.size+1<=g:=s;show w.heap.size<=g;omega)))
    (fun i zs hi hz=>by obtain⟨_,rfl⟩:=tn hi;have s1:wr.heap.size+1<=g:=(HG.lt hz).1;omega) (fun i i' zs zs' h1 _ h2 _=>(tn h1).1.trans (tn h2).1.symm)
   have e1:(xs.take (k+1)).map pdF=(xs.take k).map pdF++[pdF x]:=by rw[F6,HX.out];simp
   exact vN
  ·obtain rfl:len=k:=af
   have h5:=HV.out;rw[FF af] at h5;obtain⟨a',c',rfl,hR⟩:=h5.own HO.out (by simp[hxl]) aj (fun g hg=>(HO.lt g hg).1);have HR5:=aa hR;have hl5:(xs.map pdF).length=len:=by simpa using hxl
   exact qA

end Rc
end Go.Proofs.YtpejepeekdjfoaaGreatDoor

namespace Go.Proofs.YtpejepeekdjfoaaGreatDoor
open Go.RowKit
namespace Gi

section
variable {R:Rs} {sp:Tmp} {ex:Ex} {P:Program} {ops:Array Oper} {Q:Exit->Act->World->Prop} {W:World} {a0:Act} {back:Option Oper}

end

def Bel (w w':World):Prop:=Below w.heap.size w w'
theorem Bel.rel (sp:Tmp):Rel (fun _=>Bel) sp:=⟨fun _=>Fw _ _,fun h k=>Below.trans h (Below.mono k (Below.size h)),fun h=>Below.size h,fun _=>(Fw _ _).drew,fun _ _ _ h=>h,fun _ _ _ _ _ h=>h⟩
end Gi
end Go.Proofs.YtpejepeekdjfoaaGreatDoor
