import Derived.Lib.ItoaNum
import Derived.Test.YtdfgbboadbnodaaGreatDoorRows
import Derived.WalkKit
import Derived.WalkSpells
import Derived.OwnWalk
import Derived.Outline
import Derived.Laws.Cover1
import Derived.Lib.BufferWrite
import Derived.Laws.CopyOwn
import Derived.Deep.QuietTactic
import Derived.BigQuiet
import Derived.WalkSmall
import Derived.Laws.IdiomStrings
/-
 The mathematics of numbers in digits: what digits say, and that digits are got back.
-/
set_option maxRecDepth 100000
set_option maxHeartbeats 12800000
open And renaming intro→sw
open Array renaming getD_eq_getD_getElem?→sD, getElem?_push_size→sH, getElem?_eq_some_iff→sO, getElem?_setIfInBounds→sS, getElem?_setIfInBounds_self_of_lt→tJ
open Bool renaming and_eq_true→tl
open Go.Addr renaming add_lit→tB
open Go.Calls renaming quiet_of_same→sQ
open Go.Lib renaming decDigits→tG, toList_data→ub
open Go.Op renaming bytesLess→sJ
open Go.Region renaming ready→tk, binds→tu, wanted→tA
open Go.RowKit.Below renaming heap_setCell→sz, refl→sB, heap_alloc→sR
open Go.Value renaming string→sP
open Go.Value.slice renaming injEq→tU
open Go.World renaming setCell→sZ
open Int renaming lt_of_lt_of_le→sI, le_trans→sV, add_assoc→tq
open List renaming getElem?_eq_some_iff→sv, getElem?_eq_getElem→sA, take_of_length_le→sE, getElem?_map→sK, lookup→sM, length_take→sU, getElem?_take→sW, length_append→sY, getElem?_eq_none→s9, take_add_one→tc, length_map→td, all_eq_true→tg, length_drop→tv, mem_cons→tz, range→tC, append_assoc→tD, set_cons_zero→tF, drop_eq_getElem_cons→tH, mem_range→tP
open Nat renaming le_refl→sy, le_trans→sC, lt_of_lt_of_le→sG, le_succ→sN, zero_add→th, add_zero→tK
open Option renaming map_eq_some_iff→sF
open Option.some renaming inj→sx, injEq→tn
open UInt8 renaming lt_iff_toNat_lt→tR
namespace Go.Proofs.YtdfgbboadbnodaaGreatDoor
theorem af {p:Prop} (h:p:=by omega):p:=h
theorem an {p:Prop} (h:p:=by kernel_rfl):p:=h
theorem aT {p:Prop} (h:p:=by simp):p:=h
theorem de {p:Prop} (h:p:=by simpa using hr.1):p:=h
theorem cC {p:Prop} (h:p:=by simp;omega):p:=h
theorem fc {p:Prop} (h:p:=by unfold maxLen;omega):p:=h
theorem bp {p:Prop} (h:p:=by cases h):p:=h
theorem mK {p:Prop} (h:p:=by rw[sW,if_pos hij];exact sA _):p:=h
theorem fq {p:Prop} (h:p:=by rw[hz2];omega):p:=h
theorem mH {p:Prop} (h:p:=by rw[sW,if_pos hij];exact hp):p:=h
theorem ix {p:Prop} (h:p:=by simpa[Hid] using ho):p:=h
end Go.Proofs.YtdfgbboadbnodaaGreatDoor
namespace Go.Proofs.YtdfgbboadbnodaaGreatDoor
theorem fw {p:Prop} (h:p:=by
 have HN:=aa (fun h=>hq (hr.2 h));clear hr;go_wp2_with fail;go_ret;exact⟨false,rfl,⟨fun h=>bp,fun h=>(HN.out (h.1)).elim⟩,aj _ _⟩):p:=h
theorem ee {p:Prop} (h:p:=by
 have HN:=aa (fun h=>hq (hr.2 h));clear hr;go_wp2_with fail;go_ret;exact⟨false,rfl,⟨fun h=>bp,fun h=>(HN.out (h.2.2.1)).elim⟩,aj _ _⟩):p:=h
theorem ed {p:Prop} (h:p:=by
 have HN:=aa (fun h=>hq (hr.2 h));clear hr;go_wp2_with fail;go_ret;exact⟨false,rfl,⟨fun h=>bp,fun h=>(HN.out (h.2.1)).elim⟩,aj _ _⟩):p:=h
theorem qN {p:Prop} (h:p:=by
 have e:aR a0 (knAll [] front φs) (fun t=>a.tmps.getD t undef)=a:=by
  refine pf ((bL _ _ _).trans h.size.symm) ((bM _ _ _).trans h.defers.symm) (fun t=>ef a0 a _ (fun p hp=>?_) t (fun hn=>?_))
  ·rcases bT front φs [] hp with ⟨i,o,h1,h2,h3⟩|h1
   ·exact hin o (List.mem_of_getElem? h1) _ h2
   ·simp at h1
  ·refine h.other t (fun i o ho hd=>?_);exfalso;have hi:=(sv.1 ho).1;have hφ:φs[i]?=some (φs[i]'(by omega)):=sA _;cases hk:(knAll [] front φs).lookup t with
   | none=>exact (bH front φs [] hk).2 i o _ ho hφ hd
   | some φ=>
    have:∃p∈knAll [] front φs,p.1=t:=by
     revert hk
     generalize knAll [] front φs=l
     intro hk
     induction l with
     | nil=>simp at hk
     | cons p l ih=>
      rw[List.lookup_cons] at hk
      cases hb:t==p.1 with
      | true=>exact⟨p,by simp,(by simpa using hb:t=p.1).symm⟩
      | false=>
       rw[hb] at hk;obtain⟨q,hq,he⟩:=ih hk;exact⟨q,by simp[hq],he⟩
    obtain⟨p,hp,he⟩:=this;exact hn p hp he
 rw[e] at h1;exact h1):p:=h
theorem ga {p:Prop} (h:p:=by
 have HN:=aa (fun h=>hq (hr.2 h));clear hr;go_wp2_with fail;go_ret;exact⟨false,rfl,⟨fun h=>bp,fun h=>(HN.out (h.2.2.2.1)).elim⟩,aj _ _⟩):p:=h
theorem nu {p:Prop} (h:p:=by
 rcases hr with rfl|⟨hr0,hr1,hvl2⟩
 ·go_wp2;go_ret;exact⟨-1,rfl,.inl rfl,HB2.out⟩
 ·go_wp2;refine⟨⟨k+1,r,by omega,by go_num,by go_num,by omega,by omega,fun j x hj hx=>?_,HB2.out⟩,by simp[intOf];omega⟩;by_cases e:j=k
  ·subst e;rw[HV.out] at hx;obtain rfl:=sx hx;rw[HT.1];exact hvl2
  ·exact HE.out j x af hx):p:=h
theorem nt {p:Prop} (h:p:=by
 obtain⟨φ,hφ,ho,hr⟩:=h;obtain⟨φs,hl,hs,hf⟩:=Grow.spec l _ hr;refine⟨φ ::φs,by simp[hl],?_,hf⟩;intro i o' φ' h1 h2;cases i with
 | zero=>
  simp only[List.getElem?_cons_zero,tn] at h1 h2;subst h1;subst h2;exact⟨hφ,ho⟩
 | succ i=>
  simp only[List.getElem?_cons_succ] at h1 h2
  simpa[knAll] using hs i o' φ' h1 h2):p:=h
theorem iZ {p:Prop} (h:p:=by
 have HN:=aa (fun h=>hq (hr.2 h));clear hr;go_wp2_with fail;go_ret;exact⟨false,rfl,⟨fun h=>bp,fun h=>(HN.out (h.2.2.2.2.1)).elim⟩,aj _ _⟩):p:=h
theorem iY {p:Prop} (h:p:=by
 refine wpQuiet_nil ?_;rintro _ ⟨q,rfl⟩;go_wp2_with fail;exact⟨⟨k+1,by omega,by go_num,HB.trans (q.b.mono HB.size)⟩,by simp[intOf];omega⟩):p:=h
theorem iX {p:Prop} (h:p:=by
 obtain⟨b,o,r,h1,h2,h3,h4⟩:=h.at hj;rw[sK] at h3;obtain⟨x,h5,rfl⟩:=sF.1 h3;exact⟨b,o,x,h1,h2,h5,h4⟩):p:=h
theorem iW {p:Prop} (h:p:=by
 refine⟨congrArg (fun z=>Ending.returned (.int .i64 z)) (HN.trans (by rw[e1])),?_,HK.out⟩;have:=HS.out;rw[e2] at this;exact this):p:=h
theorem qH {p:Prop} (h:p:=by
 induction known with
 | nil=>exact (h (fun p hp=>by simp at hp)).symm
 | cons p l ih=>
  have e:aR a0 (p ::l) (fun t=>a.tmps.getD t undef)=(aR a0 l (fun t=>a.tmps.getD t undef)).put (some p.1) (a.tmps.getD p.1 undef):=rfl;rw[e,eu,bL]
  by_cases hp:p.1=t
  ·subst hp;rw[if_pos ⟨rfl,hk p aT⟩]
  ·rw[if_neg (fun h=>hp h.1)]
   exact ih (fun q hq=>hk q (by simp[hq])) (fun hn=>h (fun q hq=>by
    rcases tz.1 hq with rfl|hq
    ·exact hp
    ·exact hn q hq))):p:=h
theorem qG {p:Prop} (h:p:=by
 intro t ht;have hne:o.dst≠some t:=fun hd=>by
  have:=ht j o ho hd;simp[sD,hj] at this
 have h1:=h.other t (fun i p hp hd=>by
  have h2:=ht i p hp hd
  have e:¬j=i:=fun e=>by subst e;exact hne (by rw[sx (ho.symm.trans hp)];exact hd)
  simpa[sD,sS,e] using h2)
 exact nA):p:=h
theorem qE {p:Prop} (h:p:=by
 obtain⟨h1,h2⟩:=bH l φs (kn o.dst ψ known) h;rw[eM] at h1;by_cases hd:o.dst=some t
 ·rw[if_pos hd] at h1;cases h1
 ·rw[if_neg hd] at h1;refine⟨h1,fun i o' φ h3 h4=>?_⟩;cases i with
  | zero=>simp only[List.getElem?_cons_zero,tn] at h3;subst h3;exact hd
  | succ i=>exact h2 i o' φ (by simpa using h3) (by simpa using h4)):p:=h
theorem kZ {p:Prop} (h:p:=by
 go_wp2;go_round;case rel=>exact⟨k+1,by omega,by go_num,gh hlt HB.out HA.out⟩
 case measure=>simp[intOf];omega):p:=h
theorem iS {p:Prop} (h:p:=by
 exact⟨congrArg (fun z=>Ending.returned (.int .i64 z)) (HN.trans (by rw[e1])),HB.out⟩):p:=h
theorem np {p:Prop} (h:p:=by
 obtain rfl:k=len:=af
 go_wp2;go_ret;exact⟨m,rfl,.inr ⟨hm0,hm1,by omega,fun j v hv=>HE.out j v (by have:=(sv.1 hv).1;omega) hv⟩,HB.out⟩):p:=h
theorem qC {p:Prop} (h:p:=by
 rcases bT l φs (kn o.dst ψ known) h with ⟨i,o',h1,h2,h3⟩|h
 ·exact .inl ⟨i+1,o',by simpa using h1,h2,by simpa using h3⟩
 ·cases hd:o.dst with
  | none=>rw[hd] at h;exact .inr h
  | some d=>
   rw[hd] at h;simp only[kn,tz] at h
   rcases h with rfl|h
   ·exact .inl ⟨0,o,rfl,hd,rfl⟩
   ·exact .inr h):p:=h
theorem qB {p:Prop} (h:p:=by
 go_wp2_with fail;refine (lv a a' len len' cap cap' zs zs _ (HR.below (aB _ _ _)) (HR'.below (aB _ _ _))).mono ?_;rintro e w1 ⟨r,rfl,hr,hb⟩;obtain rfl:r=true:=hr.2 rfl;clear hr;have HB:Hid (Below w.heap.size w w1):=(aB _ _ _).trans (hb.mono cC);go_wp2_with fail;go_ret;exact⟨rfl,HB.out⟩):p:=h
theorem qy {p:Prop} (h:p:=by
 go_wp2_with fail;refine (kJ a len cap zs _ _ (HR.below (aj _ _)) af af).mono ?_;rintro e w1 ⟨r,rfl,hr,rfl⟩;rcases hr with rfl|⟨hr0,hr1,hr2⟩
 ·go_wp2;go_ret;exact⟨-1,rfl,.inl rfl,aj _ _⟩
 go_wp2;go_ret;exact⟨_,rfl,.inr ⟨by omega,by omega,by omega⟩,aj _ _⟩):p:=h
theorem qx {p:Prop} (h:p:=by
 obtain⟨v',k1,k2⟩:=h1.cell j' r0 q1 i' f' q2;have hil':i'<r0.length:=(sv.1 q2).1;have hrm':=h1.len j' r0 q1;refine⟨v',?_,k2.aQ⟩;exact nD):p:=h
theorem qv {p:Prop} (h:p:=by
 rcases bG l φs (kn o.dst ψ known) h with ⟨i,o',h1,h2,h3⟩|h
 ·exact .inl ⟨i+1,o',by simpa using h1,h2,by simpa using h3⟩
 ·rw[eM] at h;by_cases hd:o.dst=some t
  ·rw[if_pos hd] at h;exact .inl ⟨0,o,rfl,hd,by simpa using h⟩
  ·rw[if_neg hd] at h;exact .inr h):p:=h
theorem iN {p:Prop} (h:p:=by
 obtain rfl:k=len:=af
 go_wp2;go_ret;exact⟨rfl,HB.out⟩):p:=h
theorem nh {p:Prop} (h:p:=by
 go_wp2_with (go_at_call 115;refine (gI _ _ _ _).mono ?_;rintro e w1 ⟨r,rfl,hr,rfl⟩);go_ret;exact⟨r,rfl,hr,rfl⟩):p:=h
theorem qj {p:Prop} (h:p:=by
 cases d with
 | none=>simp[kn]
 | some d=>
  simp only[kn,tn,List.lookup_cons]
  by_cases h:d=t
  ·subst h;simp
  ·rw[if_neg h]
   have:(t==d)=false:=by simpa using fun e=>h e.symm
   rw[this]):p:=h
theorem qi {p:Prop} (h:p:=by
 exact aC af (aC af (aC af (aC af (aC af (aC af (aC af (aC af (aC af (HG.out)))))))))):p:=h
theorem qh {p:Prop} (h:p:=by
 exact ag af (ag af (ag af (ag af (ag af (ag af (ag af (ag af (ag af (HB.out)))))))))):p:=h
theorem qf {p:Prop} (h:p:=by
 rcases hr with rfl|⟨hr0,hr1,hvl2⟩
 ·go_wp2;go_ret;exact⟨-1,rfl,.inl rfl,HB2.out⟩
 ·go_wp2;exact⟨⟨k+1,r,by omega,by go_num,by go_num,by omega,by omega,HB2.out⟩,by simp[intOf];omega⟩):p:=h
theorem m_ {p:Prop} (h:p:=by
 have:=List.count_le_length (a:=false) (l:=(Array.replicate l.toArray.size false).toList);simp at this ⊢):p:=h
theorem iL {p:Prop} (h:p:=by
 go_wp2;go_ret;exact⟨-1,rfl,.inl rfl,sB _ _⟩):p:=h
theorem qe {p:Prop} (h:p:=by
 have h1:=hf.last hlen hin h (fun i hi=>hall i af);cases hk:back with
 | none=>rw[hk] at h1;exact h1
 | some o=>
  have h2:=hb o hk;rw[hall _ (by rw[hsz,hk];simp)] at h2
  cases h2):p:=h
theorem qd {p:Prop} (h:p:=by
 have HN:=aa (fun h=>hq (hr.2 h));clear hsl hb hb1 hr;go_wp2_with fail;go_ret;exact⟨false,rfl,⟨fun h=>bp,fun h=>(HN.out (gg h.2.2.2.2.2.2)).elim⟩,HB.out⟩):p:=h
theorem kX {p:Prop} (h:p:=by
 go_wp2;go_ret;exact⟨false,rfl,by unfold aX;simp;omega,rfl⟩):p:=h
theorem mX {p:Prop} (h:p:=by
 go_enter Tryz.func48,Tryz.ntmps48;go_wp2;go_ret;exact⟨-1,rfl,.inl rfl,aj _ _⟩):p:=h
theorem qb {p:Prop} (h:p:=by
 obtain⟨h6,h7⟩:=this;obtain⟨k,hk,hx⟩:=Array.any_eq_true.1 h7;simp only[tl,beq_iff_eq] at hx;exact⟨h6,_,Array.getElem_mem hk,hx.1,hx.2⟩):p:=h
theorem nX {p:Prop} (h:p:=by
 go_wp2;go_ret;refine⟨true,rfl,?_,rfl⟩;simp only[true_iff];exact⟨by omega,by omega,fun i h=>HA.out i h af⟩):p:=h
theorem nR {p:Prop} (h:p:=by
 rw[ht,eu,if_pos ⟨rfl,by rw[h.size];exact hin o (List.mem_of_getElem? ho) t ht⟩];exact hv):p:=h
theorem nQ {p:Prop} (h:p:=by
 obtain rfl:k=len:=af
 go_wp2;go_ret;exact⟨m,rfl,.inr ⟨hm0,hm1,by omega⟩,HB.out⟩):p:=h
theorem fB {p:Prop} (h:p:=by
 rw[sE af,List.drop_of_length_le af,List.append_nil]):p:=h
theorem gE {p:Prop} (h:p:=by
 go_enter Tryz.func47,Tryz.ntmps47;go_wp2;go_ret;exact⟨-1,rfl,.inl rfl,aj _ _⟩):p:=h
theorem nF {p:Prop} (h:p:=by
 rintro e w1 ⟨r,rfl,hr,rfl⟩;go_wp2_with fail;go_ret;exact⟨r,rfl,⟨fun h=>⟨h0.out,h1.out,h2.out,hr.1 h⟩,fun h=>hr.2 h.2.2.2⟩,aj _ _⟩):p:=h
theorem nD {p:Prop} (h:p:=by
 rw[Array.getElem?_setIfInBounds_ne (fun e2=>hne (by have:=pb af af e2;exact⟨this.1.symm,this.2.symm⟩))];exact k1):p:=h
theorem nC {p:Prop} (h:p:=by
 rintro e w1 ⟨r,rfl,hr,rfl⟩;go_wp2_with fail;go_ret;exact⟨r,rfl,⟨fun h=>⟨h0.out,hr.1 h⟩,fun h=>hr.2 h.2⟩,aj _ _⟩):p:=h
theorem nA {p:Prop} (h:p:=by
 cases hd:o.dst with
 | none=>exact h1
 | some d=>
  rw[eu,if_neg (fun hx=>hne (hd.trans (by rw[hx.1])))];exact h1):p:=h
theorem nx {p:Prop} (h:p:=by
 go_wp2;go_ret;exact⟨false,rfl,⟨fun h=>bp,fun h=>absurd (h.2.2.2.2.2.1 rfl) hm0⟩,aj _ _⟩):p:=h
theorem dD {p:Prop} (h:p:=by
 have HR:=aa hr;have hvl:xs.length=len:=de
 exact sw HR hvl):p:=h
theorem pO {p:Prop} (h:p:=by
 have hfx:(xs.map pdF)[i]?=some (pdF x):=by rw[sK,hx];rfl
 have HF:=aa hfx;have hbd:mkN n (pdF x)<=1152921504606846976:=by rw[HN.out];exact sV (fI hfx N) HBd.out
 have hbd':n+5+x.zs.length<=1152921504606846976:=by simpa[mkN,mkN1,pdF,tq,Int.add_comm,Int.add_left_comm] using hbd
 exact sw hfx (sw HF (sw hbd hbd'))):p:=h
theorem iG {p:Prop} (h:p:=by
 have HA0:=aa (HA.below hb q0.b);have HB0:=upB HB q0.b;have hb0:=sG hb q0.b.size;exact sw HA0 (sw HB0 hb0)):p:=h
theorem iF {p:Prop} (h:p:=by
 have HA1:=aa (HA.below hb q1.b);have HB1:=upB HB q1.b;have hb1:=sG hb q1.b.size;exact sw HA1 (sw HB1 hb1)):p:=h
theorem pL {p:Prop} (h:p:=by
 have hfx:(xs.map ndF)[i]?=some (ndF x):=by rw[sK,hx];rfl
 have HF:=aa hfx;have hbd:mkN n (ndF x)<=1152921504606846976:=by rw[HN.out];exact sV (fI hfx N) HBd.out
 have hbd':n+6+x.zs.length<=1152921504606846976:=by simpa[mkN,mkN1,ndF,tq] using hbd
 exact sw hfx (sw HF (sw hbd hbd'))):p:=h
theorem pK {p:Prop} (h:p:=by
 have hfx:(xs.map vdF)[i]?=some (vdF x):=by rw[sK,hx];rfl
 have HF:=aa hfx;have hbd:mkN n (vdF x)<=1152921504606846976:=by rw[HN.out];exact sV (fI hfx N) HBd.out
 have hbd':n+7+x.zs.length<=1152921504606846976:=by simpa[mkN,mkN1,vdF,tq] using hbd
 exact sw hfx (sw HF (sw hbd hbd'))):p:=h
theorem pJ {p:Prop} (h:p:=by
 have hfx:(xs.map kdF)[i]?=some (kdF x):=by rw[sK,hx];rfl
 have HF:=aa hfx;have hbd:mkN n (kdF x)<=1152921504606846976:=by rw[HN.out];exact sV (fI hfx N) HBd.out
 have hbd':n+3+1<=1152921504606846976:=by simpa[mkN,mkN1,kdF,tq] using hbd
 exact sw hfx (sw HF (sw hbd hbd'))):p:=h
theorem pI {p:Prop} (h:p:=by
 have hfx:(xs.map xdF)[i]?=some (xdF x):=by rw[sK,hx];rfl
 have HF:=aa hfx;have hbd:mkN n (xdF x)<=1152921504606846976:=by rw[HN.out];exact sV (fI hfx N) HBd.out
 have hbd':n+4+1<=1152921504606846976:=by simpa[mkN,mkN1,xdF,tq] using hbd
 exact sw hfx (sw HF (sw hbd hbd'))):p:=h
theorem pF {p:Prop} (h:p:=by
 have HG:=aa hG;have HB:Hid (Below w.heap.size w w1):=(bx _ _ _ _).trans (hb.mono af);have c20:=ck0 g2;have c10:=ck0 g1;have f10:=aq g1 0;have c21:=ck1 g2;have c11:=ck1 g1;have f11:=aq g1 1;have c22:=ck2 g2;have c12:=ck2 g1;have f12:=aq g1 2;have c23:=ck3 g2;have c13:=ck3 g1;have f13:=aq g1 3;have c24:=ck4 g2;have c14:=ck4 g1;have f14:=aq g1 4;have c25:=ck5 g2;have c15:=ck5 g1;have f15:=aq g1 5;have c26:=ck6 g2;exact sw HG (sw HB (sw c20 (sw c10 (sw f10 (sw c21 (sw c11 (sw f11 (sw c22 (sw c12 (sw f12 (sw c23 (sw c13 (sw f13 (sw c24 (sw c14 (sw f14 (sw c25 (sw c15 (sw f15 c26)))))))))))))))))))):p:=h
theorem iB {p:Prop} (h:p:=by
 have HR:=aa hr;have HR':=aa hr';have hlc:=sC hr.2.1 hr.2.2.1;exact sw HR (sw HR' hlc)):p:=h
theorem mM {p:Prop} (h:p:=by
 have h1:=(((H1.out).bZ (i:=0) rfl _ (aS af)).eF (i:=1) rfl _).below hb;have H2:=aa h1;exact sw h1 H2):p:=h
end Go.Proofs.YtdfgbboadbnodaaGreatDoor
namespace Go.Proofs.YtdfgbboadbnodaaGreatDoor

theorem mg {k:Nat} (h:k<10):(UInt8.ofNat (48+k)).toNat=48+k:=by
 rw[UInt8.toNat_ofNat'];omega
theorem lx {u k:Nat} (h:u<10 ^ (k+1)):(tG u).length<=k+1:=by
 induction k generalizing u with
 | zero=>rw[tG,dif_pos (by simpa using h)];simp
 | succ k ih=>
  rw[tG]
  split
  ·simp
  ·rw[sY];have:=@ih (u / 10) (by rw[Nat.pow_succ] at h;omega)
   simp;omega
theorem oL (u:Nat) (h:0<u) (r:List UInt8):(if u / 10=0 then [] else tG (u / 10))++(UInt8.ofNat (48+u % 10) ::r)=tG u++r:=by
 conv=>rhs;rw[tG]
 split
 ·rename_i h1;rw[dif_pos af,Nat.mod_eq_of_lt af];rfl
 ·rename_i h1;rw[dif_neg af];simp

end Go.Proofs.YtdfgbboadbnodaaGreatDoor

namespace Go.Proofs.YtdfgbboadbnodaaGreatDoor
open Go.RowKit

def fS (b:Int):Bool:=decide (97<=b) && decide (b<=122)
def pe (b:Int):Bool:=decide (48<=b) && decide (b<=57)
def nbB (b:Int):Bool:=fS b || pe b || decide (b=95)
def okB (i:Nat) (b:Int):Bool:=if i=0 then fS b else nbB b
def aX (s:ByteArray):Prop:=1<=s.size/\s.size<=20/\∀i (h:i<s.size),okB i ((s[i]'h).toNat:Int)=true
def br (p:Prop) (w:World) (e:Ending) (w':World):Prop:=∃r:Bool,e=.returned (.bool r)/\(r=true↔p)/\w=w'
theorem iw {a b:Bool} (h:a=b):Ending.returned (.bool a)=.returned (.bool b):=by rw[h]

theorem lk (b:Int) (w:World):
  Calls Tryz.prog 184 #[.int .u8 b] w fun e w'=>e=.returned (.bool (fS b))/\w=w':=by
 go_enter Tryz.func184,Tryz.ntmps184;go_wp2;all_goals (go_ret;exact⟨iw (by unfold fS;rw[Bool.eq_iff_iff];simp;omega),rfl⟩)

theorem oa (b:Int) (w:World):
  Calls Tryz.prog 185 #[.int .u8 b] w fun e w'=>e=.returned (.bool (nbB b))/\w=w':=by
 go_enter Tryz.func185,Tryz.ntmps185;go_wp2;all_goals (go_ret;exact⟨iw (by unfold nbB fS pe;rw[Bool.eq_iff_iff];simp;omega),rfl⟩)

theorem eh {s:ByteArray} {k:Nat} (hlt:k<s.size) (h:okB k ((s[k]'hlt).toNat:Int)=false):(false=true↔aX s):=by
 constructor
 ·intro h;cases h
 ·intro h3;have:=h3.2.2 k hlt;rw[h] at this;exact this
theorem gh {s:ByteArray} {k:Nat} (hlt:k<s.size) (h:okB k ((s[k]'hlt).toNat:Int)=true) (ha:∀i (h:i<s.size),i<k->okB i ((s[i]'h).toNat:Int)=true):
  ∀i (h:i<s.size),i<k+1->okB i ((s[i]'h).toNat:Int)=true:=by
 intro i hi hk;by_cases e:i=k
 ·subst e;exact h
 ·exact ha i hi af

theorem aN (s:ByteArray) (w:World) (hs:s.size<=9223372036854775807):
  Calls Tryz.prog 135 #[.string s] w (br (aX s) w):=by
 by_cases h1:s.size<1
 ·go_enter Tryz.func135,Tryz.ntmps135;exact kX
 by_cases h2:20<s.size
 ·go_enter Tryz.func135,Tryz.ntmps135;exact kX
 go_enter Tryz.func135,Tryz.ntmps135;go_wp2;go_loop [3] (fun i=> ∃k:Nat,k<=s.size/\i=.int .i64 k/\∀i (h:i<s.size),i<k->okB i ((s[i]'h).toNat:Int)=true) (fun i=>s.size - (intOf i).toNat);case atStart=>exact⟨0,by omega,rfl,fun i _ h=>by omega⟩
 case round=>
  obtain⟨k,hk,rfl,hall⟩:=hrel;have HA:Hid (∀i (h:i<s.size),i<k->okB i ((s[i]'h).toNat:Int)=true):=hall;clear hall;by_cases hlt:k<s.size
  ·cases hok:okB k ((s[k]'hlt).toNat:Int)
   ·have HB:Hid (okB k ((s[k]'hlt).toNat:Int)=false):=hok;by_cases hk0:k=0
    ·have hkb:((k:Int)==0)=true:=by simp[hk0]
     have hk1:k<1:=af
     unfold okB fS at hok;rw[if_pos hk0] at hok;simp only[Bool.and_eq_false_iff,decide_eq_false_iff_not] at hok;clear hk0;rcases (show ((s[k]'hlt).toNat:Int)<97\/(97<=((s[k]'hlt).toNat:Int)/\122<((s[k]'hlt).toNat:Int)) by omega) with hA|⟨hA,hB⟩;all_goals
      clear hok
      go_wp2
      all_goals first|(exfalso;rename_i hx;simp at hx;omega)|(go_ret;exact⟨false,rfl,eh hlt HB.out,rfl⟩)
    ·have hkb:((k:Int)==0)=false:=by simp[hk0]
     unfold okB nbB fS pe at hok;rw[if_neg hk0] at hok;simp only[Bool.or_eq_false_iff,Bool.and_eq_false_iff,decide_eq_false_iff_not] at hok;have hne:(((s[k]'hlt).toNat:Int) !=95)=true:=by simp;omega
     rcases (show (((s[k]'hlt).toNat:Int)<97\/(97<=((s[k]'hlt).toNat:Int)/\122<((s[k]'hlt).toNat:Int)))/\(((s[k]'hlt).toNat:Int)<48\/(48<=((s[k]'hlt).toNat:Int)/\57<((s[k]'hlt).toNat:Int))) by omega) with ⟨hA|⟨hA,hB⟩,hC|⟨hC,hD⟩⟩;all_goals
      clear hok
      try omega
     all_goals
      go_wp2
      all_goals first|(exfalso;rename_i hx;simp at hx;omega)|(go_ret;exact⟨false,rfl,eh hlt HB.out,rfl⟩)
   ·have HB:Hid (okB k ((s[k]'hlt).toNat:Int)=true):=hok;by_cases hk0:k=0
    ·have hkb:((k:Int)==0)=true:=by simp[hk0]
     have hk1:k<1:=af
     unfold okB fS at hok;rw[if_pos hk0] at hok;simp only[tl,decide_eq_true_eq] at hok;obtain⟨hA,hB⟩:=hok;clear hk0;exact kZ
    ·have hkb:((k:Int)==0)=false:=by simp[hk0]
     unfold okB nbB fS pe at hok;rw[if_neg hk0] at hok;simp only[Bool.or_eq_true,tl,decide_eq_true_eq] at hok;rcases (show (97<=((s[k]'hlt).toNat:Int)/\((s[k]'hlt).toNat:Int)<=122)\/(48<=((s[k]'hlt).toNat:Int)/\((s[k]'hlt).toNat:Int)<=57)\/(95<=((s[k]'hlt).toNat:Int)/\((s[k]'hlt).toNat:Int)<=95) by omega) with ⟨hA,hB⟩|⟨hA,hB⟩|⟨hA,hB⟩
     ·clear hok;exact kZ
     ·clear hok;exact kZ
     ·clear hok;have hne:(((s[k]'hlt).toNat:Int) !=95)=false:=by simp;omega
      exact kZ
  ·exact nX

theorem aM (s:ByteArray) (w:World) (hs:s.size<=9223372036854775807):
  Calls Tryz.prog 182 #[.string s] w (br (aX s) w):=by
 by_cases h1:s.size<1
 ·go_enter Tryz.func182,Tryz.ntmps182;exact kX
 by_cases h2:20<s.size
 ·go_enter Tryz.func182,Tryz.ntmps182;exact kX
 have h0:0<s.size:=af
 cases hl:fS ((s[0]'h0).toNat:Int)
 ·have HC:Hid (∀w,Calls Tryz.prog 184 #[.int .u8 ((s[0]'h0).toNat:Int)] w fun e w'=>e=.returned (.bool false)/\w=w'):=fun w=>by rw[<-hl];exact lk _ w
  have HB:Hid (okB 0 ((s[0]'h0).toNat:Int)=false):=hl;clear hl;go_enter Tryz.func182,Tryz.ntmps182;go_wp2_with (go_at_call 184;refine (HC.out _).mono ?_;rintro e w1 ⟨rfl,rfl⟩);go_ret;exact⟨false,rfl,eh h0 HB.out,rfl⟩
 ·have HC:Hid (∀w,Calls Tryz.prog 184 #[.int .u8 ((s[0]'h0).toNat:Int)] w fun e w'=>e=.returned (.bool true)/\w=w'):=fun w=>by rw[<-hl];exact lk _ w
  have HB:Hid (okB 0 ((s[0]'h0).toNat:Int)=true):=hl;clear hl;go_enter Tryz.func182,Tryz.ntmps182;go_wp2_with (go_at_call 184;refine (HC.out _).mono ?_;rintro e w1 ⟨rfl,rfl⟩);go_loop [3] (fun i=> ∃k:Nat,1<=k/\k<=s.size/\i=.int .i64 k/\∀i (h:i<s.size),i<k->okB i ((s[i]'h).toNat:Int)=true) (fun i=>s.size - (intOf i).toNat);case atStart=>exact⟨1,by omega,by omega,rfl,fun i _ h=>by obtain rfl:i=0:=af;exact HB.out⟩
  case round=>
   obtain⟨k,hk1,hk,rfl,hall⟩:=hrel;have HA:Hid (∀i (h:i<s.size),i<k->okB i ((s[i]'h).toNat:Int)=true):=hall;clear hall HC HB;by_cases hlt:k<s.size
   ·cases hok:nbB ((s[k]'hlt).toNat:Int)
    ·have HC:Hid (∀w,Calls Tryz.prog 185 #[.int .u8 ((s[k]'hlt).toNat:Int)] w fun e w'=>e=.returned (.bool false)/\w=w'):=fun w=>by rw[<-hok];exact oa _ w
     have HB:Hid (okB k ((s[k]'hlt).toNat:Int)=false):=by unfold okB;rw[if_neg af];exact hok
     clear hok;go_wp2_with (go_at_call 185;refine (HC.out _).mono ?_;rintro e w1 ⟨rfl,rfl⟩);go_ret;exact⟨false,rfl,eh hlt HB.out,rfl⟩
    ·have HC:Hid (∀w,Calls Tryz.prog 185 #[.int .u8 ((s[k]'hlt).toNat:Int)] w fun e w'=>e=.returned (.bool true)/\w=w'):=fun w=>by rw[<-hok];exact oa _ w
     have HB:Hid (okB k ((s[k]'hlt).toNat:Int)=true):=by unfold okB;rw[if_neg af];exact hok
     clear hok;go_wp2_with (go_at_call 185;refine (HC.out _).mono ?_;rintro e w1 ⟨rfl,rfl⟩);go_round;case rel=>exact⟨k+1,by omega,by omega,by go_num,gh hlt HB.out HA.out⟩
     case measure=>simp[intOf];omega
   ·exact nX

def ar (w:World) (a:Option Addr) (len cap:Nat) (zs:List ByteArray):Prop:=
 zs.length=len/\len<=cap/\cap<=9223372036854775807/\(∀(j:Nat) x,zs[j]?=some x->x.size<=9223372036854775807)/\
 (zs=[]\/∃b o,a=some ⟨b,o,none⟩/\b<w.heap.size/\∀(j:Nat) x,zs[j]?=some x->w.cell? ⟨b,o+j,none⟩=some (.string x))
theorem ai {w w':World} (hb:Below w.heap.size w w') {b o:Nat} (h:b<w.heap.size):w'.cell? ⟨b,o,none⟩=w.cell? ⟨b,o,none⟩:=by
 simp[World.cell?,hb.block b h]
theorem ar.below {w w':World} {a:Option Addr} {len cap:Nat} {zs:List ByteArray} (h:ar w a len cap zs) (hb:Below w.heap.size w w'):ar w' a len cap zs:=by
 obtain⟨h1,h2,h3,h4,h5⟩:=h;refine⟨h1,h2,h3,h4,?_⟩;rcases h5 with h5|⟨b,o,rfl,hlt,hc⟩
 ·exact Or.inl h5
 ·exact Or.inr ⟨b,o,rfl,sG hlt hb.size,fun j x hx=>by rw[ai hb hlt];exact hc j x hx⟩
theorem ar.at {w:World} {a:Option Addr} {len cap:Nat} {zs:List ByteArray} (h:ar w a len cap zs) {k:Nat} (hk:k<len):
  ∃b o x,a=some ⟨b,o,none⟩/\b<w.heap.size/\zs[k]?=some x/\w.cell? ⟨b,o+k,none⟩=some (.string x)/\x.size<=9223372036854775807:=by
 obtain⟨h1,h2,h3,h4,h5⟩:=h;have hx:zs[k]?=some (zs[k]'(by omega)):=sA _;rcases h5 with h5|⟨b,o,rfl,hlt,hc⟩
 ·subst h5;simp at h1;omega
 ·exact⟨b,o,_,rfl,hlt,hx,hc k _ hx,h4 k _ hx⟩

def rI (left:Int) (p:Prop) (w:World) (e:Ending) (w':World):Prop:=∃r:Int,e=.returned (.int .i64 r)/\(r= -1\/(0<=r/\r<=left/\p))/\w=w'

theorem kJ (a:Option Addr) (len cap:Nat) (zs:List ByteArray) (left:Int) (w:World) (hr:ar w a len cap zs) (h0:0<=left) (h1:left<=1048576):
  Calls Tryz.prog 78 #[.slice a len cap,.int .i64 left] w (rI left ((len:Int)<=left) w):=by
 have HR:Hid (ar w a len cap zs):=hr;have hlc:=sC hr.2.1 hr.2.2.1;clear hr;by_cases hl:left<(len:Int)
 ·go_enter Tryz.func78,Tryz.ntmps78;go_wp2;go_ret;exact⟨-1,rfl,.inl rfl,rfl⟩
 go_enter Tryz.func78,Tryz.ntmps78;go_wp2;go_loop [1,5] (fun l i=> ∃(k:Nat) (m:Int),k<=len/\l=.int .i64 m/\i=.int .i64 k/\0<=m/\m<=left) (fun _ i=>len - (intOf i).toNat);case atStart=>exact⟨0,left - len,by omega,by go_num,rfl,by omega,by omega⟩
 case round=>
  obtain⟨k,m,hk,rfl,rfl,hm0,hm1⟩:=hrel;by_cases hlt:k<len
  ·obtain⟨b,o,x,rfl,hb,hx,hc,hsz⟩:=HR.at hlt;by_cases hs:m<(x.size:Int)
   ·go_wp2;go_ret;exact⟨-1,rfl,.inl rfl,rfl⟩
   ·go_wp2;exact⟨⟨k+1,m - x.size,by omega,by go_num,by go_num,by omega,by omega⟩,by simp[intOf];omega⟩
  ·go_wp2;go_ret;exact⟨m,rfl,.inr ⟨hm0,hm1,by omega⟩,rfl⟩

theorem fh:(Tryz.prog.info? 9).map (fun i=>(i.zero,i.size,i.bytes))=some (some (.string ⟨#[]⟩),1,16):=by kernel_rfl
theorem aD {w:World} {g i:Nat} {cs:Array Value} {t:TypeId} {fr:Nat×Nat} (h:w.heap[g]?=some (.cells cs t fr)) (v:Value):(w.setCell ⟨g,i,none⟩ v).heap[g]?=some (.cells (cs.setIfInBounds i v) t fr):=by
 obtain⟨hl,hh⟩:=sO.1 h;unfold sZ;simp[Array.getElem?_modify,h]
theorem take_set {α:Type} {zs Z:List α} {k:Nat} {x:α} (h:zs[k]?=some x) (hk:k<zs.length) (hZ:Z.length=zs.length):
  ((zs.take k++Z.drop k).toArray.setIfInBounds k x)=(zs.take (k+1)++Z.drop (k+1)).toArray:=by
 apply Array.ext';have hl:(zs.take k).length=k:=by rw[sU];omega
 have hd:Z.drop k=Z[k]'(by omega) ::Z.drop (k+1):=tH af;rw[tc,h,hd];simp only[List.setIfInBounds_toArray,List.set_append,hl,Nat.lt_irrefl,if_false,Nat.sub_self,tF,Option.toList_some,tD,List.singleton_append]

theorem mb {w:World} {B g n:Nat} {e:TypeId} {xs:List Value} (h:w.ownsRow B e 1 (.slice (some ⟨g,0,none⟩) n n) n xs):
  w.heap[g]?=some (.cells xs.toArray e (0,0))/\xs.length=n/\B<=g:=by
 obtain⟨h1,h2⟩:=h;rcases h2 with ⟨h3,_⟩|⟨g',cap,cur,hv,hB,hh,_,_,hsz,htk⟩
 ·cases h3
 ·simp only[tU,tn,Addr.mk.injEq] at hv;obtain⟨⟨rfl,_,_⟩,_,rfl⟩:=hv;have hl:cur.toList.length<=n*1:=by simp[hsz]
  rw[sE hl] at htk;subst htk;exact⟨by simpa using hh,by simpa using hsz,hB⟩

theorem gy (a:Option Addr) (len cap:Nat) (zs:List ByteArray) (w:World) (hr:ar w a len cap zs) (hl:len<=1048576):
  Calls Tryz.prog 82 #[.slice a len cap] w fun e w'=>e=.returned (.slice (some ⟨w.heap.size,0,none⟩) len len)/\w'.heap[w.heap.size]?=some (.cells (zs.map sP).toArray 9 (0,0))/\Below w.heap.size w w':=by
 have HR:Hid (ar w a len cap zs):=hr;have hzl:=hr.1;clear hr;obtain⟨i0,hi,hz0,hz1,hz2⟩:=info_parts fh;go_enter Tryz.func82,Tryz.ntmps82;go_wp2_with (at_make;refine wpList_make_full _ rfl _ _ 54 rfl w.heap.size 9 i0 (.string ⟨#[]⟩) 1 Tryz.underlying54 hi hz0 hz1 _ _ _ _ len rfl rfl af af fq fc (sy _) ?_);intro w1 hown hgrow;obtain⟨hg1,hz,-⟩:=mb hown;obtain⟨Z,hZ⟩:∃Z,Z=(madeCells #[sP ⟨#[]⟩] len).toList:=⟨_,rfl⟩;have hnx1:=(sB _ _).grown hgrow (sy _) (fun k hk=>by cases hk);rw[<-hZ] at hg1 hz;have HG:Hid (w1.heap[w.heap.size]?=some (.cells (((zs.map sP).take 0++Z.drop 0)).toArray 9 (0,0))):=by simpa[Hid] using hg1
 have HB:Hid (Below w.heap.size w w1):=hnx1;clear hZ hown hgrow hg1 hi hz0 hz1 hz2 hnx1;go_wp2;go_loopw [4] (fun i wr=> ∃k:Nat,k<=len/\i=.int .i64 k/\Hid (wr.heap[w.heap.size]?=some (.cells (((zs.map sP).take k++Z.drop k)).toArray 9 (0,0)))/\Hid (Below w.heap.size w wr)) (fun i _=>len - (intOf i).toNat);case atStart=>exact⟨0,by omega,rfl,HG,HB⟩
 case round=>
  obtain⟨k,hk,rfl,HG,HB⟩:=hrel;by_cases hlt:k<len
  ·obtain⟨b,o,x,rfl,hb,hx,hc,hsz⟩:=(HR.below HB.out).at hlt;have hlz:(zs.map sP).length=len:=by simp[hzl]
   have hcl:(((zs.map sP).take k++Z.drop k)).length=len:=by rw[sY,sU,tv,hlz,hz];omega
   have hcw:wr.cell? ⟨w.heap.size,k,none⟩=some ((((zs.map sP).take k++Z.drop k))[k]'(by omega)):=by
    simp only[World.cell?,HG.out];simp
   have hfw:wr.frozen? ⟨w.heap.size,k,none⟩=false:=by simp[World.frozen?,HG.out]
   go_wp2;refine⟨⟨k+1,by omega,by go_num,?_,HB.setCell (sy _) _⟩,by simp[intOf];omega⟩;show _=_;rw[aD HG.out,take_set (by simp[hx]) af af]
  ·obtain rfl:k=len:=af
   go_wp2;go_ret;refine⟨rfl,?_,HB.out⟩;rw[HG.out,sE (by simp[hzl]),List.drop_eq_nil_of_le af,List.append_nil]

theorem bz {a b:ByteArray} (h:¬a=b):(a.toList==b.toList)=false:=by
 rw[beq_eq_false_iff_ne];intro e;rw[ub,ub] at e;exact h (by cases a;cases b;simp at e;rw[e])
def al (p:Prop) (w:World) (e:Ending) (w':World):Prop:=∃r:Bool,e=.returned (.bool r)/\(r=true↔p)/\Below w.heap.size w w'

theorem lv (a a':Option Addr) (len len' cap cap':Nat) (zs zs':List ByteArray) (w:World) (hr:ar w a len cap zs) (hr':ar w a' len' cap' zs'):
  Calls Tryz.prog 88 #[.slice a len cap,.slice a' len' cap'] w (al (zs=zs') w):=by
 have HR:Hid (ar w a len cap zs):=hr;have HR':Hid (ar w a' len' cap' zs'):=hr';have hlc:=sC hr.2.1 hr.2.2.1;have hlc':=sC hr'.2.1 hr'.2.2.1;have hzl:=hr.1;have hzl':=hr'.1;clear hr hr';by_cases hne:len=len'
 ·subst hne;go_enter Tryz.func88,Tryz.ntmps88;go_wp2;go_loopw [5] (fun i wr=> ∃k:Nat,k<=len/\i=.int .i64 k/\Hid (∀j,j<k->zs[j]?=zs'[j]?)/\Hid (Below w.heap.size w wr)) (fun i _=>len - (intOf i).toNat);case atStart=>exact⟨0,by omega,rfl,fun j hj=>by omega,sB _ _⟩
  case round=>
   obtain⟨k,hk,rfl,HE,HB⟩:=hrel;by_cases hlt:k<len
   ·obtain⟨b,o,x,rfl,hb,hx,hc,hsz⟩:=(HR.below HB.out).at hlt;obtain⟨b',o',x',rfl,hb',hx',hc',hsz'⟩:=(HR'.below HB.out).at hlt;by_cases hxx:x=x'
    ·have hq:(x.toList==x'.toList)=true:=by rw[hxx];simp
     go_wp2;go_quiet (fail);go_wp2;refine⟨⟨k+1,by omega,by go_num,fun j hj=>?_,below_drewN HB.out _⟩,by simp[intOf];omega⟩;by_cases e:j=k
     ·subst e;rw[hx,hx',hxx]
     ·exact HE.out j af
    ·have hq:=bz hxx;go_wp2;go_quiet (fail);go_wp2;go_ret;refine⟨false,rfl,⟨fun h=>bp,fun h=>?_⟩,below_drewN HB.out _⟩;subst h;rw[hx] at hx';exact absurd (sx hx') hxx
   ·obtain rfl:k=len:=af
    go_wp2;go_ret;refine⟨true,rfl,⟨fun _=>List.ext_getElem? fun j=>?_,fun _=>rfl⟩,HB.out⟩;by_cases hj:j<zs.length
    ·exact HE.out j af
    ·rw[s9 af,s9 af]
 ·have hne':¬(len:Int)=len':=af
  go_enter Tryz.func88,Tryz.ntmps88;go_wp2;go_ret;exact⟨false,rfl,⟨fun h=>bp,fun h=>absurd (congrArg List.length h) af⟩,sB _ _⟩

def eP (zs:List ByteArray):Prop:=∀(i:Nat) x,zs[i]?=some x->aX x/\∀y,0<i->zs[i - 1]?=some y->sJ y.toList x.toList=true
def cK (zs:List ByteArray) (most:Int):Prop:=(zs.length:Int)<=most/\eP zs
theorem fJ:∀x y:List UInt8,(sJ y x || y==x)=!sJ x y
 | [],[]=>by simp[sJ]
 | _ ::_,[]=>by simp[sJ]
 | [],_ ::_=>by simp[sJ]
 | a ::x,b ::y=>by
  have ih:=fJ x y;simp only[sJ];rcases Nat.lt_trichotomy a.toNat b.toNat with h|h|h
  ·have h1:=tR.2 h;have h2:¬b<a:=fun h'=>by have:=tR.1 h';omega
   have h3:¬b=a:=fun h'=>by subst h';omega
   simp[h1,h2,h3]
  ·obtain rfl:a=b:=UInt8.toNat_inj.1 h;have h2:¬a<a:=fun h'=>by have:=tR.1 h';omega
   simp[h2];simpa using ih
  ·have h1:=tR.2 h;have h2:¬a<b:=fun h'=>by have:=tR.1 h';omega
   have h3:¬a=b:=fun h'=>by subst h';omega
   simp[h1,h2,h3]

theorem br.yes {p:Prop} {w w':World} {e:Ending} (h:br p w e w') (hp:p):e=.returned (.bool true)/\w'=w:=by
 obtain⟨r,rfl,hr,rfl⟩:=h;exact⟨by rw[hr.2 hp],rfl⟩
theorem br.no {p:Prop} {w w':World} {e:Ending} (h:br p w e w') (hp:¬p):e=.returned (.bool false)/\w'=w:=by
 obtain⟨r,rfl,hr,rfl⟩:=h;cases r
 ·exact⟨rfl,rfl⟩
 ·exact absurd (hr.1 rfl) hp
theorem eP.step {zs:List ByteArray} {k:Nat} {x:ByteArray} (h:eP (zs.take k)) (hx:zs[k]?=some x) (hn:aX x) (hy:∀y,0<k->zs[k - 1]?=some y->sJ y.toList x.toList=true):eP (zs.take (k+1)):=by
 intro i z hz;rw[sW] at hz;split at hz
 ·rename_i hi;by_cases e:i=k
  ·subst e;rw[hx] at hz;obtain rfl:=sx hz;refine⟨hn,fun y h0 h1=>hy y h0 ?_⟩;rw[sW,if_pos af] at h1;exact h1
  ·have:=h i z (by rw[sW,if_pos af];exact hz);refine⟨this.1,fun y h0 h1=>this.2 y h0 ?_⟩;rw[sW,if_pos af] at h1 ⊢;exact h1
 ·cases hz

theorem cQ (a:Option Addr) (len cap:Nat) (zs:List ByteArray) (most:Int) (w:World) (hr:ar w a len cap zs):
  Calls Tryz.prog 137 #[.slice a len cap,.int .i64 most] w (al (cK zs most) w):=by
 have HR:Hid (ar w a len cap zs):=hr;have hlc:=sC hr.2.1 hr.2.2.1;have hzl:=hr.1;clear hr;go_enter Tryz.func137,Tryz.ntmps137;go_wp2;go_loopw [5] (fun i wr=> ∃k:Nat,k<=len/\i=.int .i64 k/\Hid (eP (zs.take k))/\Hid (Below w.heap.size w wr)) (fun i _=>len - (intOf i).toNat);case atStart=>exact⟨0,by omega,rfl,fun i x h=>by simp at h,sB _ _⟩
 case round=>
  obtain⟨k,hk,rfl,HE,HB⟩:=hrel;by_cases hlt:k<len
  ·obtain⟨b,o,x,rfl,hb,hx,hc,hsz⟩:=(HR.below HB.out).at hlt;by_cases hn:aX x
   ·have HY:Hid (∀w,Calls Tryz.prog 135 #[.string x] w fun e w'=>e=.returned (.bool true)/\w'=w):=fun w=>(aN x w hsz).mono fun _ _ h=>h.yes hn;by_cases hk0:0<k
    ·obtain⟨b',o',y,e',hb',hy,hcy,-⟩:=(HR.below HB.out).at (k:=k - 1) af;cases e';have ek:((k:Int) - 1).toNat=k - 1:=af
     cases hless:sJ y.toList x.toList
     ·go_wp2;go_quiet ((go_at_call 135;exact sQ (HY.out _)));go_wp2;go_ret;exact⟨false,rfl,⟨fun h=>bp,fun h=>absurd ((h.2 k x hx).2 y hk0 hy) (by rw[hless];decide)⟩,below_drewN HB.out _⟩
     ·go_wp2;go_quiet ((go_at_call 135;exact sQ (HY.out _)));go_wp2;exact⟨⟨k+1,by omega,by go_num,HE.step hx hn (fun y' _ hy'=>by rw[hy] at hy';obtain rfl:=sx hy';exact hless),below_drewN HB.out _⟩,by simp[intOf];omega⟩
    ·have hd:decide ((0:Int)<k)=false:=by simp;omega
     go_wp2;go_quiet ((go_at_call 135;exact sQ (HY.out _)));go_wp2;exact⟨⟨k+1,by omega,by go_num,HE.step hx hn (fun y' h0 _=>absurd h0 hk0),below_drewN HB.out _⟩,by simp[intOf];omega⟩
   ·have HY:Hid (∀w,Calls Tryz.prog 135 #[.string x] w fun e w'=>e=.returned (.bool false)/\w'=w):=fun w=>(aN x w hsz).mono fun _ _ h=>h.no hn;go_wp2;go_quiet ((go_at_call 135;exact sQ (HY.out _)));go_wp2;go_ret;exact⟨false,rfl,⟨fun h=>bp,fun h=>absurd (h.2 k x hx).1 hn⟩,below_drewN HB.out _⟩
  ·obtain rfl:k=len:=af
   go_wp2;go_ret;refine⟨_,rfl,?_,HB.out⟩;have hR:=HE.out;rw[sE af] at hR;unfold cK;simp[hR,hzl]

theorem jj {x:ByteArray} (h:1<=x.size):sJ (⟨#[]⟩:ByteArray).toList x.toList=true:=by
 rw[ub,ub];rw[Lib.size_eq] at h;cases e:x.data.toList with
 | nil=>rw[e] at h;simp at h
 | cons a l=>rfl

theorem cX (a:Option Addr) (len cap:Nat) (zs:List ByteArray) (most:Int) (w:World) (hr:ar w a len cap zs):
  Calls Tryz.prog 183 #[.slice a len cap,.int .i64 most] w (br (cK zs most) w):=by
 have HR:Hid (ar w a len cap zs):=hr;have hlc:=sC hr.2.1 hr.2.2.1;have hzl:=hr.1;clear hr;by_cases hm:most<(len:Int)
 ·go_enter Tryz.func183,Tryz.ntmps183;go_wp2;go_ret;exact⟨false,rfl,⟨fun h=>bp,fun h=>absurd h.1 af⟩,rfl⟩
 go_enter Tryz.func183,Tryz.ntmps183;go_wp2;go_loop [5,14] (fun p i=> ∃(k:Nat) (y:ByteArray),k<=len/\p=.string y/\i=.int .i64 k/\Hid (k=0->y=⟨#[]⟩)/\Hid (0<k->zs[k - 1]?=some y)/\Hid (eP (zs.take k))) (fun _ i=>len - (intOf i).toNat);case atStart=>exact⟨0,_,by omega,rfl,rfl,fun _=>rfl,fun h=>absurd h af,fun i x h=>by simp at h⟩
 case round=>
  obtain⟨k,y,hk,rfl,rfl,H0,H1,HE⟩:=hrel;by_cases hlt:k<len
  ·obtain⟨b,o,x,rfl,hb,hx,hc,hsz⟩:=HR.at hlt;by_cases hn:aX x
   ·have HY:Hid (∀w,Calls Tryz.prog 182 #[.string x] w fun e w'=>e=.returned (.bool true)/\w'=w):=fun w=>(aM x w hsz).mono fun _ _ h=>h.yes hn;have htri:=fJ y.toList x.toList;cases hless:sJ y.toList x.toList
    ·rw[hless] at htri;go_wp2_with (go_at_call 182;refine (HY.out _).mono ?_;rintro e w1 ⟨rfl,rfl⟩);go_ret;refine⟨false,rfl,⟨fun h=>bp,fun h=>?_⟩,rfl⟩;by_cases hk0:0<k
     ·exact absurd ((h.2 k x hx).2 y hk0 (H1.out hk0)) (by rw[hless];decide)
     ·have:=H0.out af;subst this;rw[jj hn.1] at hless;cases hless
    ·rw[hless] at htri;go_wp2_with (go_at_call 182;refine (HY.out _).mono ?_;rintro e w1 ⟨rfl,rfl⟩);refine⟨⟨k+1,x,by omega,rfl,by go_num,fun h=>absurd h af,fun _=>hx,HE.step hx hn (fun y' h0 hy'=>?_)⟩,by simp[intOf];omega⟩;rw[H1.out h0] at hy';obtain rfl:=sx hy';exact hless
   ·have HY:Hid (∀w,Calls Tryz.prog 182 #[.string x] w fun e w'=>e=.returned (.bool false)/\w'=w):=fun w=>(aM x w hsz).mono fun _ _ h=>h.no hn;go_wp2_with (go_at_call 182;refine (HY.out _).mono ?_;rintro e w1 ⟨rfl,rfl⟩);go_ret;exact⟨false,rfl,⟨fun h=>bp,fun h=>absurd (h.2 k x hx).1 hn⟩,rfl⟩
  ·obtain rfl:k=len:=af
   have hR:=HE.out;rw[sE af] at hR;go_wp2;go_ret;exact⟨true,rfl,⟨fun _=>⟨by omega,hR⟩,fun _=>rfl⟩,rfl⟩

def b9 (s:ByteArray):Prop:=s=⟨#[]⟩\/aX s
def Inn (n a b:Int):Prop:=a<=n/\n<=b

theorem gI (n a b:Int) (w:World):
  Calls Tryz.prog 115 #[.int .i64 n,.int .i64 a,.int .i64 b] w (br (Inn n a b) w):=by
 go_enter Tryz.func115,Tryz.ntmps115;go_wp2;all_goals (go_ret;exact⟨_,rfl,by unfold Inn;simp;omega,rfl⟩)

theorem a_ (n a b:Int) (w:World):
  Calls Tryz.prog 125 #[.int .i64 n,.int .i64 a,.int .i64 b] w (br (Inn n a b) w):=by
 go_enter Tryz.func125,Tryz.ntmps125;go_wp2;all_goals (go_ret;exact⟨_,rfl,by unfold Inn;simp;omega,rfl⟩)

theorem jk (n:Int) (w:World):
  Calls Tryz.prog 136 #[.int .i64 n] w (br (Inn n 0 1000000) w):=by
 go_enter Tryz.func136,Tryz.ntmps136;exact nh

theorem du (n:Int) (w:World):
  Calls Tryz.prog 139 #[.int .i64 n] w (br (Inn n 1 1048576) w):=by
 go_enter Tryz.func139,Tryz.ntmps139;exact nh

theorem gi (n:Int) (w:World):
  Calls Tryz.prog 99 #[.int .i64 n] w (br (Inn n 0 1000000) w):=by
 go_enter Tryz.func99,Tryz.ntmps99;exact nh

theorem aa {p:Prop} (h:p):Hid p:=h
theorem aZ {s:ByteArray} (h:¬s=⟨#[]⟩):s.toList.isEmpty=false:=by
 have:=bz h;rw[ub] at this ⊢;cases e:s.data.toList with
 | nil=>exact absurd (by cases s;simp at e;rw[e]) h
 | cons a l=>rfl
theorem lq:(⟨#[]⟩:ByteArray).toList.isEmpty=true:=by rw[ub];rfl
theorem bE {w w1:World} {vs:Array Value} {T:TypeId} (hb:Below (w.alloc (.cells vs T)).heap.size (w.alloc (.cells vs T)) w1):
  w1.heap[w.heap.size]?=some (.cells vs T (0,0))/\Below w.heap.size w w1/\w.heap.size<w1.heap.size:=by
 have hs:(w.alloc (.cells vs T)).heap.size=w.heap.size+1:=aT
 have h1:=hb.size;refine⟨?_,?_,by omega⟩
 ·rw[hb.block _ af];show (w.heap.push _)[w.heap.size]?=_;simp
 ·exact ((sB w.heap.size w).alloc (sy _) _).trans (hb.mono af)
theorem eE {w w1:World} {vs:Array Value} {T:TypeId} (hb:Below (w.alloc (.cells vs T)).drew.heap.size (w.alloc (.cells vs T)).drew w1):
  w1.heap[w.heap.size]?=some (.cells vs T (0,0))/\Below w.heap.size w w1/\w.heap.size<w1.heap.size:=bE ⟨hb.os,hb.tape,hb.output,hb.size,hb.block⟩
theorem ay {w:World} {b:Nat} {vs:Array Value} {T:TypeId} {f:Nat×Nat} (h:w.heap[b]?=some (.cells vs T f)) (i:Nat):w.cell? ⟨b,i,none⟩=vs[i]?:=by simp[World.cell?,h]
theorem ck0 {w:World} {b:Nat} {T:TypeId} {f:Nat×Nat} {v0:Value} {r:List Value} (h:w.heap[b]?=some (.cells (v0 ::r).toArray T f)):w.cell? ⟨b,0,none⟩=some v0:=ay h 0
theorem ck1 {w:World} {b:Nat} {T:TypeId} {f:Nat×Nat} {v0 v1:Value} {r:List Value} (h:w.heap[b]?=some (.cells (v0::v1 ::r).toArray T f)):w.cell? ⟨b,1,none⟩=some v1:=ay h 1
theorem ck2 {w:World} {b:Nat} {T:TypeId} {f:Nat×Nat} {v0 v1 v2:Value} {r:List Value} (h:w.heap[b]?=some (.cells (v0::v1::v2 ::r).toArray T f)):w.cell? ⟨b,2,none⟩=some v2:=ay h 2
theorem ck3 {w:World} {b:Nat} {T:TypeId} {f:Nat×Nat} {v0 v1 v2 v3:Value} {r:List Value} (h:w.heap[b]?=some (.cells (v0::v1::v2::v3 ::r).toArray T f)):w.cell? ⟨b,3,none⟩=some v3:=ay h 3
theorem ck4 {w:World} {b:Nat} {T:TypeId} {f:Nat×Nat} {v0 v1 v2 v3 v4:Value} {r:List Value} (h:w.heap[b]?=some (.cells (v0::v1::v2::v3::v4 ::r).toArray T f)):w.cell? ⟨b,4,none⟩=some v4:=ay h 4
theorem ck5 {w:World} {b:Nat} {T:TypeId} {f:Nat×Nat} {v0 v1 v2 v3 v4 v5:Value} {r:List Value} (h:w.heap[b]?=some (.cells (v0::v1::v2::v3::v4::v5 ::r).toArray T f)):w.cell? ⟨b,5,none⟩=some v5:=ay h 5
theorem ck6 {w:World} {b:Nat} {T:TypeId} {f:Nat×Nat} {v0 v1 v2 v3 v4 v5 v6:Value} {r:List Value} (h:w.heap[b]?=some (.cells (v0::v1::v2::v3::v4::v5::v6 ::r).toArray T f)):w.cell? ⟨b,6,none⟩=some v6:=ay h 6
theorem ck7 {w:World} {b:Nat} {T:TypeId} {f:Nat×Nat} {v0 v1 v2 v3 v4 v5 v6 v7:Value} {r:List Value} (h:w.heap[b]?=some (.cells (v0::v1::v2::v3::v4::v5::v6::v7 ::r).toArray T f)):w.cell? ⟨b,7,none⟩=some v7:=ay h 7
theorem aj (w:World) (o:Obj):Below w.heap.size w (w.alloc o):=(sB _ _).alloc (sy _) o

theorem cm (s:ByteArray) (w:World) (hs:s.size<=9223372036854775807):
  Calls Tryz.prog 138 #[.string s] w (br (b9 s) w):=by
 by_cases h0:s=⟨#[]⟩
 ·subst h0;go_enter Tryz.func138,Tryz.ntmps138;go_wp2;go_ret;exact⟨_,rfl,by unfold b9;simp,rfl⟩
 ·have hq:=aZ h0;go_enter Tryz.func138,Tryz.ntmps138;go_wp2_with (go_at_call 135;refine (aN _ _ hs).mono ?_;rintro e w1 ⟨r,rfl,hr,rfl⟩);go_ret;exact⟨r,rfl,by unfold b9;simp[h0,hr],rfl⟩

theorem bU (s:ByteArray) (w:World) (hs:s.size<=9223372036854775807):
  Calls Tryz.prog 189 #[.string s] w (br (b9 s) w):=by
 by_cases h0:s=⟨#[]⟩
 ·subst h0;go_enter Tryz.func189,Tryz.ntmps189;go_wp2;go_ret;exact⟨_,rfl,by unfold b9;simp,rfl⟩
 ·have hq:=aZ h0;go_enter Tryz.func189,Tryz.ntmps189;go_wp2_with (go_at_call 182;refine (aM _ _ hs).mono ?_;rintro e w1 ⟨r,rfl,hr,rfl⟩);go_ret;exact⟨r,rfl,by unfold b9;simp[h0,hr],rfl⟩

def kD (n z:ByteArray) (c s u:Int) (zs:List ByteArray):Prop:=aX n/\aX z/\Inn c 0 1000000/\Inn s 0 8/\Inn u 0 1000000/\cK zs 8
theorem dr (n z:ByteArray) (c s u:Int) (d:Bool) (a:Option Addr) (len cap:Nat) (zs:List ByteArray) (w:World) (hn:n.size<=9223372036854775807) (hz:z.size<=9223372036854775807) (hr:ar w a len cap zs):
  Calls Tryz.prog 116 #[.agg #[.string n,.string z,.int .i64 c,.int .i64 s,.int .i64 u,.bool d,.slice a len cap]] w (al (kD n z c s u zs) w):=by
 have HR:Hid (ar w a len cap zs):=hr;clear hr;go_enter Tryz.func116,Tryz.ntmps116;go_wp2_with fail;refine (aN n _ hn).mono ?_;rintro e w1 ⟨r,rfl,hr,rfl⟩;by_cases hq:r=true;case neg=>
  exact fw
 have h0:=aa (hr.1 hq);subst hq;clear hr;go_wp2_with fail;refine (aN z _ hz).mono ?_;rintro e w1 ⟨r,rfl,hr,rfl⟩;by_cases hq:r=true;case neg=>
  exact ed
 have h1:=aa (hr.1 hq);subst hq;clear hr;go_wp2_with fail;refine (jk c _).mono ?_;rintro e w1 ⟨r,rfl,hr,rfl⟩;by_cases hq:r=true;case neg=>
  exact ee
 have h2:=aa (hr.1 hq);subst hq;clear hr;go_wp2_with fail;refine (gI s 0 8 _).mono ?_;rintro e w1 ⟨r,rfl,hr,rfl⟩;by_cases hq:r=true;case neg=>
  exact ga
 have h3:=aa (hr.1 hq);subst hq;clear hr;go_wp2_with fail;refine (gi u _).mono ?_;rintro e w1 ⟨r,rfl,hr,rfl⟩;by_cases hq:r=true;case neg=>
  exact iZ
 have h4:=aa (hr.1 hq);subst hq;clear hr;go_wp2_with fail;refine (cQ a len cap zs 8 _ (HR.below (aj _ _))).mono ?_;rintro e w1 ⟨r,rfl,hr,hb⟩;go_wp2_with fail;go_ret;exact⟨r,rfl,⟨fun h=>⟨h0.out,h1.out,h2.out,h3.out,h4.out,hr.1 h⟩,fun h=>hr.2 h.2.2.2.2.2⟩,(bE hb).2.1⟩

theorem lZ (n z:ByteArray) (c s u:Int) (d:Bool) (a:Option Addr) (len cap:Nat) (zs:List ByteArray) (w:World) (hn:n.size<=9223372036854775807) (hz:z.size<=9223372036854775807) (hr:ar w a len cap zs):
  Calls Tryz.prog 181 #[.agg #[.string n,.string z,.int .i64 c,.int .i64 s,.int .i64 u,.bool d,.slice a len cap]] w (al (kD n z c s u zs) w):=by
 have HR:Hid (ar w a len cap zs):=hr;clear hr;go_enter Tryz.func181,Tryz.ntmps181;go_wp2_with fail;refine (aM n _ hn).mono ?_;rintro e w1 ⟨r,rfl,hr,rfl⟩;by_cases hq:r=true;case neg=>
  exact fw
 have h0:=aa (hr.1 hq);subst hq;clear hr;go_wp2_with fail;refine (aM z _ hz).mono ?_;rintro e w1 ⟨r,rfl,hr,rfl⟩;by_cases hq:r=true;case neg=>
  exact ed
 have h1:=aa (hr.1 hq);subst hq;clear hr;go_wp2_with fail;refine (a_ c 0 1000000 _).mono ?_;rintro e w1 ⟨r,rfl,hr,rfl⟩;by_cases hq:r=true;case neg=>
  exact ee
 have h2:=aa (hr.1 hq);subst hq;clear hr;go_wp2_with fail;refine (a_ s 0 8 _).mono ?_;rintro e w1 ⟨r,rfl,hr,rfl⟩;by_cases hq:r=true;case neg=>
  exact ga
 have h3:=aa (hr.1 hq);subst hq;clear hr;go_wp2_with fail;refine (a_ u 0 1000000 _).mono ?_;rintro e w1 ⟨r,rfl,hr,rfl⟩;by_cases hq:r=true;case neg=>
  exact iZ
 have h4:=aa (hr.1 hq);subst hq;clear hr;go_wp2_with fail;refine (cX a len cap zs 8 _ (HR.below (aj _ _))).mono ?_;rintro e w1 ⟨r,rfl,hr,rfl⟩;go_wp2_with fail;go_ret;exact⟨r,rfl,⟨fun h=>⟨h0.out,h1.out,h2.out,h3.out,h4.out,hr.1 h⟩,fun h=>hr.2 h.2.2.2.2.2⟩,aj _ _⟩

def gW (n z:ByteArray):Prop:=aX n/\b9 z

theorem cR (n z:ByteArray) (x y:Bool) (w:World) (hn:n.size<=9223372036854775807) (hz:z.size<=9223372036854775807):
  Calls Tryz.prog 117 #[.agg #[.string n,.bool x,.bool y,.string z]] w (al (gW n z) w):=by
 go_enter Tryz.func117,Tryz.ntmps117;go_wp2_with fail;refine (aN n _ hn).mono ?_;rintro e w1 ⟨r,rfl,hr,rfl⟩;by_cases hq:r=true;case neg=>
  exact fw
 have h0:=aa (hr.1 hq);subst hq;clear hr;go_wp2_with fail;refine (cm z _ hz).mono ?_;exact nC

theorem kh (n z:ByteArray) (x y:Bool) (w:World) (hn:n.size<=9223372036854775807) (hz:z.size<=9223372036854775807):
  Calls Tryz.prog 197 #[.agg #[.string n,.bool x,.bool y,.string z]] w (al (gW n z) w):=by
 go_enter Tryz.func197,Tryz.ntmps197;go_wp2_with fail;refine (aM n _ hn).mono ?_;rintro e w1 ⟨r,rfl,hr,rfl⟩;by_cases hq:r=true;case neg=>
  exact fw
 have h0:=aa (hr.1 hq);subst hq;clear hr;go_wp2_with fail;refine (bU z _ hz).mono ?_;exact nC

def gX (n:ByteArray) (z:Int) (k v:ByteArray):Prop:=aX n/\Inn z 1 1048576/\aX k/\b9 v

theorem cS (n:ByteArray) (z:Int) (k:ByteArray) (x:Bool) (v:ByteArray) (w:World) (hn:n.size<=9223372036854775807) (hk:k.size<=9223372036854775807) (hv:v.size<=9223372036854775807):
  Calls Tryz.prog 119 #[.agg #[.string n,.int .i64 z,.string k,.bool x,.string v]] w (al (gX n z k v) w):=by
 go_enter Tryz.func119,Tryz.ntmps119;go_wp2_with fail;refine (aN n _ hn).mono ?_;rintro e w1 ⟨r,rfl,hr,rfl⟩;by_cases hq:r=true;case neg=>
  exact fw
 have h0:=aa (hr.1 hq);subst hq;clear hr;go_wp2_with fail;refine (du z _).mono ?_;rintro e w1 ⟨r,rfl,hr,rfl⟩;by_cases hq:r=true;case neg=>
  exact ed
 have h1:=aa (hr.1 hq);subst hq;clear hr;go_wp2_with fail;refine (aN k _ hk).mono ?_;rintro e w1 ⟨r,rfl,hr,rfl⟩;by_cases hq:r=true;case neg=>
  exact ee
 have h2:=aa (hr.1 hq);subst hq;clear hr;go_wp2_with fail;refine (cm v _ hv).mono ?_;exact nF

theorem ki (n:ByteArray) (z:Int) (k:ByteArray) (x:Bool) (v:ByteArray) (w:World) (hn:n.size<=9223372036854775807) (hk:k.size<=9223372036854775807) (hv:v.size<=9223372036854775807):
  Calls Tryz.prog 200 #[.agg #[.string n,.int .i64 z,.string k,.bool x,.string v]] w (al (gX n z k v) w):=by
 go_enter Tryz.func200,Tryz.ntmps200;go_wp2_with fail;refine (aM n _ hn).mono ?_;rintro e w1 ⟨r,rfl,hr,rfl⟩;by_cases hq:r=true;case neg=>
  exact fw
 have h0:=aa (hr.1 hq);subst hq;clear hr;go_wp2_with fail;refine (a_ z 1 1048576 _).mono ?_;rintro e w1 ⟨r,rfl,hr,rfl⟩;by_cases hq:r=true;case neg=>
  exact ed
 have h1:=aa (hr.1 hq);subst hq;clear hr;go_wp2_with fail;refine (aM k _ hk).mono ?_;rintro e w1 ⟨r,rfl,hr,rfl⟩;by_cases hq:r=true;case neg=>
  exact ee
 have h2:=aa (hr.1 hq);subst hq;clear hr;go_wp2_with fail;refine (bU v _ hv).mono ?_;exact nF

def cJ (d:ByteArray) (p:Int):Prop:=(p=0/\d=⟨#[]⟩)\/((p=1\/p=2)/\aX d)
def oO (n:ByteArray) (c:Int) (z:ByteArray) (zs:List ByteArray) (d:ByteArray) (p:Int):Prop:=aX n/\Inn c 0 1000000/\b9 z/\cK zs 3/\cJ d p
theorem dK (d:ByteArray):cJ d 0↔d=⟨#[]⟩:=by unfold cJ;simp
theorem dY {p:Int} (d:ByteArray) (h:p=1\/p=2):cJ d p↔aX d:=by
 unfold cJ;constructor
 ·rintro (⟨h1,_⟩|⟨_,h1⟩)
  ·omega
  ·exact h1
 ·exact fun h1=>Or.inr ⟨h,h1⟩
theorem ic {p:Int} {d:ByteArray} (h:p<0\/2<p):¬cJ d p:=by
 unfold cJ;rintro (⟨h1,_⟩|⟨h1,_⟩) <;> omega
theorem gK (s:ByteArray):s.toList.isEmpty=true↔s=⟨#[]⟩:=by
 constructor
 ·intro h;by_cases h0:s=⟨#[]⟩
  ·exact h0
  ·rw[aZ h0] at h;cases h
 ·rintro rfl;exact lq

theorem j8 (n:ByteArray) (c:Int) (z:ByteArray) (a:Option Addr) (len cap:Nat) (d:ByteArray) (p:Int) (w:World) (hd:d.size<=9223372036854775807):
  Calls Tryz.prog 194 #[.agg #[.string n,.int .i64 c,.string z,.slice a len cap,.string d,.int .i64 p]] w (al (cJ d p) w):=by
 by_cases h0:p=0
 ·subst h0;go_enter Tryz.func194,Tryz.ntmps194;go_wp2;go_ret;exact⟨_,rfl,by rw[dK,gK],aj _ _⟩
 have hq0:(p==0)=false:=by simp[h0]
 by_cases h1:p=1
 ·subst h1;go_enter Tryz.func194,Tryz.ntmps194;go_wp2_with (go_at_call 182;refine (aM _ _ hd).mono ?_;rintro e w1 ⟨r,rfl,hr,rfl⟩);go_ret;exact⟨r,rfl,by rw[dY d (Or.inl rfl),hr],aj _ _⟩
 have hq1:(p==1)=false:=by simp[h1]
 by_cases h2:p=2
 ·subst h2;go_enter Tryz.func194,Tryz.ntmps194;go_wp2_with (go_at_call 182;refine (aM _ _ hd).mono ?_;rintro e w1 ⟨r,rfl,hr,rfl⟩);go_ret;exact⟨r,rfl,by rw[dY d (Or.inr rfl),hr],aj _ _⟩
 have hq2:(p==2)=false:=by simp[h2]
 go_enter Tryz.func194,Tryz.ntmps194;go_wp2;go_ret;exact⟨false,rfl,⟨fun h=>bp,fun h=>absurd h (ic af)⟩,aj _ _⟩

theorem oz (n:ByteArray) (c:Int) (z:ByteArray) (a:Option Addr) (len cap:Nat) (zs:List ByteArray) (d:ByteArray) (p:Int) (w:World) (hn:n.size<=9223372036854775807) (hz:z.size<=9223372036854775807) (hd:d.size<=9223372036854775807) (hr:ar w a len cap zs):
  Calls Tryz.prog 193 #[.agg #[.string n,.int .i64 c,.string z,.slice a len cap,.string d,.int .i64 p]] w (al (oO n c z zs d p) w):=by
 have HR:Hid (ar w a len cap zs):=hr;clear hr;go_enter Tryz.func193,Tryz.ntmps193;go_wp2_with fail;refine (aM n _ hn).mono ?_;rintro e w1 ⟨r,rfl,hr,rfl⟩;by_cases hq:r=true;case neg=>
  exact fw
 have h0:=aa (hr.1 hq);subst hq;clear hr;go_wp2_with fail;refine (a_ c 0 1000000 _).mono ?_;rintro e w1 ⟨r,rfl,hr,rfl⟩;by_cases hq:r=true;case neg=>
  exact ed
 have h1:=aa (hr.1 hq);subst hq;clear hr;go_wp2_with fail;refine (bU z _ hz).mono ?_;rintro e w1 ⟨r,rfl,hr,rfl⟩;by_cases hq:r=true;case neg=>
  exact ee
 have h2:=aa (hr.1 hq);subst hq;clear hr;go_wp2_with fail;refine (cX a len cap zs 3 _ (HR.below (aj _ _))).mono ?_;rintro e w1 ⟨r,rfl,hr,rfl⟩;by_cases hq:r=true;case neg=>
  exact ga
 have h3:=aa (hr.1 hq);subst hq;clear hr;go_wp2_with fail;refine (j8 n c z a len cap d p _ hd).mono ?_;rintro e w1 ⟨r,rfl,hr,hb⟩;go_wp2_with fail;go_ret;exact⟨r,rfl,⟨fun h=>⟨h0.out,h1.out,h2.out,h3.out,hr.1 h⟩,fun h=>hr.2 h.2.2.2.2⟩,(bE hb).2.1⟩

theorem dZ (n:ByteArray) (c:Int) (z:ByteArray) (a:Option Addr) (len cap:Nat) (zs:List ByteArray) (d:ByteArray) (p:Int) (w:World) (hn:n.size<=9223372036854775807) (hz:z.size<=9223372036854775807) (hd:d.size<=9223372036854775807) (hr:ar w a len cap zs):
  Calls Tryz.prog 120 #[.agg #[.string n,.int .i64 c,.string z,.slice a len cap,.string d,.int .i64 p]] w (al (oO n c z zs d p) w):=by
 have HR:Hid (ar w a len cap zs):=hr;clear hr;go_enter Tryz.func120,Tryz.ntmps120;go_wp2_with fail;refine (aN n _ hn).mono ?_;rintro e w1 ⟨r,rfl,hr,rfl⟩;by_cases hq:r=true;case neg=>
  exact fw
 have h0:=aa (hr.1 hq);subst hq;clear hr;go_wp2_with fail;refine (jk c _).mono ?_;rintro e w1 ⟨r,rfl,hr,rfl⟩;by_cases hq:r=true;case neg=>
  exact ed
 have h1:=aa (hr.1 hq);subst hq;clear hr;go_wp2_with fail;refine (cm z _ hz).mono ?_;rintro e w1 ⟨r,rfl,hr,rfl⟩;by_cases hq:r=true;case neg=>
  exact ee
 have h2:=aa (hr.1 hq);subst hq;clear hr;go_wp2_with fail;refine (cQ a len cap zs 3 _ (HR.below (aj _ _))).mono ?_;rintro e w1 ⟨r,rfl,hr,hb⟩;obtain⟨hsl,hb1,-⟩:=bE hb;have HB:Hid (Below w.heap.size w w1):=hb1;by_cases hq:r=true;case neg=>
  have HN:=aa (fun h=>hq (hr.2 h));clear hsl hb hb1 hr;go_wp2_with fail;go_ret;exact⟨false,rfl,⟨fun h=>bp,fun h=>(HN.out h.2.2.2.1).elim⟩,HB.out⟩
 have h3:=aa (hr.1 hq);subst hq;have hc4:=ck4 hsl;have hc5:=ck5 hsl;clear hr hsl hb hb1;go_wp2_with fail;refine (gI p 0 2 _).mono ?_;rintro e w2 ⟨r,rfl,hr,rfl⟩;by_cases hq:r=true;case neg=>
  have HN:=aa (fun h=>hq (hr.2 h));clear hr;go_wp2_with fail;go_ret;exact⟨false,rfl,⟨fun h=>bp,fun h=>absurd h.2.2.2.2 (ic (by have h9:¬(0<=p/\p<=2):=HN.out;omega))⟩,HB.out⟩
 have h4:=hr.1 hq;subst hq;clear hr;by_cases hp:p=0
 ·subst hp;go_wp2_with fail;go_ret;exact⟨_,rfl,⟨fun h=>⟨h0.out,h1.out,h2.out,h3.out,(dK d).2 ((gK d).1 h)⟩,fun h=>(gK d).2 ((dK d).1 h.2.2.2.2)⟩,HB.out⟩
 have hq:(p==0)=false:=by simp[hp]
 have hp2:p=1\/p=2:=by unfold Inn at h4;omega
 go_wp2_with fail;refine (aN d _ hd).mono ?_;rintro e w2 ⟨r,rfl,hr,rfl⟩;go_wp2_with fail;go_ret;exact⟨r,rfl,⟨fun h=>⟨h0.out,h1.out,h2.out,h3.out,(dY d hp2).2 (hr.1 h)⟩,fun h=>hr.2 ((dY d hp2).1 h.2.2.2.2)⟩,HB.out⟩

def oN (n:ByteArray) (c:Int) (z k:ByteArray) (x:Bool) (m:ByteArray) (y:Bool) (zs:List ByteArray):Prop:=
 aX n/\Inn c 1 1048576/\aX z/\aX k/\b9 m/\(y=true->m=⟨#[]⟩)/\cK zs (if x=true then 1 else 6)

theorem fH (n:ByteArray) (c:Int) (z k:ByteArray) (x:Bool) (m:ByteArray) (y:Bool) (a:Option Addr) (len cap:Nat) (w:World):
  Calls Tryz.prog 190 #[.agg #[.string n,.int .i64 c,.string z,.string k,.bool x,.string m,.bool y,.slice a len cap]] w fun e w'=>e=.returned (.int .i64 (if x=true then 1 else 6))/\Below w.heap.size w w':=by
 cases x;all_goals (
  go_enter Tryz.func190,Tryz.ntmps190
  go_wp2
  go_ret
  exact⟨rfl,aj _ _⟩)

theorem gg {zs:List ByteArray} {x:Bool} (h:cK zs (if x=true then 1 else 6)):cK zs 6:=by
 refine⟨?_,h.2⟩;have:=h.1;split at this <;> omega

theorem dX (n:ByteArray) (c:Int) (z k:ByteArray) (x:Bool) (m:ByteArray) (y:Bool) (a:Option Addr) (len cap:Nat) (zs:List ByteArray) (w:World) (hn:n.size<=9223372036854775807) (hz:z.size<=9223372036854775807) (hk:k.size<=9223372036854775807) (hm:m.size<=9223372036854775807) (hr:ar w a len cap zs):
  Calls Tryz.prog 118 #[.agg #[.string n,.int .i64 c,.string z,.string k,.bool x,.string m,.bool y,.slice a len cap]] w (al (oN n c z k x m y zs) w):=by
 have HR:Hid (ar w a len cap zs):=hr;have hzl:=hr.1;have hlc:=sC hr.2.1 hr.2.2.1;clear hr;cases y
 ·have HY:Hid (false=true->m=⟨#[]⟩):=fun h=>bp;go_enter Tryz.func118,Tryz.ntmps118;go_wp2_with fail;refine (aN n _ hn).mono ?_;rintro e w1 ⟨r,rfl,hr,rfl⟩;by_cases hq:r=true;case neg=>
   exact fw
  have h0:=aa (hr.1 hq);subst hq;clear hr;go_wp2_with fail;refine (du c _).mono ?_;rintro e w1 ⟨r,rfl,hr,rfl⟩;by_cases hq:r=true;case neg=>
   exact ed
  have h1:=aa (hr.1 hq);subst hq;clear hr;go_wp2_with fail;refine (aN z _ hz).mono ?_;rintro e w1 ⟨r,rfl,hr,rfl⟩;by_cases hq:r=true;case neg=>
   exact ee
  have h2:=aa (hr.1 hq);subst hq;clear hr;go_wp2_with fail;refine (aN k _ hk).mono ?_;rintro e w1 ⟨r,rfl,hr,rfl⟩;by_cases hq:r=true;case neg=>
   exact ga
  have h3:=aa (hr.1 hq);subst hq;clear hr;go_wp2_with fail;refine (cm _ _ hm).mono ?_;rintro e w1 ⟨r,rfl,hr,rfl⟩;by_cases hq:r=true;case neg=>
   exact iZ
  have h4:=aa (hr.1 hq);subst hq;clear hr;go_wp2_with fail;refine (cQ a len cap zs 6 _ (HR.below (aj _ _))).mono ?_;rintro e w1 ⟨r,rfl,hr,hb⟩;obtain⟨hsl,hb1,-⟩:=bE hb;have HB:Hid (Below w.heap.size w w1):=hb1;by_cases hq:r=true;case neg=>
   exact qd
  have h6:=aa (hr.1 hq);subst hq;have hc4:=ck4 hsl;have hc7:=ck7 hsl;clear hr hsl hb hb1;cases x
  ·go_wp2_with fail;go_ret;exact⟨true,rfl,⟨fun _=>⟨h0.out,h1.out,h2.out,h3.out,h4.out,HY.out,by simpa using h6.out⟩,fun _=>rfl⟩,HB.out⟩
  ·go_wp2_with fail;go_ret;refine⟨_,rfl,⟨fun h=>⟨h0.out,h1.out,h2.out,h3.out,h4.out,HY.out,?_,h6.2⟩,fun h=>?_⟩,HB.out⟩
   ·simp at h ⊢;omega
   ·have:=h.2.2.2.2.2.2.1;simp at this ⊢;omega
 by_cases hm0:m=⟨#[]⟩
 ·subst hm0;have HY:Hid True:=trivial;go_enter Tryz.func118,Tryz.ntmps118;go_wp2_with fail;refine (aN n _ hn).mono ?_;rintro e w1 ⟨r,rfl,hr,rfl⟩;by_cases hq:r=true;case neg=>
   exact fw
  have h0:=aa (hr.1 hq);subst hq;clear hr;go_wp2_with fail;refine (du c _).mono ?_;rintro e w1 ⟨r,rfl,hr,rfl⟩;by_cases hq:r=true;case neg=>
   exact ed
  have h1:=aa (hr.1 hq);subst hq;clear hr;go_wp2_with fail;refine (aN z _ hz).mono ?_;rintro e w1 ⟨r,rfl,hr,rfl⟩;by_cases hq:r=true;case neg=>
   exact ee
  have h2:=aa (hr.1 hq);subst hq;clear hr;go_wp2_with fail;refine (aN k _ hk).mono ?_;rintro e w1 ⟨r,rfl,hr,rfl⟩;by_cases hq:r=true;case neg=>
   exact ga
  have h3:=aa (hr.1 hq);subst hq;clear hr;go_wp2_with fail;refine (cm _ _ hm).mono ?_;rintro e w1 ⟨r,rfl,hr,rfl⟩;by_cases hq:r=true;case neg=>
   exact iZ
  have h4:=aa (hr.1 hq);subst hq;clear hr;go_wp2_with fail;refine (cQ a len cap zs 6 _ (HR.below (aj _ _))).mono ?_;rintro e w1 ⟨r,rfl,hr,hb⟩;obtain⟨hsl,hb1,-⟩:=bE hb;have HB:Hid (Below w.heap.size w w1):=hb1;by_cases hq:r=true;case neg=>
   exact qd
  have h6:=aa (hr.1 hq);subst hq;have hc4:=ck4 hsl;have hc7:=ck7 hsl;clear hr hsl hb hb1;cases x
  ·go_wp2_with fail;go_ret;exact⟨true,rfl,⟨fun _=>⟨h0.out,h1.out,h2.out,h3.out,h4.out,(fun _=>rfl),by simpa using h6.out⟩,fun _=>rfl⟩,HB.out⟩
  ·go_wp2_with fail;go_ret;refine⟨_,rfl,⟨fun h=>⟨h0.out,h1.out,h2.out,h3.out,h4.out,(fun _=>rfl),?_,h6.2⟩,fun h=>?_⟩,HB.out⟩
   ·simp at h ⊢;omega
   ·have:=h.2.2.2.2.2.2.1;simp at this ⊢;omega
 have hq9:=aZ hm0;go_enter Tryz.func118,Tryz.ntmps118;go_wp2_with fail;refine (aN n _ hn).mono ?_;rintro e w1 ⟨r,rfl,hr,rfl⟩;by_cases hq:r=true;case neg=>
  exact fw
 have h0:=aa (hr.1 hq);subst hq;clear hr;go_wp2_with fail;refine (du c _).mono ?_;rintro e w1 ⟨r,rfl,hr,rfl⟩;by_cases hq:r=true;case neg=>
  exact ed
 have h1:=aa (hr.1 hq);subst hq;clear hr;go_wp2_with fail;refine (aN z _ hz).mono ?_;rintro e w1 ⟨r,rfl,hr,rfl⟩;by_cases hq:r=true;case neg=>
  exact ee
 have h2:=aa (hr.1 hq);subst hq;clear hr;go_wp2_with fail;refine (aN k _ hk).mono ?_;rintro e w1 ⟨r,rfl,hr,rfl⟩;by_cases hq:r=true;case neg=>
  exact ga
 have h3:=aa (hr.1 hq);subst hq;clear hr;go_wp2_with fail;refine (cm _ _ hm).mono ?_;rintro e w1 ⟨r,rfl,hr,rfl⟩;by_cases hq:r=true;case neg=>
  exact iZ
 have h4:=aa (hr.1 hq);subst hq;clear hr;exact nx

theorem aq {w:World} {b:Nat} {vs:Array Value} {T:TypeId} (h:w.heap[b]?=some (.cells vs T (0,0))) (i:Nat):w.frozen? ⟨b,i,none⟩=false:=by simp[World.frozen?,h]
theorem aC {w1:World} {b i k:Nat} {v:Value} {o:Option Obj} (hk:k≠b) (h:w1.heap[k]?=o):(w1.setCell ⟨b,i,none⟩ v).heap[k]?=o:=by rw[sz _ _ _ _ hk];exact h
theorem ag {w w1:World} {B b i:Nat} {v:Value} (hB:B<=b) (h:Below B w w1):Below B w (w1.setCell ⟨b,i,none⟩ v):=h.setCell hB v
theorem ae {w:World} {b:Nat} {o:Obj} (h:w.heap[b]?=some o):b<w.heap.size:=by
 rcases Nat.lt_or_ge b w.heap.size with h1|h1
 ·exact h1
 ·rw[Array.getElem?_eq_none h1] at h;cases h
theorem upK {w w':World} {k:Nat} {o:Obj} (h:Hid (w.heap[k]?=some o)) (hb:Below w.heap.size w w'):Hid (w'.heap[k]?=some o):=(hb.block _ (ae h)).trans h
theorem upB {w w1 w2:World} (h:Hid (Below w.heap.size w w1)) (hb:Below w1.heap.size w1 w2):Hid (Below w.heap.size w w2):=Below.trans h (hb.mono (Below.size h))
theorem sb1 {w w1:World} {i:Nat} {v:Value} (h:Below w.heap.size w w1):Below w.heap.size w (w1.setCell ⟨w.heap.size+1,i,none⟩ v):=ag (by omega) h
theorem sb2 {w w1:World} {i:Nat} {v:Value} (h:Below w.heap.size w w1):Below w.heap.size w (w1.setCell ⟨w.heap.size+1+1,i,none⟩ v):=ag (by omega) h
theorem sb3 {w w1:World} {i:Nat} {v:Value} (h:Below w.heap.size w w1):Below w.heap.size w (w1.setCell ⟨w.heap.size+1+1+1,i,none⟩ v):=ag (by omega) h
theorem cY (w:World) (o p:Obj):((w.alloc o).alloc p).heap[w.heap.size]?=some o:=by
 rw[sR _ _ _ aT];exact sH
theorem bB (w:World) (o p:Obj):((w.alloc o).alloc p).heap[w.heap.size+1]?=some p:=by
 have h:w.heap.size+1=(w.alloc o).heap.size:=aT
 rw[h];exact sH
theorem fi (w:World) (o p q:Obj):(((w.alloc o).alloc p).alloc q).heap[w.heap.size]?=some o:=by
 rw[sR _ _ _ cC,sR _ _ _ aT];show (w.heap.push _)[w.heap.size]?=_;simp
theorem dx (w:World) (o p q:Obj):(((w.alloc o).alloc p).alloc q).heap[w.heap.size+1]?=some p:=by
 rw[sR _ _ _ aT];have h:w.heap.size+1=(w.alloc o).heap.size:=aT
 rw[h];show ((w.alloc o).heap.push _)[(w.alloc o).heap.size]?=_;exact sH
theorem dw (w:World) (o p q:Obj):(((w.alloc o).alloc p).alloc q).heap[w.heap.size+1+1]?=some q:=by
 have h:w.heap.size+1+1=((w.alloc o).alloc p).heap.size:=aT
 rw[h];show (((w.alloc o).alloc p).heap.push _)[((w.alloc o).alloc p).heap.size]?=_;exact sH
def SzB (left:Int) (p:Prop) (w:World) (e:Ending) (w':World):Prop:=∃r:Int,e=.returned (.int .i64 r)/\(r= -1\/(0<=r/\r<=left/\p))/\Below w.heap.size w w'
theorem aB (w:World) (o p:Obj):Below w.heap.size w ((w.alloc o).alloc p):=(aj w o).alloc (by simp) p
theorem bx (w:World) (o p q:Obj):Below w.heap.size w (((w.alloc o).alloc p).alloc q):=(aB w o p).alloc (by simp;omega) q
theorem ba {a b:ByteArray} (h:a=b):(a.toList==b.toList)=true:=by rw[h];simp

theorem hY (n:ByteArray) (x:Bool) (y:Bool) (z:ByteArray) (left:Int) (w:World) (hn:n.size<=9223372036854775807) (hz:z.size<=9223372036854775807) (h0:0<=left) (h1:left<=1048576):
  Calls Tryz.prog 46 #[.agg #[.string n,.bool x,.bool y,.string z],.int .i64 left] w (SzB left True w):=by
 by_cases h9n:left<(n.size:Int)
 ·go_enter Tryz.func46,Tryz.ntmps46;go_wp2;go_ret;exact⟨-1,rfl,.inl rfl,aj _ _⟩
 by_cases h9z:left<(n.size:Int)+(z.size:Int)
 ·go_enter Tryz.func46,Tryz.ntmps46;go_wp2;go_ret;exact⟨-1,rfl,.inl rfl,aj _ _⟩
 go_enter Tryz.func46,Tryz.ntmps46;go_wp2;go_ret;exact⟨_,rfl,.inr ⟨by omega,by omega,trivial⟩,aj _ _⟩

theorem hQ (n:ByteArray) (x:Bool) (y:Bool) (z:ByteArray) (w:World):
  Calls Tryz.prog 55 #[.agg #[.string n,.bool x,.bool y,.string z]] w fun e w'=>e=.returned (.agg #[.string n,.bool x,.bool y,.string z])/\Below w.heap.size w w':=by
 go_enter Tryz.func55,Tryz.ntmps55;go_wp2;exact bodyPost_ret (v:=.agg #[.string n,.bool x,.bool y,.string z]) (by simp[results,Tryz.results55,go_sem]) rfl ⟨rfl,bx _ _ _ _⟩

theorem h_ (n:ByteArray) (z:Int) (k:ByteArray) (x:Bool) (v:ByteArray) (left:Int) (w:World) (hn:n.size<=9223372036854775807) (hk:k.size<=9223372036854775807) (hv:v.size<=9223372036854775807) (h0:0<=left) (h1:left<=1048576):
  Calls Tryz.prog 48 #[.agg #[.string n,.int .i64 z,.string k,.bool x,.string v],.int .i64 left] w (SzB left True w):=by
 by_cases h9n:left<(n.size:Int)
 ·exact mX
 by_cases h9k:left<(n.size:Int)+(k.size:Int)
 ·exact mX
 by_cases h9v:left<(n.size:Int)+(k.size:Int)+(v.size:Int)
 ·exact mX
 go_enter Tryz.func48,Tryz.ntmps48;go_wp2;go_ret;exact⟨_,rfl,.inr ⟨by omega,by omega,trivial⟩,aj _ _⟩

theorem hU (n:ByteArray) (z:Int) (k:ByteArray) (x:Bool) (v:ByteArray) (w:World):
  Calls Tryz.prog 57 #[.agg #[.string n,.int .i64 z,.string k,.bool x,.string v]] w fun e w'=>e=.returned (.agg #[.string n,.int .i64 z,.string k,.bool x,.string v])/\Below w.heap.size w w':=by
 go_enter Tryz.func57,Tryz.ntmps57;go_wp2;exact bodyPost_ret (v:=.agg #[.string n,.int .i64 z,.string k,.bool x,.string v]) (by simp[results,Tryz.results57,go_sem]) rfl ⟨rfl,bx _ _ _ _⟩

theorem jA (n:ByteArray) (z:ByteArray) (c:Int) (s:Int) (u:Int) (d:Bool) (a:Option Addr) (len cap:Nat) (zs:List ByteArray) (left:Int) (w:World) (hn:n.size<=9223372036854775807) (hz:z.size<=9223372036854775807) (hr:ar w a len cap zs) (h0:0<=left) (h1:left<=1048576):
  Calls Tryz.prog 45 #[.agg #[.string n,.string z,.int .i64 c,.int .i64 s,.int .i64 u,.bool d,.slice a len cap],.int .i64 left] w (SzB left (len<=1048576) w):=by
 have HR:Hid (ar w a len cap zs):=hr;clear hr;by_cases h9n:left<(n.size:Int)
 ·go_enter Tryz.func45,Tryz.ntmps45;go_wp2;go_ret;exact⟨-1,rfl,.inl rfl,aj _ _⟩
 by_cases h9z:left<(n.size:Int)+(z.size:Int)
 ·go_enter Tryz.func45,Tryz.ntmps45;go_wp2;go_ret;exact⟨-1,rfl,.inl rfl,aj _ _⟩
 go_enter Tryz.func45,Tryz.ntmps45;exact qy

theorem jz (n:ByteArray) (z:ByteArray) (c:Int) (s:Int) (u:Int) (d:Bool) (a:Option Addr) (len cap:Nat) (zs:List ByteArray) (w:World) (hr:ar w a len cap zs) (hl:len<=1048576):
  Calls Tryz.prog 54 #[.agg #[.string n,.string z,.int .i64 c,.int .i64 s,.int .i64 u,.bool d,.slice a len cap]] w fun e w'=>e=.returned (.agg #[.string n,.string z,.int .i64 c,.int .i64 s,.int .i64 u,.bool d,.slice (some ⟨w.heap.size+1+1+1,0,none⟩) len len])/\w'.heap[w.heap.size+1+1+1]?=some (.cells (zs.map sP).toArray 9 (0,0))/\Below w.heap.size w w':=by
 have HR:Hid (ar w a len cap zs):=hr;clear hr;go_enter Tryz.func54,Tryz.ntmps54;go_wp2_with fail;refine (gy a len cap zs _ (HR.below (bx _ _ _ _)) hl).mono ?_;rintro e w1 ⟨rfl,hG,hb⟩;have hsz:(((w.alloc (.cells #[.string n,.string z,.int .i64 c,.int .i64 s,.int .i64 u,.bool d,.slice a len cap] 86)).alloc (.cells #[.string ⟨#[]⟩,.string ⟨#[]⟩,.int .i64 0,.int .i64 0,.int .i64 0,.bool false,.slice none 0 0] 56)).alloc (.cells #[.string n,.string z,.int .i64 c,.int .i64 s,.int .i64 u,.bool d,.slice none 0 0] 56)).heap.size=w.heap.size+1+1+1:=aT
 rw[hsz] at hG hb ⊢;have g1:w1.heap[w.heap.size+1]?=some (.cells #[.string ⟨#[]⟩,.string ⟨#[]⟩,.int .i64 0,.int .i64 0,.int .i64 0,.bool false,.slice none 0 0] 56 (0,0)):=by rw[hb.block _ af];exact dx _ _ _ _
 have g2:w1.heap[w.heap.size+1+1]?=some (.cells #[.string n,.string z,.int .i64 c,.int .i64 s,.int .i64 u,.bool d,.slice none 0 0] 56 (0,0)):=by rw[hb.block _ af];exact dw _ _ _ _
 obtain⟨HG,HB,c20,c10,f10,c21,c11,f11,c22,c12,f12,c23,c13,f13,c24,c14,f14,c25,c15,f15,c26⟩:=pF;have f26:=aq g2 6;have c16:=ck6 g1;have f16:=aq g1 6;clear g1 g2 hG hb hsz;go_wp2;refine bodyPost_ret (v:=.agg #[.string n,.string z,.int .i64 c,.int .i64 s,.int .i64 u,.bool d,.slice (some ⟨w.heap.size+1+1+1,0,none⟩) len len]) (by simp[results,Tryz.results54,go_sem, *]) rfl ⟨rfl,?_,?_⟩
 ·exact aC af (aC af (aC af (aC af (aC af (aC af (aC af (aC af (HG.out))))))))
 ·exact ag af (ag af (ag af (ag af (ag af (ag af (ag af (ag af (HB.out))))))))

theorem kA (n:ByteArray) (z:ByteArray) (c:Int) (s:Int) (u:Int) (d:Bool) (a:Option Addr) (len cap:Nat) (zs:List ByteArray) (a':Option Addr) (len' cap':Nat) (w:World) (hr:ar w a len cap zs) (hr':ar w a' len' cap' zs):
  Calls Tryz.prog 62 #[.agg #[.string n,.string z,.int .i64 c,.int .i64 s,.int .i64 u,.bool d,.slice a len cap],.agg #[.string n,.string z,.int .i64 c,.int .i64 s,.int .i64 u,.bool d,.slice a' len' cap']] w fun e w'=>e=.returned (.bool true)/\Below w.heap.size w w':=by
 have HR:Hid (ar w a len cap zs):=hr;have HR':Hid (ar w a' len' cap' zs):=hr';clear hr hr';go_enter Tryz.func62,Tryz.ntmps62;exact qB

theorem gA (n:ByteArray) (c:Int) (z:ByteArray) (k:ByteArray) (x:Bool) (m:ByteArray) (y:Bool) (a:Option Addr) (len cap:Nat) (zs:List ByteArray) (left:Int) (w:World) (hn:n.size<=9223372036854775807) (hz:z.size<=9223372036854775807) (hk:k.size<=9223372036854775807) (hm:m.size<=9223372036854775807) (hr:ar w a len cap zs) (h0:0<=left) (h1:left<=1048576):
  Calls Tryz.prog 47 #[.agg #[.string n,.int .i64 c,.string z,.string k,.bool x,.string m,.bool y,.slice a len cap],.int .i64 left] w (SzB left (len<=1048576) w):=by
 have HR:Hid (ar w a len cap zs):=hr;clear hr;by_cases h9n:left<(n.size:Int)
 ·exact gE
 by_cases h9z:left<(n.size:Int)+(z.size:Int)
 ·exact gE
 by_cases h9k:left<(n.size:Int)+(z.size:Int)+(k.size:Int)
 ·exact gE
 by_cases h9m:left<(n.size:Int)+(z.size:Int)+(k.size:Int)+(m.size:Int)
 ·exact gE
 go_enter Tryz.func47,Tryz.ntmps47;exact qy

theorem gw (n:ByteArray) (c:Int) (z:ByteArray) (k:ByteArray) (x:Bool) (m:ByteArray) (y:Bool) (a:Option Addr) (len cap:Nat) (zs:List ByteArray) (w:World) (hr:ar w a len cap zs) (hl:len<=1048576):
  Calls Tryz.prog 56 #[.agg #[.string n,.int .i64 c,.string z,.string k,.bool x,.string m,.bool y,.slice a len cap]] w fun e w'=>e=.returned (.agg #[.string n,.int .i64 c,.string z,.string k,.bool x,.string m,.bool y,.slice (some ⟨w.heap.size+1+1+1,0,none⟩) len len])/\w'.heap[w.heap.size+1+1+1]?=some (.cells (zs.map sP).toArray 9 (0,0))/\Below w.heap.size w w':=by
 have HR:Hid (ar w a len cap zs):=hr;clear hr;go_enter Tryz.func56,Tryz.ntmps56;go_wp2_with fail;refine (gy a len cap zs _ (HR.below (bx _ _ _ _)) hl).mono ?_;rintro e w1 ⟨rfl,hG,hb⟩;have hsz:(((w.alloc (.cells #[.string n,.int .i64 c,.string z,.string k,.bool x,.string m,.bool y,.slice a len cap] 92)).alloc (.cells #[.string ⟨#[]⟩,.int .i64 0,.string ⟨#[]⟩,.string ⟨#[]⟩,.bool false,.string ⟨#[]⟩,.bool false,.slice none 0 0] 101)).alloc (.cells #[.string n,.int .i64 c,.string z,.string k,.bool x,.string m,.bool y,.slice none 0 0] 101)).heap.size=w.heap.size+1+1+1:=aT
 rw[hsz] at hG hb ⊢;have g1:w1.heap[w.heap.size+1]?=some (.cells #[.string ⟨#[]⟩,.int .i64 0,.string ⟨#[]⟩,.string ⟨#[]⟩,.bool false,.string ⟨#[]⟩,.bool false,.slice none 0 0] 101 (0,0)):=by rw[hb.block _ af];exact dx _ _ _ _
 have g2:w1.heap[w.heap.size+1+1]?=some (.cells #[.string n,.int .i64 c,.string z,.string k,.bool x,.string m,.bool y,.slice none 0 0] 101 (0,0)):=by rw[hb.block _ af];exact dw _ _ _ _
 obtain⟨HG,HB,c20,c10,f10,c21,c11,f11,c22,c12,f12,c23,c13,f13,c24,c14,f14,c25,c15,f15,c26⟩:=pF;have c16:=ck6 g1;have f16:=aq g1 6;have c27:=ck7 g2;have f27:=aq g2 7;have c17:=ck7 g1;have f17:=aq g1 7;clear g1 g2 hG hb hsz;go_wp2;refine bodyPost_ret (v:=.agg #[.string n,.int .i64 c,.string z,.string k,.bool x,.string m,.bool y,.slice (some ⟨w.heap.size+1+1+1,0,none⟩) len len]) (by simp[results,Tryz.results56,go_sem, *]) rfl ⟨rfl,?_,?_⟩
 ·exact qi
 ·exact qh

theorem gR (n:ByteArray) (c:Int) (z:ByteArray) (k:ByteArray) (x:Bool) (m:ByteArray) (y:Bool) (a:Option Addr) (len cap:Nat) (zs:List ByteArray) (a':Option Addr) (len' cap':Nat) (w:World) (hr:ar w a len cap zs) (hr':ar w a' len' cap' zs):
  Calls Tryz.prog 64 #[.agg #[.string n,.int .i64 c,.string z,.string k,.bool x,.string m,.bool y,.slice a len cap],.agg #[.string n,.int .i64 c,.string z,.string k,.bool x,.string m,.bool y,.slice a' len' cap']] w fun e w'=>e=.returned (.bool true)/\Below w.heap.size w w':=by
 have HR:Hid (ar w a len cap zs):=hr;have HR':Hid (ar w a' len' cap' zs):=hr';clear hr hr';go_enter Tryz.func64,Tryz.ntmps64;exact qB

theorem lJ (n:ByteArray) (c:Int) (z:ByteArray) (a:Option Addr) (len cap:Nat) (zs:List ByteArray) (d:ByteArray) (p:Int) (left:Int) (w:World) (hn:n.size<=9223372036854775807) (hz:z.size<=9223372036854775807) (hd:d.size<=9223372036854775807) (hr:ar w a len cap zs) (h0:0<=left) (h1:left<=1048576):
  Calls Tryz.prog 49 #[.agg #[.string n,.int .i64 c,.string z,.slice a len cap,.string d,.int .i64 p],.int .i64 left] w (SzB left (len<=1048576) w):=by
 have HR:Hid (ar w a len cap zs):=hr;clear hr;by_cases h9n:left<(n.size:Int)
 ·go_enter Tryz.func49,Tryz.ntmps49;go_wp2;go_ret;exact⟨-1,rfl,.inl rfl,aj _ _⟩
 by_cases h9z:left<(n.size:Int)+(z.size:Int)
 ·go_enter Tryz.func49,Tryz.ntmps49;go_wp2;go_ret;exact⟨-1,rfl,.inl rfl,aj _ _⟩
 go_enter Tryz.func49,Tryz.ntmps49;go_wp2_with fail;refine (kJ a len cap zs _ _ (HR.below (aj _ _)) af af).mono ?_;rintro e w1 ⟨r,rfl,hr,rfl⟩;rcases hr with rfl|⟨hr0,hr1,hr2⟩
 ·go_wp2;go_ret;exact⟨-1,rfl,.inl rfl,aj _ _⟩
 by_cases h9d:r<(d.size:Int)
 ·go_wp2;go_ret;exact⟨-1,rfl,.inl rfl,aj _ _⟩
 go_wp2;go_ret;exact⟨_,rfl,.inr ⟨by omega,by omega,by omega⟩,aj _ _⟩

theorem lH (n:ByteArray) (c:Int) (z:ByteArray) (a:Option Addr) (len cap:Nat) (zs:List ByteArray) (d:ByteArray) (p:Int) (w:World) (hr:ar w a len cap zs) (hl:len<=1048576):
  Calls Tryz.prog 58 #[.agg #[.string n,.int .i64 c,.string z,.slice a len cap,.string d,.int .i64 p]] w fun e w'=>e=.returned (.agg #[.string n,.int .i64 c,.string z,.slice (some ⟨w.heap.size+1+1+1,0,none⟩) len len,.string d,.int .i64 p])/\w'.heap[w.heap.size+1+1+1]?=some (.cells (zs.map sP).toArray 9 (0,0))/\Below w.heap.size w w':=by
 have HR:Hid (ar w a len cap zs):=hr;clear hr;go_enter Tryz.func58,Tryz.ntmps58;go_wp2_with fail;refine (gy a len cap zs _ (HR.below (bx _ _ _ _)) hl).mono ?_;rintro e w1 ⟨rfl,hG,hb⟩;have hsz:(((w.alloc (.cells #[.string n,.int .i64 c,.string z,.slice a len cap,.string d,.int .i64 p] 98)).alloc (.cells #[.string ⟨#[]⟩,.int .i64 0,.string ⟨#[]⟩,.slice none 0 0,.string ⟨#[]⟩,.int .i64 0] 103)).alloc (.cells #[.string n,.int .i64 c,.string z,.slice none 0 0,.string ⟨#[]⟩,.int .i64 0] 103)).heap.size=w.heap.size+1+1+1:=aT
 rw[hsz] at hG hb ⊢;have g0:w1.heap[w.heap.size]?=some (.cells #[.string n,.int .i64 c,.string z,.slice a len cap,.string d,.int .i64 p] 98 (0,0)):=by rw[hb.block _ af];exact fi _ _ _ _
 have g1:w1.heap[w.heap.size+1]?=some (.cells #[.string ⟨#[]⟩,.int .i64 0,.string ⟨#[]⟩,.slice none 0 0,.string ⟨#[]⟩,.int .i64 0] 103 (0,0)):=by rw[hb.block _ af];exact dx _ _ _ _
 have g2:w1.heap[w.heap.size+1+1]?=some (.cells #[.string n,.int .i64 c,.string z,.slice none 0 0,.string ⟨#[]⟩,.int .i64 0] 103 (0,0)):=by rw[hb.block _ af];exact dw _ _ _ _
 have HG:=aa hG;have HB:Hid (Below w.heap.size w w1):=(bx _ _ _ _).trans (hb.mono af);have c04:=ck4 g0;have c05:=ck5 g0;have c20:=ck0 g2;have c10:=ck0 g1;have f10:=aq g1 0;have c21:=ck1 g2;have c11:=ck1 g1;have f11:=aq g1 1;have c22:=ck2 g2;have c12:=ck2 g1;have f12:=aq g1 2;have c23:=ck3 g2;have f23:=aq g2 3;have c13:=ck3 g1;have f13:=aq g1 3;have c24:=ck4 g2;have f24:=aq g2 4;have c14:=ck4 g1;have f14:=aq g1 4;have c25:=ck5 g2;have f25:=aq g2 5;have c15:=ck5 g1;have f15:=aq g1 5;clear g0 g1 g2 hG hb hsz;go_wp2;refine bodyPost_ret (v:=.agg #[.string n,.int .i64 c,.string z,.slice (some ⟨w.heap.size+1+1+1,0,none⟩) len len,.string d,.int .i64 p]) (by simp[results,Tryz.results58,go_sem, *]) rfl ⟨rfl,?_,?_⟩
 ·exact qi
 ·exact qh

theorem mf (n:ByteArray) (c:Int) (z:ByteArray) (a:Option Addr) (len cap:Nat) (zs:List ByteArray) (d:ByteArray) (p:Int) (a':Option Addr) (len' cap':Nat) (w:World) (hr:ar w a len cap zs) (hr':ar w a' len' cap' zs):
  Calls Tryz.prog 66 #[.agg #[.string n,.int .i64 c,.string z,.slice a len cap,.string d,.int .i64 p],.agg #[.string n,.int .i64 c,.string z,.slice a' len' cap',.string d,.int .i64 p]] w fun e w'=>e=.returned (.bool true)/\Below w.heap.size w w':=by
 have HR:Hid (ar w a len cap zs):=hr;have HR':Hid (ar w a' len' cap' zs):=hr';clear hr hr';go_enter Tryz.func66,Tryz.ntmps66;go_wp2_with fail;refine (lv a a' len len' cap cap' zs zs _ (HR.below (aB _ _ _)) (HR'.below (aB _ _ _))).mono ?_;rintro e w1 ⟨r,rfl,hr,hb⟩;obtain rfl:r=true:=hr.2 rfl;clear hr;have HB:Hid (Below w.heap.size w w1):=(aB _ _ _).trans (hb.mono cC);have g0:=(hb.block w.heap.size cC).trans (cY _ _ _);have g1:=(hb.block (w.heap.size+1) aT).trans (bB _ _ _);have c04:=ck4 g0;have c05:=ck5 g0;have c14:=ck4 g1;have c15:=ck5 g1;clear g0 g1 hb;go_wp2_with fail;go_ret;exact⟨rfl,HB.out⟩

theorem cs5 {w:World} {b:Nat} {T:TypeId} {v0 v1 v2 v3 v4:Value} (h:w.heap[b]?=some (.cells #[v0,v1,v2,v3,v4] T (0,0))):w.cell? ⟨b,0,none⟩=some v0/\w.cell? ⟨b,1,none⟩=some v1/\w.cell? ⟨b,2,none⟩=some v2/\w.cell? ⟨b,3,none⟩=some v3/\w.cell? ⟨b,4,none⟩=some v4:=⟨ay h 0,ay h 1,ay h 2,ay h 3,ay h 4⟩
theorem cs6 {w:World} {b:Nat} {T:TypeId} {v0 v1 v2 v3 v4 v5:Value} (h:w.heap[b]?=some (.cells #[v0,v1,v2,v3,v4,v5] T (0,0))):w.cell? ⟨b,0,none⟩=some v0/\w.cell? ⟨b,1,none⟩=some v1/\w.cell? ⟨b,2,none⟩=some v2/\w.cell? ⟨b,3,none⟩=some v3/\w.cell? ⟨b,4,none⟩=some v4/\w.cell? ⟨b,5,none⟩=some v5:=⟨ay h 0,ay h 1,ay h 2,ay h 3,ay h 4,ay h 5⟩
theorem cs7 {w:World} {b:Nat} {T:TypeId} {v0 v1 v2 v3 v4 v5 v6:Value} (h:w.heap[b]?=some (.cells #[v0,v1,v2,v3,v4,v5,v6] T (0,0))):w.cell? ⟨b,0,none⟩=some v0/\w.cell? ⟨b,1,none⟩=some v1/\w.cell? ⟨b,2,none⟩=some v2/\w.cell? ⟨b,3,none⟩=some v3/\w.cell? ⟨b,4,none⟩=some v4/\w.cell? ⟨b,5,none⟩=some v5/\w.cell? ⟨b,6,none⟩=some v6:=⟨ay h 0,ay h 1,ay h 2,ay h 3,ay h 4,ay h 5,ay h 6⟩
theorem cs8 {w:World} {b:Nat} {T:TypeId} {v0 v1 v2 v3 v4 v5 v6 v7:Value} (h:w.heap[b]?=some (.cells #[v0,v1,v2,v3,v4,v5,v6,v7] T (0,0))):w.cell? ⟨b,0,none⟩=some v0/\w.cell? ⟨b,1,none⟩=some v1/\w.cell? ⟨b,2,none⟩=some v2/\w.cell? ⟨b,3,none⟩=some v3/\w.cell? ⟨b,4,none⟩=some v4/\w.cell? ⟨b,5,none⟩=some v5/\w.cell? ⟨b,6,none⟩=some v6/\w.cell? ⟨b,7,none⟩=some v7:=⟨ay h 0,ay h 1,ay h 2,ay h 3,ay h 4,ay h 5,ay h 6,ay h 7⟩
theorem cF (w:World) (o:Obj):(w.alloc o).heap.size=w.heap.size+1:=by simp
theorem aJ {w w':World} {o:Obj} (h:Below (w.alloc o).heap.size (w.alloc o) w'):w'.heap[w.heap.size]?=some o/\Below w.heap.size w w':=by
 rw[cF] at h;exact⟨(h.block _ (Nat.lt_succ_self _)).trans (heap_alloc_new w o),(aj w o).trans (h.mono (sN _))⟩
theorem bS {w w':World} {o p:Obj} (h:Below ((w.alloc o).alloc p).heap.size ((w.alloc o).alloc p) w'):w'.heap[w.heap.size]?=some o/\w'.heap[w.heap.size+1]?=some p/\Below w.heap.size w w':=by
 obtain⟨h1,h2⟩:=aJ h;rw[cF] at h1;obtain⟨h3,h4⟩:=aJ h2;exact⟨h3,h1,h4⟩

def Wd (W:World):Type:={ x:World // Below W.heap.size W x }
def Wd.w {W:World} (i:Wd W):World:=i.1
theorem Wd.b {W:World} (i:Wd W):Below W.heap.size W i.w:=i.2
theorem Wd.ne (W:World):Nonempty (Wd W):=⟨⟨W,sB _ _⟩⟩
theorem Wd.cell {W:World} (i:Wd W) {b o:Nat} (h:b<W.heap.size):i.w.cell? ⟨b,o,none⟩=W.cell? ⟨b,o,none⟩:=ai i.b h
theorem Wd.slot {W:World} (i:Wd W) {b o:Nat} {vs:Array Value} {T:TypeId} {f:Nat×Nat} {v:Value} (h:W.heap[b]?=some (.cells vs T f)) (hv:vs[o]?=some v):i.w.cell? ⟨b,o,none⟩=some v:=by
 have hb:b<W.heap.size:=by
  rcases Nat.lt_or_ge b W.heap.size with h1|h1
  ·exact h1
  ·rw[Array.getElem?_eq_none h1] at h;cases h
 rw[i.cell hb,ay h,hv]

theorem sl1 {W:World} {b:Nat} {T:TypeId} {v0:Value} {r:List Value} (h:Hid (W.heap[b]?=some (.cells (v0 ::r).toArray T (0,0)))):(∀q:Wd W,q.w.cell? ⟨b,0,none⟩=some v0):=fun q=>q.slot h rfl
theorem sl2 {W:World} {b:Nat} {T:TypeId} {v0 v1:Value} {r:List Value} (h:Hid (W.heap[b]?=some (.cells (v0 ::v1 ::r).toArray T (0,0)))):(∀q:Wd W,q.w.cell? ⟨b,0,none⟩=some v0)/\(∀q:Wd W,q.w.cell? ⟨b,1,none⟩=some v1):=⟨fun q=>q.slot h rfl,fun q=>q.slot h rfl⟩
theorem sl3 {W:World} {b:Nat} {T:TypeId} {v0 v1 v2:Value} {r:List Value} (h:Hid (W.heap[b]?=some (.cells (v0 ::v1 ::v2 ::r).toArray T (0,0)))):(∀q:Wd W,q.w.cell? ⟨b,0,none⟩=some v0)/\(∀q:Wd W,q.w.cell? ⟨b,1,none⟩=some v1)/\(∀q:Wd W,q.w.cell? ⟨b,2,none⟩=some v2):=⟨fun q=>q.slot h rfl,fun q=>q.slot h rfl,fun q=>q.slot h rfl⟩
theorem sl4 {W:World} {b:Nat} {T:TypeId} {v0 v1 v2 v3:Value} {r:List Value} (h:Hid (W.heap[b]?=some (.cells (v0 ::v1 ::v2 ::v3 ::r).toArray T (0,0)))):(∀q:Wd W,q.w.cell? ⟨b,0,none⟩=some v0)/\(∀q:Wd W,q.w.cell? ⟨b,1,none⟩=some v1)/\(∀q:Wd W,q.w.cell? ⟨b,2,none⟩=some v2)/\(∀q:Wd W,q.w.cell? ⟨b,3,none⟩=some v3):=⟨fun q=>q.slot h rfl,fun q=>q.slot h rfl,fun q=>q.slot h rfl,fun q=>q.slot h rfl⟩
theorem sl5 {W:World} {b:Nat} {T:TypeId} {v0 v1 v2 v3 v4:Value} {r:List Value} (h:Hid (W.heap[b]?=some (.cells (v0 ::v1 ::v2 ::v3 ::v4 ::r).toArray T (0,0)))):(∀q:Wd W,q.w.cell? ⟨b,0,none⟩=some v0)/\(∀q:Wd W,q.w.cell? ⟨b,1,none⟩=some v1)/\(∀q:Wd W,q.w.cell? ⟨b,2,none⟩=some v2)/\(∀q:Wd W,q.w.cell? ⟨b,3,none⟩=some v3)/\(∀q:Wd W,q.w.cell? ⟨b,4,none⟩=some v4):=⟨fun q=>q.slot h rfl,fun q=>q.slot h rfl,fun q=>q.slot h rfl,fun q=>q.slot h rfl,fun q=>q.slot h rfl⟩
theorem sl6 {W:World} {b:Nat} {T:TypeId} {v0 v1 v2 v3 v4 v5:Value} {r:List Value} (h:Hid (W.heap[b]?=some (.cells (v0 ::v1 ::v2 ::v3 ::v4 ::v5 ::r).toArray T (0,0)))):(∀q:Wd W,q.w.cell? ⟨b,0,none⟩=some v0)/\(∀q:Wd W,q.w.cell? ⟨b,1,none⟩=some v1)/\(∀q:Wd W,q.w.cell? ⟨b,2,none⟩=some v2)/\(∀q:Wd W,q.w.cell? ⟨b,3,none⟩=some v3)/\(∀q:Wd W,q.w.cell? ⟨b,4,none⟩=some v4)/\(∀q:Wd W,q.w.cell? ⟨b,5,none⟩=some v5):=⟨fun q=>q.slot h rfl,fun q=>q.slot h rfl,fun q=>q.slot h rfl,fun q=>q.slot h rfl,fun q=>q.slot h rfl,fun q=>q.slot h rfl⟩
theorem sl7 {W:World} {b:Nat} {T:TypeId} {v0 v1 v2 v3 v4 v5 v6:Value} {r:List Value} (h:Hid (W.heap[b]?=some (.cells (v0 ::v1 ::v2 ::v3 ::v4 ::v5 ::v6 ::r).toArray T (0,0)))):(∀q:Wd W,q.w.cell? ⟨b,0,none⟩=some v0)/\(∀q:Wd W,q.w.cell? ⟨b,1,none⟩=some v1)/\(∀q:Wd W,q.w.cell? ⟨b,2,none⟩=some v2)/\(∀q:Wd W,q.w.cell? ⟨b,3,none⟩=some v3)/\(∀q:Wd W,q.w.cell? ⟨b,4,none⟩=some v4)/\(∀q:Wd W,q.w.cell? ⟨b,5,none⟩=some v5)/\(∀q:Wd W,q.w.cell? ⟨b,6,none⟩=some v6):=⟨fun q=>q.slot h rfl,fun q=>q.slot h rfl,fun q=>q.slot h rfl,fun q=>q.slot h rfl,fun q=>q.slot h rfl,fun q=>q.slot h rfl,fun q=>q.slot h rfl⟩
theorem sl8 {W:World} {b:Nat} {T:TypeId} {v0 v1 v2 v3 v4 v5 v6 v7:Value} {r:List Value} (h:Hid (W.heap[b]?=some (.cells (v0 ::v1 ::v2 ::v3 ::v4 ::v5 ::v6 ::v7 ::r).toArray T (0,0)))):(∀q:Wd W,q.w.cell? ⟨b,0,none⟩=some v0)/\(∀q:Wd W,q.w.cell? ⟨b,1,none⟩=some v1)/\(∀q:Wd W,q.w.cell? ⟨b,2,none⟩=some v2)/\(∀q:Wd W,q.w.cell? ⟨b,3,none⟩=some v3)/\(∀q:Wd W,q.w.cell? ⟨b,4,none⟩=some v4)/\(∀q:Wd W,q.w.cell? ⟨b,5,none⟩=some v5)/\(∀q:Wd W,q.w.cell? ⟨b,6,none⟩=some v6)/\(∀q:Wd W,q.w.cell? ⟨b,7,none⟩=some v7):=⟨fun q=>q.slot h rfl,fun q=>q.slot h rfl,fun q=>q.slot h rfl,fun q=>q.slot h rfl,fun q=>q.slot h rfl,fun q=>q.slot h rfl,fun q=>q.slot h rfl,fun q=>q.slot h rfl⟩
theorem ah {P:Program} {id:Nat} {Q:Exit->Act->World->Prop} {a:Act} {w:World} {l:List Oper} (hm:P.follows .mixedOrders=true) (hB:Region.lexB .any l.toArray=true)
  (h:wpQuiet P l.toArray (fun w'=> ∃i:Wd w,w'=i.w) (fun a'=> ∀w',(∃i:Wd w,w'=i.w)->Q .normal a' w') l a):(Code.region id l.toArray true).wp P Q a w:=
 wp_region_quiet (C:=fun w'=> ∃i:Wd w,w'=i.w) hm hB ⟨⟨_,(sB w.heap.size w).drew⟩,rfl⟩ (by simpa using h)

theorem Calls.wide {P:Program} {f:FuncId} {args:Array Value} {W:World} {i:Wd W} {v:Value} (h:Calls P f args i.w fun e w'=>e=.returned v/\Below i.w.heap.size i.w w'):Calls P f args i.w fun e w''=>e=.returned v/\∃j:Wd W,w''=j.w:=
 h.mono fun _ w' ⟨he,hb⟩=>⟨he,⟨w',i.b.trans (hb.mono i.b.size)⟩,rfl⟩
namespace Mk

def fP (u n:Nat) (r:ByteArray):Prop:=n<=u/\(if n=0 then [] else tG n)++r.data.toList=tG u

def dgB (n:Nat):UInt8:=UInt8.ofNat (48+n % 10)
theorem fP.len {u n:Nat} {r:ByteArray} (h:fP u n r) (h1:u<=9223372036854775807):r.size<=19:=by
 have h2:=congrArg List.length h.2;have h3:=lx (u:=u) (k:=18) af;rw[sY] at h2;rw[Lib.size_eq];omega
theorem fP.step {u n:Nat} {r:ByteArray} (h:fP u n r) (hn:¬n=0):fP u (n / 10) (⟨#[dgB n]⟩++r):=by
 obtain⟨h1,h2⟩:=h;refine⟨by omega,?_⟩;rw[if_neg hn] at h2;rw[<-h2,<-oL n af];simp[dgB]

theorem oM (w:World) (n:Nat):(convert 136 9 (.slice (some ⟨w.heap.size,0,none⟩) 1 1)).run Tryz.prog (w.alloc (.cells #[.int .u8 (48+(n:Int) % 10)] 5))=.ok (.string ⟨#[dgB n]⟩) (w.alloc (.cells #[.int .u8 (48+(n:Int) % 10)] 5)):=
 run_convert_bytes_back (P:=Tryz.prog) _ 136 9 5 ⟨w.heap.size,0,none⟩ 1 [UInt8.ofNat (48+n % 10)] Tryz.underlying136 Tryz.underlying5 Tryz.underlying9 (fun j hj=>by
  simp at hj;subst hj;simp[Addr.add];have:=mg (k:=n % 10) af;omega)

def aP (u:Nat):ByteArray:=⟨#[109]⟩++⟨(tG u).toArray⟩

theorem en (u:Nat) (w:World) (h0:0<u) (h1:u<=1152921504606846976):
  Calls Tryz.prog 67 #[.int .i64 u] w fun e w'=>e=.returned (.string (aP u))/\Below w.heap.size w w':=by
 go_enter Tryz.func67,Tryz.ntmps67;go_wp2;go_loopw [0,3] (fun vn vr wr=> ∃(n:Nat) (r:ByteArray),vn=.int .i64 n/\vr=.string r/\fP u n r/\Below w.heap.size w wr) (fun vn _ _=>(intOf vn).toNat);case atStart=>exact⟨u,_,rfl,rfl,⟨sy _,by rw[if_neg af];simp⟩,sB _ _⟩
 case round=>
  obtain⟨n,r,rfl,rfl,hd,hb⟩:=hrel;have hle:=sC hd.1 h1;have hr:=hd.len af;have hr2:(⟨#[dgB n]⟩:ByteArray).size+r.size<=9223372036854775807:=by rw[show (⟨#[dgB n]⟩:ByteArray).size=1 from rfl];omega
  have HD:Hid (fP u n r):=hd;clear hd h1;by_cases hn:n=0
  ·have hn1:¬(0:Int)<n:=af
   have hr3:(⟨#[109]⟩:ByteArray).size+r.size<=9223372036854775807:=by rw[show (⟨#[109]⟩:ByteArray).size=1 from rfl];omega
   go_wp2;go_ret;refine⟨?_,hb⟩;have:=HD.2;rw[if_pos hn] at this;unfold aP;rw[<-this];rfl
  ·have hn1:(0:Int)<n:=af
   have hcv:=oM wr n;have hmd:(0:Int)<=(n:Int) % 10:=af
   go_wp2;go_roundw;case rel=>
    refine⟨n / 10,_,by go_num,rfl,HD.step hn,?_⟩;exact hb.alloc (by have:=hb.size;omega) _
   case measure=>simp[intOf];omega

structure Kept (g:Nat) (w w':World):Prop where
 os:w'.os=w.os
 tape:w'.tape=w.tape
 output:w'.output=w.output
 size:w.heap.size<=w'.heap.size
 block:∀k,k<w.heap.size->¬k=g->w'.heap[k]?=w.heap[k]?
theorem Kept.ct {g:Nat} {w w':World} (h:Below w.heap.size w w'):Kept g w w':=⟨h.os,h.tape,h.output,h.size,fun k hk _=>h.block k hk⟩
theorem Kept.trans {g:Nat} {a b c:World} (h:Kept g a b) (k:Kept g b c):Kept g a c:=⟨k.os.trans h.os,k.tape.trans h.tape,k.output.trans h.output,sC h.size k.size,fun i hi hn=>(k.block i (sG hi h.size) hn).trans (h.block i hi hn)⟩
theorem Kept.set {g i:Nat} {w w':World} {v:Value} (h:Kept g w w'):Kept g w (w'.setCell ⟨g,i,none⟩ v):=
 ⟨h.os,h.tape,h.output,by simpa[sZ] using h.size,fun k hk hn=>(sz _ _ _ _ hn).trans (h.block k hk hn)⟩
def oP (k n:Nat) (cur:Array Value):Prop:=∀j,j<n->cur[j]?=some (.string (aP (k+j)))
def pg (g k len n:Nat) (w:World) (e:Ending) (w':World):Prop:=
 e=.returned (.int .i64 ((k+len:Nat):Int))/\Kept g w w'/\∃cur,w'.heap[g]?=some (.cells cur 9 (0,0))/\oP k len cur/\cur.size=n

theorem qQ (k i:Nat) (h0:0<k) (h1:k+i<=1152921504606846976) (w:World):Calls Tryz.prog 67 #[.int .i64 ((k:Int)+(i:Int))] w fun e w'=>e=.returned (.string (aP (k+i)))/\Below w.heap.size w w':=by
 have h:=en (k+i) w af h1;rw[Int.natCast_add] at h;exact h

theorem lT (g len cap k:Nat) (cur:Array Value) (w:World) (hg:w.heap[g]?=some (.cells cur 9 (0,0))) (hl:len<=cur.size) (hk:0<k) (hk2:k+len<=1152921504606846976):
  Calls Tryz.prog 68 #[.slice (some ⟨g,0,none⟩) len cap,.int .i64 k] w (pg g k len cur.size w):=by
 have HG:=aa hg;clear hg;go_enter Tryz.func68,Tryz.ntmps68;go_wp2;go_loopw [1,5] (fun vk vi wr=> ∃(i:Nat) (cu:Array Value),i<=len/\vk=.int .i64 ((k+i:Nat):Int)/\vi=.int .i64 i/\cu.size=cur.size/\Hid (wr.heap[g]?=some (.cells cu 9 (0,0)))/\Hid (oP k i cu)/\Hid (Kept g w wr)) (fun _ vi _=>len - (intOf vi).toNat);case atStart=>exact⟨0,cur,by omega,by simp,rfl,rfl,HG,fun j hj=>by omega,Kept.ct (sB _ _)⟩
 case round=>
  obtain⟨i,cu,hi,rfl,rfl,hcs,HC,HM,HK⟩:=hrel;by_cases hlt:i<len
  ·have HT:=aa (qQ k i af af);go_wp2_with fail;refine (HT.out _).mono ?_;rintro e w2 ⟨rfl,hb2⟩;have g2:=(hb2.block g (ae HC.out)).trans HC.out;have hcl:w2.cell? ⟨g,i,none⟩=some (cu[i]'(by omega)):=by rw[ay g2];exact Array.getElem?_eq_getElem _
   have hfr:w2.frozen? ⟨g,i,none⟩=false:=by simp[World.frozen?,g2]
   have HG2:=aa g2;have HK2:=aa (HK.trans (Kept.ct (g:=g) hb2));clear hb2 g2;go_wp2_with fail;refine⟨⟨i+1,cu.setIfInBounds i (.string (aP (k+i))),by omega,by go_num,by go_num,by simp[hcs],?_,?_,HK2.set⟩,by simp[intOf];omega⟩
   ·exact aD HG2.out _
   ·intro j hj;rw[sS];by_cases e:i=j
    ·subst e;rw[if_pos rfl,if_pos af]
    ·rw[if_neg e];exact HM.out j af
  ·obtain rfl:i=len:=af
   go_wp2;go_ret;exact⟨rfl,HK.out,cu,HC.out,HM.out,hcs⟩

theorem l9 (a:Option Addr) (len cap k:Nat) (zs:List ByteArray) (w:World) (hr:ar w a len cap zs) (hk:0<k) (hk2:k+len<=1152921504606846976) (hz:∀(j:Nat) x,zs[j]?=some x->x=aP (k+j)):
  Calls Tryz.prog 89 #[.slice a len cap,.int .i64 k] w fun e w'=>e=.returned (.int .i64 ((k+len:Nat):Int))/\Below w.heap.size w w':=by
 have HR:=aa hr;have HZ:=aa hz;clear hr hz;go_enter Tryz.func89,Tryz.ntmps89;go_wp2;go_loopw [1,5] (fun vk vi wr=> ∃(i:Nat),i<=len/\vk=.int .i64 ((k+i:Nat):Int)/\vi=.int .i64 i/\Hid (Below w.heap.size w wr)) (fun _ vi _=>len - (intOf vi).toNat);case atStart=>exact⟨0,by omega,by simp,rfl,sB _ _⟩
 case round=>
  obtain⟨i,hi,rfl,rfl,HB⟩:=hrel;by_cases hlt:i<len
  ·obtain⟨b,o,x,rfl,hb,hx,hc,-⟩:=(HR.below HB.out).at hlt;obtain rfl:=HZ.out i x hx;have HT:=aa (qQ k i af af);have hb':=aa hb;go_wp2_with fail;have hne:=Wd.ne wr;have cc:∀q:Wd wr,q.w.cell? ⟨b,o+i,none⟩=some (.string (aP (k+i))):=fun q=>(q.cell hb'.out).trans hc;refine ah an an ?_;repeat (go_big_quiet_step (first|(go_at_call 67;exact Calls.wide (HT.out _))|fail))
   refine wpQuiet_nil ?_;rintro _ ⟨q,rfl⟩;go_wp2_with fail;exact⟨⟨i+1,by omega,by go_num,by go_num,HB.trans (q.b.mono HB.size)⟩,by simp[intOf];omega⟩
  ·obtain rfl:i=len:=af
   go_wp2;go_ret;exact⟨rfl,HB.out⟩

theorem j0 (a:Option Addr) (cap:Nat) (u:Int) (w:World):
  Calls Tryz.prog 68 #[.slice a 0 cap,.int .i64 u] w fun e w'=>e=.returned (.int .i64 u)/\Below w.heap.size w w':=by
 go_enter Tryz.func68,Tryz.ntmps68;go_wp2;go_loopw [1,5] (fun vk vi wr=>vk=.int .i64 u/\vi=.int .i64 0/\wr=w) (fun _ vi _=>(intOf vi).toNat);case atStart=>exact⟨rfl,rfl,rfl⟩
 case round=>
  obtain⟨rfl,rfl,rfl⟩:=hrel;go_wp2;go_ret;exact⟨rfl,sB _ _⟩

theorem aS {u:Nat} (h:u<=1152921504606846976):(aP u).size<=9223372036854775807:=by
 have h3:=lx (u:=u) (k:=18) af;unfold aP;rw[ByteArray.size_append];have:(⟨(tG u).toArray⟩:ByteArray).size=(tG u).length:=by simp[ByteArray.size]
 rw[this,show (⟨#[109]⟩:ByteArray).size=1 from rfl];omega
end Mk
end Go.Proofs.YtdfgbboadbnodaaGreatDoor

namespace Go.Proofs.YtdfgbboadbnodaaGreatDoor
open Go.RowKit
namespace Rc
open Mk

inductive Fv where
 | s (b:ByteArray)
 | i (n:Int)
 | b (x:Bool)
 | l (zs:List ByteArray)
def Fv.val:Fv->Option Value
 | .s t=>some (.string t)
 | .i n=>some (.int .i64 n)
 | .b x=>some (.bool x)
 | .l _=>none
def Fv.fit:Fv->Prop
 | .s t=>t.size<=9223372036854775807
 | _=>True
def Fv.Is (w:World):Fv->Value->Prop
 | .s t,v=>v=.string t/\t.size<=9223372036854775807
 | .i n,v=>v=.int .i64 n
 | .b x,v=>v=.bool x
 | .l zs,v=> ∃a len cap,v=.slice a len cap/\ar w a len cap zs
theorem Fv.Is.below {w w':World} {f:Fv} {v:Value} (h:f.Is w v) (hb:Below w.heap.size w w'):f.Is w' v:=by
 cases f with
 | l zs=>obtain⟨a,len,cap,h1,h2⟩:=h;exact⟨a,len,cap,h1,h2.below hb⟩
 | _=>exact h
def RAt (w:World) (b o:Nat) (r:List Fv):Prop:=∀(i:Nat) f,r[i]?=some f->∃v,w.cell? ⟨b,o+i,none⟩=some v/\f.Is w v
theorem RAt.below {w w':World} {b o:Nat} {r:List Fv} (h:RAt w b o r) (hl:b<w.heap.size) (hb:Below w.heap.size w w'):RAt w' b o r:=by
 intro i f hi;obtain⟨v,h1,h2⟩:=h i f hi;exact⟨v,(ai hb hl).trans h1,h2.below hb⟩
def aA (w:World) (a:Option Addr) (len cap m:Nat) (rs:List (List Fv)):Prop:=
 rs.length=len/\len<=cap/\cap<=9223372036854775807/\(rs=[]\/∃b o,a=some ⟨b,o,none⟩/\b<w.heap.size/\∀(j:Nat) r,rs[j]?=some r->RAt w b (o+j*m) r)
theorem aA.below {w w':World} {a:Option Addr} {len cap m:Nat} {rs:List (List Fv)} (h:aA w a len cap m rs) (hb:Below w.heap.size w w'):aA w' a len cap m rs:=by
 obtain⟨h1,h2,h3,h5⟩:=h;refine⟨h1,h2,h3,?_⟩;rcases h5 with h5|⟨b,o,rfl,hlt,hc⟩
 ·exact Or.inl h5
 ·exact Or.inr ⟨b,o,rfl,sG hlt hb.size,fun j v hv=>(hc j v hv).below hlt hb⟩
theorem aA.at {w:World} {a:Option Addr} {len cap m:Nat} {rs:List (List Fv)} (h:aA w a len cap m rs) {j:Nat} (hj:j<len):
  ∃b o r,a=some ⟨b,o,none⟩/\b<w.heap.size/\rs[j]?=some r/\RAt w b (o+j*m) r:=by
 obtain⟨h1,h2,h3,h5⟩:=h;have hx:rs[j]?=some (rs[j]'(by omega)):=sA _;rcases h5 with h5|⟨b,o,rfl,hlt,hc⟩
 ·subst h5;simp at h1;omega
 ·exact⟨b,o,_,rfl,hlt,hx,hc j _ hx⟩
structure az (S:Nat->Prop) (w w':World):Prop where
 os:w'.os=w.os
 tape:w'.tape=w.tape
 output:w'.output=w.output
 size:w.heap.size<=w'.heap.size
 block:∀k,k<w.heap.size->¬S k->w'.heap[k]?=w.heap[k]?
theorem az.refl (S:Nat->Prop) (w:World):az S w w:=⟨rfl,rfl,rfl,sy _,fun _ _ _=>rfl⟩
theorem az.trans {S:Nat->Prop} {a b c:World} (h:az S a b) (k:az S b c):az S a c:=⟨k.os.trans h.os,k.tape.trans h.tape,k.output.trans h.output,sC h.size k.size,fun i hi hn=>(k.block i (sG hi h.size) hn).trans (h.block i hi hn)⟩
theorem az.ct {S:Nat->Prop} {w w':World} (k:Below w.heap.size w w'):az S w w':=⟨k.os,k.tape,k.output,k.size,fun i hi _=>k.block i hi⟩
theorem az.below {S:Nat->Prop} {a b c:World} (h:az S a b) (k:Below b.heap.size b c):az S a c:=h.trans (az.ct k)
theorem az.mono {S S':Nat->Prop} {w w':World} (h:az S w w') (hs:∀k,S k->S' k):az S' w w':=⟨h.os,h.tape,h.output,h.size,fun k hk hn=>h.block k hk (fun x=>hn (hs k x))⟩
theorem az.set {S:Nat->Prop} {g i:Nat} {w w':World} {v:Value} (h:az S w w') (h1:S g):az S w (w'.setCell ⟨g,i,none⟩ v):=
 ⟨h.os,h.tape,h.output,by simpa[sZ] using h.size,fun k hk hn=>(sz _ _ _ _ (show k≠g from fun e=>hn (e ▸ h1))).trans (h.block k hk hn)⟩
theorem az.kept {S:Nat->Prop} {g:Nat} {w w1 w2:World} (h:az S w w1) (h1:S g) (k:Kept g w1 w2):az S w w2:=
 h.trans ⟨k.os,k.tape,k.output,k.size,fun i hi hn=>k.block i hi (fun e=>hn (e ▸ h1))⟩
theorem az.low {S:Nat->Prop} {X:Nat} {w w':World} (h:az S w w') (hX:X<=w.heap.size) (hS:∀k,S k->X<=k):Below X w w':=⟨h.os,h.tape,h.output,h.size,fun k hk=>h.block k (sG hk hX) (fun s=>by have:=hS k s;omega)⟩

def jr (w:World) (h:Nat) (S:Nat->Prop) (g:Nat) (zs:List ByteArray) (v:Value):Prop:=
 ∃a len cap,v=.slice a len cap/\zs.length=len/\len<=cap/\cap<=9223372036854775807/\(∀(j:Nat) x,zs[j]?=some x->x.size<=9223372036854775807)/\
  (zs=[]\/(a=some ⟨h,0,none⟩/\S h/\¬h=g/\∃cu,w.heap[h]?=some (.cells cu 9 (0,0))/\∀(j:Nat) x,zs[j]?=some x->cu[j]?=some (.string x)))
theorem jr.row {w:World} {h:Nat} {S:Nat->Prop} {g:Nat} {zs:List ByteArray} {a:Option Addr} {len cap:Nat} (k:jr w h S g zs (.slice a len cap)):ar w a len cap zs:=by
 obtain⟨a',l',c',h1,h2,h3,h4,h5,h6⟩:=k;cases h1;refine⟨h2,h3,h4,h5,h6.imp id ?_⟩;rintro⟨q1,q2,q3,cu,q4,q5⟩;exact⟨h,0,q1,ae q4,fun j x hx=>by rw[th,ay q4];exact q5 j x hx⟩
def Fv.Own (w:World) (h:Nat) (S:Nat->Prop) (g:Nat):Fv->Value->Prop
 | .s t,v=>v=.string t/\t.size<=9223372036854775807
 | .i n,v=>v=.int .i64 n
 | .b x,v=>v=.bool x
 | .l zs,v=>jr w h S g zs v
theorem Fv.Own.is {w:World} {h:Nat} {S:Nat->Prop} {g:Nat} {f:Fv} {v:Value} (k:f.Own w h S g v):f.Is w v:=by
 cases f with
 | l zs=>
  obtain⟨a,len,cap,h1,h2⟩:=k;exact⟨a,len,cap,h1,jr.row (h:=h) (S:=S) (g:=g) (h1 ▸ ⟨a,len,cap,h1,h2⟩)⟩
 | _=>exact k
theorem Fv.Own.qY {w:World} {h:Nat} {S:Nat->Prop} {g:Nat} {f:Fv} {v:Value} (hv:f.val=some v) (hf:f.fit):f.Own w h S g v:=by
 cases f with
 | s t=>cases hv;exact⟨rfl,hf⟩
 | i n=>cases hv;exact rfl
 | b x=>cases hv;exact rfl
 | l zs=>cases hv

structure b_ (w:World) (g m:Nat) (T:TypeId) (rs:List (List Fv)) (S:Nat->Prop) (cur:Array Value) (H:Nat->Nat->Nat):Prop where
 blk:w.heap[g]?=some (.cells cur T (0,0))
 inS:S g
 len:∀(j:Nat) r,rs[j]?=some r->r.length=m
 cell:∀(j:Nat) r,rs[j]?=some r->∀(i:Nat) f,r[i]?=some f->∃v,cur[j*m+i]?=some v/\f.Own w (H j i) S g v
 inj:∀(j:Nat) r (i:Nat) zs (j':Nat) r' (i':Nat) zs',rs[j]?=some r->r[i]?=some (.l zs)->zs≠[]->rs[j']?=some r'->r'[i']?=some (.l zs')->zs'≠[]->H j i=H j' i'->j=j'/\i=i'
def ax (w:World) (a:Option Addr) (len cap m:Nat) (T:TypeId) (rs:List (List Fv)) (S:Nat->Prop):Prop:=
 rs.length=len/\len<=cap/\cap<=9223372036854775807/\(rs=[]\/∃g cur H,a=some ⟨g,0,none⟩/\b_ w g m T rs S cur H)
theorem b_.aI {w w':World} {g m:Nat} {T:TypeId} {rs:List (List Fv)} {S S':Nat->Prop} {cur:Array Value} {H:Nat->Nat->Nat} (h:b_ w g m T rs S cur H) (hk:∀k,k<w.heap.size->S k->w'.heap[k]?=w.heap[k]?) (hs:∀k,k<w.heap.size->S k->S' k):b_ w' g m T rs S' cur H:=by
 refine⟨(hk g (ae h.blk) h.inS).trans h.blk,hs g (ae h.blk) h.inS,h.len,fun j r hj i f hi=>?_,h.inj⟩;obtain⟨v,h1,h2⟩:=h.cell j r hj i f hi;refine⟨v,h1,?_⟩;cases f with
 | l zs=>
  obtain⟨a',l',c',h1,h2,h3,h4,h5,h6⟩:=h2;refine⟨a',l',c',h1,h2,h3,h4,h5,h6.imp id ?_⟩;rintro⟨q1,q2,q3,cu,q4,q5⟩;exact⟨q1,hs _ (ae q4) q2,q3,cu,(hk _ (ae q4) q2).trans q4,q5⟩
 | _=>exact h2
theorem ax.aI {w w':World} {a:Option Addr} {len cap m:Nat} {T:TypeId} {rs:List (List Fv)} {S S':Nat->Prop} (h:ax w a len cap m T rs S) (hk:∀k,k<w.heap.size->S k->w'.heap[k]?=w.heap[k]?) (hs:∀k,k<w.heap.size->S k->S' k):ax w' a len cap m T rs S':=by
 obtain⟨h1,h2,h3,h4⟩:=h;refine⟨h1,h2,h3,h4.imp id ?_⟩;rintro⟨g,cur,H,h5,h6⟩;exact⟨g,cur,H,h5,h6.aI hk hs⟩
theorem ax.below {w w':World} {a:Option Addr} {len cap m:Nat} {T:TypeId} {rs:List (List Fv)} {S:Nat->Prop} (h:ax w a len cap m T rs S) (hb:Below w.heap.size w w'):ax w' a len cap m T rs S:=h.aI (fun k hk _=>hb.block k hk) (fun _ _ s=>s)
theorem ax.kept {w w':World} {a:Option Addr} {len cap m:Nat} {T:TypeId} {rs:List (List Fv)} {S S':Nat->Prop} (h:ax w a len cap m T rs S) (hb:az S' w w') (hd:∀k,S k->¬S' k):ax w' a len cap m T rs S:=h.aI (fun k hk s=>hb.block k hk (hd k s)) (fun _ _ s=>s)
theorem ax.da {w:World} {a:Option Addr} {len cap m:Nat} {T:TypeId} {rs:List (List Fv)} {S S':Nat->Prop} (h:ax w a len cap m T rs S) (hs:∀k,k<w.heap.size->S k->S' k):ax w a len cap m T rs S':=h.aI (fun _ _ _=>rfl) hs
theorem b_.rat {w:World} {g m:Nat} {T:TypeId} {rs:List (List Fv)} {S:Nat->Prop} {cur:Array Value} {H:Nat->Nat->Nat} (h:b_ w g m T rs S cur H) {j:Nat} {r:List Fv} (hj:rs[j]?=some r):RAt w g (j*m) r:=by
 intro i f hi;obtain⟨v,h1,h2⟩:=h.cell j r hj i f hi;exact⟨v,(ay h.blk _).trans h1,h2.is⟩
theorem ax.row {w:World} {a:Option Addr} {len cap m:Nat} {T:TypeId} {rs:List (List Fv)} {S:Nat->Prop} (h:ax w a len cap m T rs S):aA w a len cap m rs:=by
 obtain⟨h1,h2,h3,h4⟩:=h;refine⟨h1,h2,h3,h4.imp id ?_⟩;rintro⟨g,cur,H,h5,h6⟩;exact⟨g,0,h5,ae h6.blk,fun j r hj=>by rw[th];exact h6.rat hj⟩
theorem ax.nil {w:World} (a:Option Addr) (cap m:Nat) (T:TypeId) (S:Nat->Prop) (h:cap<=9223372036854775807):ax w a 0 cap m T [] S:=⟨rfl,Nat.zero_le _,h,.inl rfl⟩

theorem pb {m j i j' i':Nat} (hi:i<m) (hi':i'<m) (h:j*m+i=j'*m+i'):j=j'/\i=i':=by
 have hm:0<m:=af
 have e1:(j*m+i) / m=j:=by rw[Nat.mul_comm,Nat.mul_add_div hm,Nat.div_eq_of_lt hi];rfl
 have e2:(j'*m+i') / m=j':=by rw[Nat.mul_comm,Nat.mul_add_div hm,Nat.div_eq_of_lt hi'];rfl
 have:j=j':=by rw[<-e1,<-e2,h]
 subst this;exact⟨rfl,by omega⟩
theorem cI {α:Type} {rs:List α} {j k:Nat} {r:α} (hj:j<rs.length):(rs.set j r)[k]?=if j=k then some r else rs[k]?:=by
 rw[List.getElem?_set];by_cases h:j=k
 ·subst h;simp[hj]
 ·simp[h]
def NoH (N:Nat->Prop) (rs:List (List Fv)) (H:Nat->Nat->Nat):Prop:=∀(j:Nat) r (i:Nat) zs,rs[j]?=some r->r[i]?=some (.l zs)->zs≠[]->¬N (H j i)
structure StJ (g m:Nat) (T:TypeId) (S N:Nat->Prop) (w wr:World) (rs:List (List Fv)) (j:Nat) (r:List Fv):Prop where
 own:∃cur H,b_ wr g m T (rs.set j r) S cur H/\NoH N (rs.set j r) H
 kept:az S w wr
 lt:j<rs.length
section
variable {g m:Nat} {T:TypeId} {S N:Nat->Prop} {w wr w2:World} {rs:List (List Fv)} {j:Nat} {r:List Fv}
theorem StJ.below (h:StJ g m T S N w wr rs j r) (hb:Below wr.heap.size wr w2):StJ g m T S N w w2 rs j r:=by
 obtain⟨⟨cur,H,h1,hN⟩,h2,h3⟩:=h;exact⟨⟨cur,H,h1.aI (fun k hk _=>hb.block k hk) (fun _ _ s=>s),hN⟩,h2.below hb,h3⟩
theorem StJ.fresh (h:StJ g m T S N w wr rs j r) (hb:Below wr.heap.size wr w2):StJ g m T S (fun k=>wr.heap.size<=k) w w2 rs j r:=by
 obtain⟨⟨cur,H,h1,hN⟩,h2,h3⟩:=h;refine⟨⟨cur,H,h1.aI (fun k hk _=>hb.block k hk) (fun _ _ s=>s),fun j' r' i' zs hj hi hz hk=>?_⟩,h2.below hb,h3⟩;obtain⟨v,h4,a,len,cap,rfl,h5,h6,h7,h8,h9⟩:=h1.cell j' r' hj i' _ hi;rcases h9 with h9|⟨q1,q2,q3,cu,q4,q5⟩
 ·exact hz h9
 ·have:=ae q4;omega
theorem StJ.get (h:StJ g m T S N w wr rs j r):(rs.set j r)[j]?=some r:=by rw[cI h.lt,if_pos rfl]
theorem StJ.cell (h:StJ g m T S N w wr rs j r) {i:Nat} {f:Fv} (hi:r[i]?=some f):∃v,wr.cell? ⟨g,j*m+i,none⟩=some v:=by
 obtain⟨⟨cur,H,h1,hN⟩,h2,h3⟩:=h;obtain⟨v,h4,h5⟩:=h1.cell j r (by rw[cI h3,if_pos rfl]) i f hi;exact⟨v,(ay h1.blk _).trans h4⟩
theorem StJ.bJ (h:StJ g m T S N w wr rs j r) (i:Nat):wr.frozen? ⟨g,i,none⟩=false:=by
 obtain⟨⟨cur,H,h1,hN⟩,h2,h3⟩:=h;exact aq h1.blk i
theorem StJ.slice (h:StJ g m T S N w wr rs j r) {i:Nat} {zs:List ByteArray} (hi:r[i]?=some (.l zs)):∃a len cap,wr.cell? ⟨g,j*m+i,none⟩=some (.slice a len cap)/\zs.length=len:=by
 obtain⟨⟨cur,H,h1,hN⟩,h2,h3⟩:=h;obtain⟨v,h4,a,len,cap,rfl,h5,-⟩:=h1.cell j r (by rw[cI h3,if_pos rfl]) i _ hi;exact⟨a,len,cap,(ay h1.blk _).trans h4,h5⟩
theorem fg (hlt:j<rs.length) {f:Fv} {i:Nat} (hl:∀(j':Nat) r',(rs.set j r)[j']?=some r'->r'.length=m):∀(j':Nat) r',(rs.set j (r.set i f))[j']?=some r'->r'.length=m:=by
 intro j' r' hj';rw[cI hlt] at hj';split at hj'
 ·cases hj';rw[List.length_set];exact hl j r (by rw[cI hlt,if_pos rfl])
 ·exact hl j' r' (by rw[cI hlt,if_neg (by assumption)];exact hj')
theorem cr (hlt:j<rs.length) {f:Fv} {i:Nat} (hil:i<r.length) {j':Nat} {r':List Fv} {i':Nat} {f':Fv} (hj':(rs.set j (r.set i f))[j']?=some r') (hi':r'[i']?=some f'):
  (j'=j/\i'=i/\f'=f)\/(¬(j'=j/\i'=i)/\∃r0,(rs.set j r)[j']?=some r0/\r0[i']?=some f'):=by
 rw[cI hlt] at hj' ⊢;split at hj'
 ·next e=>
  cases hj';rw[if_pos e];rw[List.getElem?_set] at hi';split at hi'
  ·next e2=>
   try rw[if_pos hil] at hi'
   exact .inl ⟨e.symm,e2.symm,(sx hi').symm⟩
  ·next e2=>exact .inr ⟨fun q=>e2 q.2.symm,r,rfl,hi'⟩
 ·next e=>
  rw[if_neg e];exact .inr ⟨fun q=>e q.1.symm,r',hj',hi'⟩
theorem Fv.Own.aQ {k:Nat} {v:Value} {u:Fv} {z:Value} {h:Nat} (hu:u.Own wr h S g z):u.Own (wr.setCell ⟨g,k,none⟩ v) h S g z:=by
 cases u with
 | l zs=>
  obtain⟨a',l',c',k1,k2,k3,k4,k5,k6⟩:=hu;refine⟨a',l',c',k1,k2,k3,k4,k5,k6.imp id ?_⟩;rintro⟨q1,q2,q3,cu,q4,q5⟩;exact⟨q1,q2,q3,cu,(sz _ _ _ _ q3).trans q4,q5⟩
 | _=>exact hu
theorem StJ.set (h:StJ g m T S N w wr rs j r) {i:Nat} {old:Fv} (hi:r[i]?=some old) (f:Fv) {v:Value} (hv:f.val=some v) (hf:f.fit):StJ g m T S N w (wr.setCell ⟨g,j*m+i,none⟩ v) rs j (r.set i f):=by
 have hget:=h.get;obtain⟨⟨cur,H,h1,hN⟩,h2,h3⟩:=h;have hil:i<r.length:=(sv.1 hi).1;have hrm:=h1.len j r hget;obtain⟨v0,hc0,-⟩:=h1.cell j r hget i _ hi;have hin:j*m+i<cur.size:=(sO.1 hc0).1;have hnl:∀zs,¬.l zs=f:=fun zs e=>by subst e;cases hv
 have back:∀(j':Nat) r' (i':Nat) zs',(rs.set j (r.set i f))[j']?=some r'->r'[i']?=some (.l zs')->∃r0,(rs.set j r)[j']?=some r0/\r0[i']?=some (.l zs'):=by
  intro j' r' i' zs' hj' hi';rcases cr h3 hil hj' hi' with ⟨_,_,e⟩|⟨_,q⟩
  ·exact absurd e (hnl _)
  ·exact q
 refine⟨⟨cur.setIfInBounds (j*m+i) v,H,⟨aD h1.blk v,h1.inS,fg h3 h1.len,fun j' r' hj' i' f' hi'=>?_,fun j' r' i' zs' j2 r2 i2 zs2 hj' hi' hz' hj2 hi2 hz2 hH=>?_⟩,fun j' r' i' zs' hj' hi' hz'=>?_⟩,h2.set h1.inS,h3⟩
 ·rcases cr h3 hil hj' hi' with ⟨rfl,rfl,rfl⟩|⟨hne,r0,q1,q2⟩
  ·exact⟨v,by rw[tJ hin],Fv.Own.qY hv hf⟩
  ·exact qx
 ·obtain⟨r0,b1,b2⟩:=back j' r' i' zs' hj' hi';obtain⟨r3,b3,b4⟩:=back j2 r2 i2 zs2 hj2 hi2;exact h1.inj j' r0 i' zs' j2 r3 i2 zs2 b1 b2 hz' b3 b4 hz2 hH
 ·obtain⟨r0,b1,b2⟩:=back j' r' i' zs' hj' hi';exact hN j' r0 i' zs' b1 b2 hz'
theorem StJ.qT (h:StJ g m T S N w wr rs j r) {i:Nat} {old:Fv} (hi:r[i]?=some old) {b:Nat} (zs:List ByteArray) {len cap:Nat} (hb:zs≠[]->N b) (hv:jr wr b S g zs (.slice (some ⟨b,0,none⟩) len cap)):
  StJ g m T S (fun k=>N k/\¬k=b) w (wr.setCell ⟨g,j*m+i,none⟩ (.slice (some ⟨b,0,none⟩) len cap)) rs j (r.set i (.l zs)):=by
 have hget:=h.get;obtain⟨⟨cur,H,h1,hN⟩,h2,h3⟩:=h;have hil:i<r.length:=(sv.1 hi).1;have hrm:=h1.len j r hget;obtain⟨v0,hc0,-⟩:=h1.cell j r hget i _ hi;have hin:j*m+i<cur.size:=(sO.1 hc0).1;have hH:∀j' i',¬(j'=j/\i'=i)->(if j'=j/\i'=i then b else H j' i')=H j' i':=fun j' i' hn=>if_neg hn;refine⟨⟨cur.setIfInBounds (j*m+i) (.slice (some ⟨b,0,none⟩) len cap),fun j' i'=>if j'=j/\i'=i then b else H j' i',⟨aD h1.blk _,h1.inS,fg h3 h1.len,fun j' r' hj' i' f' hi'=>?_,fun j' r' i' zs' j2 r2 i2 zs2 hj' hi' hz' hj2 hi2 hz2 hHH=>?_⟩,fun j' r' i' zs' hj' hi' hz'=>?_⟩,h2.set h1.inS,h3⟩
 ·rcases cr h3 hil hj' hi' with ⟨rfl,rfl,rfl⟩|⟨hne,r0,q1,q2⟩
  ·refine⟨_,by rw[tJ hin],?_⟩;rw[if_pos ⟨rfl,rfl⟩];exact Fv.Own.aQ (u:=.l zs) hv
  ·obtain⟨v',k1,k2⟩:=h1.cell j' r0 q1 i' f' q2;have hil':i'<r0.length:=(sv.1 q2).1;have hrm':=h1.len j' r0 q1;refine⟨v',?_,?_⟩
   ·exact nD
   ·rw[if_neg hne];exact k2.aQ
 ·try simp only[] at hHH
  rcases cr h3 hil hj' hi' with ⟨rfl,rfl,e1⟩|⟨hne,r0,q1,q2⟩
  ·rcases cr h3 hil hj2 hi2 with ⟨rfl,rfl,e2⟩|⟨hne2,r3,q3,q4⟩
   ·exact⟨rfl,rfl⟩
   ·rw[if_pos ⟨rfl,rfl⟩,if_neg hne2] at hHH;cases e1;exact absurd (hHH ▸ hb hz') (hN _ _ _ _ q3 q4 hz2)
  ·rcases cr h3 hil hj2 hi2 with ⟨rfl,rfl,e2⟩|⟨hne2,r3,q3,q4⟩
   ·rw[if_neg hne,if_pos ⟨rfl,rfl⟩] at hHH;cases e2;exact absurd (hHH ▸ hb hz2) (hN _ _ _ _ q1 q2 hz')
   ·rw[if_neg hne,if_neg hne2] at hHH;exact h1.inj _ _ _ _ _ _ _ _ q1 q2 hz' q3 q4 hz2 hHH
 ·try simp only[]
  rcases cr h3 hil hj' hi' with ⟨rfl,rfl,e1⟩|⟨hne,r0,q1,q2⟩
  ·rw[if_pos ⟨rfl,rfl⟩];exact fun q=>q.2 rfl
  ·rw[if_neg hne];exact fun q=>hN _ _ _ _ q1 q2 hz' q.1
end

def b8 (u:Int) (l:Nat):List ByteArray:=(tC l).map fun j=>aP (u.toNat+j)
theorem aF (u:Int) (l:Nat):(b8 u l).length=l:=by simp[b8]
theorem eL {u:Int} {l j:Nat} {y:ByteArray} (h:(b8 u l)[j]?=some y):y=aP (u.toNat+j)/\j<l:=by
 have hj:j<l:=by have:=(sv.1 h).1;rw[aF] at this;exact this
 unfold b8 at h;rw[sK,List.getElem?_range hj] at h;simp at h;exact⟨h.symm,hj⟩
theorem ij {α:Type} {l:List α} {i:Nat} {x:α} (h:l[i]?=some x):l.set i x=l:=by
 apply List.ext_getElem?;intro k;rw[List.getElem?_set];split
 ·next e=>
  subst e;rw[if_pos (sv.1 h).1,h]
 ·rfl

theorem StJ.oj {g m:Nat} {T:TypeId} {S N:Nat->Prop} {w wr:World} {rs:List (List Fv)} {j:Nat} {r:List Fv} (h:StJ g m T S N w wr rs j r) {i:Nat} {zs:List ByteArray} (hi:r[i]?=some (.l zs)) {a:Option Addr} {l c:Nat} (hc:wr.cell? ⟨g,j*m+i,none⟩=some (.slice a l c)) (u:Int) (hu0:0<u) (hu1:u+l<=1152921504606846976):
  Calls Tryz.prog 68 #[.slice a l c,.int .i64 u] wr fun e w'=>e=.returned (.int .i64 (u+l))/\StJ g m T S N w w' rs j (r.set i (.l (b8 u l))):=by
 have hget:=h.get;have hst:=h;obtain⟨⟨cur,H,h1,hN⟩,h2,h3⟩:=h;have hil:i<r.length:=(sv.1 hi).1;obtain⟨v0,hc0,a',l',c',rfl,k2,k3,k4,k5,k6⟩:=h1.cell j r hget i _ hi;rw[ay h1.blk,hc0] at hc;cases hc;obtain⟨n,rfl⟩:∃n:Nat,u=n:=⟨u.toNat,by omega⟩;by_cases hz:zs=[]
 ·subst hz;obtain rfl:l=0:=by simpa using k2.symm
  refine (j0 a c n wr).mono ?_;rintro e w' ⟨rfl,hb⟩;refine⟨by simp,?_⟩;have:b8 (n:Int) 0=[]:=rfl;rw[this,ij hi];exact hst.below hb
 rcases k6 with k6|⟨q1,q2,q3,cu,q4,q5⟩
 ·exact absurd k6 hz
 subst q1;have hls:l<=cu.size:=by
  rcases Nat.eq_zero_or_pos l with e|e
  ·omega
  ·have hx:zs[l - 1]?=some (zs[l - 1]'(by omega)):=sA _;have:=(sO.1 (q5 _ _ hx)).1;omega
 refine (lT (H j i) l c n cu wr q4 hls af af).mono ?_;rintro e w' ⟨rfl,hk,cu',hg',hm,hsz⟩;refine⟨by simp,?_⟩;have back:∀(j':Nat) r' (i':Nat) zs',(rs.set j (r.set i (.l (b8 (n:Int) l))))[j']?=some r'->r'[i']?=some (.l zs')->zs'≠[]->∃r0 zs0,(rs.set j r)[j']?=some r0/\r0[i']?=some (.l zs0)/\zs0≠[]:=by
  intro j' r' i' zs' hj' hi' hz';rcases cr h3 hil hj' hi' with ⟨rfl,rfl,e⟩|⟨_,r0,p1,p2⟩
  ·exact⟨r,zs,hget,hi,hz⟩
  ·exact⟨r0,zs',p1,p2,hz'⟩
 refine⟨⟨cur,H,⟨(hk.block _ (ae h1.blk) (fun e=>q3 e.symm)).trans h1.blk,h1.inS,fg h3 h1.len,fun j' r' hj' i' f' hi'=>?_,fun j' r' i' zs' j2 r2 i2 zs2 hj' hi' hz' hj2 hi2 hz2 hH=>?_⟩,fun j' r' i' zs' hj' hi' hz'=>?_⟩,h2.kept q2 hk,h3⟩
 ·rcases cr h3 hil hj' hi' with ⟨rfl,rfl,rfl⟩|⟨hne,r0,p1,p2⟩
  ·refine⟨_,hc0,_,_,_,rfl,aF _ _,k3,k4,fun t x hx=>?_,.inr ⟨rfl,q2,q3,cu',hg',fun t x hx=>?_⟩⟩
   ·obtain⟨rfl,ht⟩:=eL hx;exact aS cC
   ·obtain⟨rfl,ht⟩:=eL hx;have:=hm t ht;simpa using this
  ·obtain⟨v',p3,p4⟩:=h1.cell j' r0 p1 i' f' p2;refine⟨v',p3,?_⟩;cases f' with
   | l zs'=>
    obtain⟨a',l',c',e1,e2,e3,e4,e5,e6⟩:=p4;refine⟨a',l',c',e1,e2,e3,e4,e5,?_⟩
    by_cases hz':zs'=[]
    ·exact .inl hz'
    rcases e6 with e6|⟨z1,z2,z3,cz,z4,z5⟩
    ·exact .inl e6
    ·refine .inr ⟨z1,z2,z3,cz,(hk.block _ (ae z4) (fun e=>hne (h1.inj _ _ _ _ _ _ _ _ p1 p2 hz' hget hi hz e))).trans z4,z5⟩
   | _=>exact p4
 ·obtain⟨r0,z0,b1,b2,b5⟩:=back j' r' i' zs' hj' hi' hz';obtain⟨r3,z3,b3,b4,b6⟩:=back j2 r2 i2 zs2 hj2 hi2 hz2;exact h1.inj j' r0 i' z0 j2 r3 i2 z3 b1 b2 b5 b3 b4 b6 hH
 ·obtain⟨r0,z0,b1,b2,b5⟩:=back j' r' i' zs' hj' hi' hz';exact hN j' r0 i' z0 b1 b2 b5

theorem StJ.bZ {g m:Nat} {T:TypeId} {S N:Nat->Prop} {w wr:World} {rs:List (List Fv)} {j:Nat} {r:List Fv} (h:StJ g m T S N w wr rs j r) {i:Nat} {old:Fv} (hi:r[i]?=some old) (t:ByteArray) (hf:t.size<=9223372036854775807):StJ g m T S N w (wr.setCell ⟨g,j*m+i,none⟩ (.string t)) rs j (r.set i (.s t)):=h.set hi (.s t) rfl hf
theorem StJ.eF {g m:Nat} {T:TypeId} {S N:Nat->Prop} {w wr:World} {rs:List (List Fv)} {j:Nat} {r:List Fv} (h:StJ g m T S N w wr rs j r) {i:Nat} {old:Fv} (hi:r[i]?=some old) (t:Int):StJ g m T S N w (wr.setCell ⟨g,j*m+i,none⟩ (.int .i64 t)) rs j (r.set i (.i t)):=h.set hi (.i t) rfl trivial
theorem StJ.eG {g m:Nat} {T:TypeId} {S N:Nat->Prop} {w wr:World} {rs:List (List Fv)} {j:Nat} {r:List Fv} (h:StJ g m T S N w wr rs j r) {i:Nat} {old:Fv} (hi:r[i]?=some old) (t:Bool):StJ g m T S N w (wr.setCell ⟨g,j*m+i,none⟩ (.bool t)) rs j (r.set i (.b t)):=h.set hi (.b t) rfl trivial
theorem ax.st {w wr:World} {a:Option Addr} {len cap m:Nat} {T:TypeId} {rs:List (List Fv)} {S:Nat->Prop} (h:ax wr a len cap m T rs S) (hk:az S w wr) {i:Nat} {r:List Fv} (hi:rs[i]?=some r):∃g,a=some ⟨g,0,none⟩/\StJ g m T S (fun _=>False) w wr rs i r:=by
 obtain⟨h1,h2,h3,h4⟩:=h;rcases h4 with h4|⟨g,cur,H,h5,h6⟩
 ·subst h4;simp at hi
 ·refine⟨g,h5,⟨cur,H,?_,fun _ _ _ _ _ _ _ q=>q⟩,hk,(sv.1 hi).1⟩;rw[ij hi];exact h6
theorem bj {w:World} {g i j:Nat} {v:Value} (h:¬i=j):(w.setCell ⟨g,i,none⟩ v).cell? ⟨g,j,none⟩=w.cell? ⟨g,j,none⟩:=by
 cases hg:w.heap[g]? with
 | none=>
  have hs:(w.setCell ⟨g,i,none⟩ v).heap[g]?=none:=by
   have h1:=Array.getElem?_eq_none_iff.1 hg;exact Array.getElem?_eq_none_iff.2 (by simpa[sZ] using h1)
  simp[World.cell?,hg,hs]
 | some o=>
  cases o with
  | cells cs t fr=>
   have:=aD (i:=i) hg v;simp only[World.cell?,hg,this]
   simp[Array.getElem?_setIfInBounds_ne h]
  | _=>simp[World.cell?,sZ,Array.getElem?_modify,hg]

theorem bf (u:Int) (w:World) (h0:0<u) (h1:u<=1152921504606846976):Calls Tryz.prog 67 #[.int .i64 u] w fun e w'=>e=.returned (.string (aP u.toNat))/\Below w.heap.size w w':=by
 obtain⟨n,rfl⟩:∃n:Nat,u=n:=⟨u.toNat,by omega⟩;exact en n w af af

theorem oE (a:Option Addr) (len cap:Nat) (u:Int) (w:World) (hr:ar w a len cap (b8 u len)) (h0:0<u) (h1:u+len<=1152921504606846976):
  Calls Tryz.prog 89 #[.slice a len cap,.int .i64 u] w fun e w'=>e=.returned (.int .i64 (u+len))/\Below w.heap.size w w':=by
 obtain⟨n,rfl⟩:∃n:Nat,u=n:=⟨u.toNat,by omega⟩;refine (l9 a len cap n _ w hr af af (fun j x hx=>?_)).mono ?_
 ·have:=(eL hx).1;simpa using this
 ·rintro e w' ⟨rfl,hb⟩;exact⟨by simp,hb⟩

def mkF (k:Int):Fv->Fv
 | .s _=>.s (aP k.toNat)
 | .i _=>.i k
 | .b _=>.b (k % 3==0)
 | .l zs=>.l (b8 k zs.length)
def mkN1 (k:Int):Fv->Int
 | .l zs=>k+zs.length
 | _=>k+1
def mkR:Int->List Fv->List Fv
 | _,[]=> []
 | k,f ::r=>mkF k f ::mkR (mkN1 k f) r
def mkN:Int->List Fv->Int
 | k,[]=>k
 | k,f ::r=>mkN (mkN1 k f) r
def mkRs:Int->List (List Fv)->List (List Fv)
 | _,[]=> []
 | k,r ::rs=>mkR k r ::mkRs (mkN k r) rs
def aw:Int->List (List Fv)->Int
 | k,[]=>k
 | k,r ::rs=>aw (mkN k r) rs
theorem aW:∀(rs:List (List Fv)) (k:Int),(mkRs k rs).length=rs.length
 | [],_=>rfl
 | r ::rs,k=>by simp[mkRs,aW rs]
theorem cW:∀(rs:List (List Fv)) (k:Int) (i:Nat),(mkRs k rs)[i]?=(rs[i]?).map (mkR (aw k (rs.take i)))
 | [],_,_=>by simp[mkRs]
 | r ::rs,k,0=>by simp[mkRs,aw]
 | r ::rs,k,i+1=>by simp[mkRs,aw,cW rs]
theorem df:∀(rs ts:List (List Fv)) (k:Int),aw k (rs++ts)=aw (aw k rs) ts
 | [],_,_=>rfl
 | r ::rs,ts,k=>by simp[aw,df rs]
theorem bh {rs:List (List Fv)} {i:Nat} {r:List Fv} (h:rs[i]?=some r) (k:Int):aw k (rs.take (i+1))=mkN (aw k (rs.take i)) r:=by
 rw[tc,h,df];rfl
theorem o9 (f:Fv) (k:Int):k<=mkN1 k f:=by
 cases f <;> simp[mkN1] <;> omega
theorem oc:∀(r:List Fv) (k:Int),k<=mkN k r
 | [],_=>Int.le_refl _
 | f ::r,k=>sV (o9 f k) (oc r _)
theorem av:∀(rs:List (List Fv)) (k:Int),k<=aw k rs
 | [],_=>Int.le_refl _
 | r ::rs,k=>sV (oc r k) (av rs _)
theorem fI {rs:List (List Fv)} {i:Nat} {r:List Fv} (h:rs[i]?=some r) (k:Int):mkN (aw k (rs.take i)) r<=aw k rs:=by
 rw[<-bh h];have h2:=df (rs.take (i+1)) (rs.drop (i+1)) k;rw[List.take_append_drop] at h2;rw[h2];exact av _ _
theorem bn {α:Type} {A B:List α} {i:Nat} {x:α} (hl:A.length=B.length) (hi:A[i]?=some x):(A.take i++B.drop i).set i x=A.take (i+1)++B.drop (i+1):=by
 have hlt:i<A.length:=(sv.1 hi).1;have h1:(A.take i).length=i:=by rw[sU];omega
 have hd:B.drop i=B[i]'(by omega) ::B.drop (i+1):=tH af;rw[tc,hi,hd];simp only[List.set_append,h1,Nat.lt_irrefl,if_false,Nat.sub_self,tF,Option.toList_some,tD,List.singleton_append]
theorem bu {α:Type} {A B:List α} {i:Nat} (hl:A.length=B.length) (hi:i<=A.length):(A.take i++B.drop i)[i]?=B[i]?:=by
 have h1:(A.take i).length=i:=by rw[sU];omega
 rw[List.getElem?_append_right af,h1,Nat.sub_self,List.getElem?_drop,tK]
theorem dA {α:Type} {A B:List α} {i:Nat} (hl:A.length=B.length) (hi:i<=A.length):(A.take i++B.drop i).length=B.length:=by
 rw[sY,sU,tv];omega
theorem ax.jg {g len cap m:Nat} {T:TypeId} {S N:Nat->Prop} {w wr:World} {rs:List (List Fv)} {k:Int} {i:Nat} {r r':List Fv} (h:StJ g m T S N w wr ((mkRs k rs).take i++rs.drop i) i r') (hl:rs.length=len) (hm:(mkRs k rs).length=rs.length) (hc:len<=cap) (hc2:cap<=9223372036854775807) (hi:rs[i]?=some r) (e:r'=mkR (aw k (rs.take i)) r):ax wr (some ⟨g,0,none⟩) len cap m T ((mkRs k rs).take (i+1)++rs.drop (i+1)) S:=by
 subst e;have hlt:i<rs.length:=(sv.1 hi).1;have h1:(mkRs k rs)[i]?=some (mkR (aw k (rs.take i)) r):=by rw[cW,hi];rfl
 obtain⟨⟨cur,H,h2,-⟩,-,-⟩:=h;rw[bn hm h1] at h2;exact⟨by rw[dA hm af];exact hl,hc,hc2,.inr ⟨g,cur,H,rfl,h2⟩⟩

end Rc
end Go.Proofs.YtdfgbboadbnodaaGreatDoor

namespace Go.Proofs.YtdfgbboadbnodaaGreatDoor
open Go.RowKit

abbrev Fact:=Value->World->Prop
def Fact.bP (φ:Fact):Prop:=∀v w w',φ v w->Below w.heap.size w w'->φ v w'
theorem Fact.ei (c:Value):Fact.bP (fun v _=>v=c):=fun _ _ _ h _=>h

def slotFact (a0:Act) (known:List (Tmp×Fact)) (a:Act) (w:World) (t:Tmp):Prop:=
 match known.lookup t with
 | some φ=>φ (a.tmps.getD t undef) w
 | none=>a.tmps.getD t undef=a0.tmps.getD t undef

def Obl (P:Program) (ops:Array Oper) (Q:Exit->Act->World->Prop) (W:World) (a0:Act) (known:List (Tmp×Fact)) (o:Oper) (φ:Fact):Prop:=
 ∀(a:Act) (w:World) (K:Act->World->Prop),a.tmps.size=a0.tmps.size->Below W.heap.size W w->(∀t∈o.looksAt ops,slotFact a0 known a w t)->
  (∀v w',Below w.heap.size w w'->φ v w'->K (a.put o.dst v) w')->if tA o (yielded ops a.tmps)=true then o.wp P a w K Q else K (a.put o.dst undef) w

def looksOf (o:Oper):List Tmp:=o.op.operands.toList.filterMap fun | .tmp t=>some t|_=>none
theorem Obl.plain {P:Program} {ops:Array Oper} {Q:Exit->Act->World->Prop} {W:World} {a0:Act} {known:List (Tmp×Fact)} {o:Oper} {φ:Fact} (hg:o.guard=none)
  (h:∀(a:Act) (w:World) (K:Act->World->Prop),a.tmps.size=a0.tmps.size->Below W.heap.size W w->(∀t∈looksOf o,slotFact a0 known a w t)->(∀v w',Below w.heap.size w w'->φ v w'->K (a.put o.dst v) w')->o.wp P a w K Q):Obl P ops Q W a0 known o φ:=by
 intro a w K h1 h2 h3 h4;have hw:tA o (yielded ops a.tmps)=true:=by simp[tA,hg]
 rw[if_pos hw];exact h a w K h1 h2 (fun t ht=>h3 t (by unfold Oper.looksAt;exact List.mem_append_left _ ht)) h4

def ep (P:Program) (ops:Array Oper) (Q:Exit->Act->World->Prop) (back:Option Oper) (a:Act) (w:World):Prop:=
 match back with
 | none=>Q .normal a w
 | some o=> ∀K:Act->World->Prop,(∀a w,Q .normal a w->K a w)->if tA o (yielded ops a.tmps)=true then o.wp P a w K Q else K (a.put o.dst undef) w

def aR (a0:Act) (known:List (Tmp×Fact)) (x:Tmp->Value):Act:=known.foldr (fun p b=>b.put (some p.1) (x p.1)) a0
def Fin (P:Program) (ops:Array Oper) (Q:Exit->Act->World->Prop) (W:World) (a0:Act) (back:Option Oper) (known:List (Tmp×Fact)):Prop:=
 ∀(x:Tmp->Value) (w:World),Below W.heap.size W w->(∀p∈known,p.2 (x p.1) w)->ep P ops Q back (aR a0 known x) w

def kn (d:Option Tmp) (φ:Fact) (known:List (Tmp×Fact)):List (Tmp×Fact):=match d with|some t=>(t,φ) ::known|none=>known

def Grow (P:Program) (ops:Array Oper) (Q:Exit->Act->World->Prop) (W:World) (a0:Act) (back:Option Oper):List Oper->List (Tmp×Fact)->Prop
 | [],known=>Fin P ops Q W a0 back known
 | o ::rest,known=> ∃φ:Fact,φ.bP/\Obl P ops Q W a0 known o φ/\Grow P ops Q W a0 back rest (kn o.dst φ known)
theorem Grow.step {P:Program} {ops:Array Oper} {Q:Exit->Act->World->Prop} {W:World} {a0:Act} {back:Option Oper} {o:Oper} {rest:List Oper} {known:List (Tmp×Fact)} {t:Tmp} (φ:Fact) (hd:o.dst=some t) (hφ:φ.bP) (ho:Obl P ops Q W a0 known o φ)
  (h:Grow P ops Q W a0 back rest ((t,φ) ::known)):Grow P ops Q W a0 back (o ::rest) known:=⟨φ,hφ,ho,by rw[hd];exact h⟩
theorem Grow.aV {P:Program} {ops:Array Oper} {Q:Exit->Act->World->Prop} {W:World} {a0:Act} {back:Option Oper} {o:Oper} {rest:List Oper} {known:List (Tmp×Fact)} {t:Tmp} (c:Value) (hd:o.dst=some t) (ho:Obl P ops Q W a0 known o (fun v _=>v=c))
  (h:Grow P ops Q W a0 back rest ((t,fun v _=>v=c) ::known)):Grow P ops Q W a0 back (o ::rest) known:=Grow.step _ hd (Fact.ei c) ho h
theorem Grow.done {P:Program} {ops:Array Oper} {Q:Exit->Act->World->Prop} {W:World} {a0:Act} {back:Option Oper} {known:List (Tmp×Fact)} (h:Fin P ops Q W a0 back known):Grow P ops Q W a0 back [] known:=h

def growB (n:Nat) (front:List Oper) (back:Option Oper):Bool:=
 let ops:=(front++back.toList).toArray
 decide ((front.filterMap (·.dst)).Nodup) && front.all (fun o=>match o.dst with|some t=>decide (t<n)|none=>true) &&
 (tC front.length).all (fun j=>match front[j]? with
  | some o=>(o.looksAt ops).all (fun t=>(tC front.length).all fun i=>match front[i]? with
    | some p=>p.dst !=some t || (decide (i<j) && o.after.any fun e=>e.on==i && tu .any e)
    | none=>true)
  | none=>true) &&
 (tC ops.size).all (fun j=>match ops[j]? with|some o=>o.after.all (fun e=>decide (e.on<j))|none=>true) &&
 (match back with|some o=>(tC front.length).all (fun i=>o.after.any fun e=>e.on==i && tu .any e)|none=>true)

section
variable {P:Program} {ops:Array Oper} {Q:Exit->Act->World->Prop} {W:World} {a0:Act} {back:Option Oper}

def knAll:List (Tmp×Fact)->List Oper->List Fact->List (Tmp×Fact)
 | known,o ::l,φ ::φs=>knAll (kn o.dst φ known) l φs
 | known,_,_=>known
theorem bo (known:List (Tmp×Fact)) (φs:List Fact):knAll known [] φs=known:=by cases φs <;> rfl

theorem Grow.spec:∀(l:List Oper) (known:List (Tmp×Fact)),Grow P ops Q W a0 back l known->∃φs:List Fact,φs.length=l.length/\
  (∀(i:Nat) (o:Oper) (φ:Fact),l[i]?=some o->φs[i]?=some φ->φ.bP/\Obl P ops Q W a0 (knAll known (l.take i) (φs.take i)) o φ)/\Fin P ops Q W a0 back (knAll known l φs)
 | [],known,h=>⟨[],rfl,fun i o φ h=>by simp at h,by rw[bo];exact h⟩
 | o ::l,known,h=>by
  exact nt

theorem eM (d:Option Tmp) (φ:Fact) (known:List (Tmp×Fact)) (t:Tmp):(kn d φ known).lookup t=if d=some t then some φ else known.lookup t:=by
 exact qj

theorem bG:∀(l:List Oper) (φs:List Fact) (known:List (Tmp×Fact)) {t:Tmp} {φ:Fact},(knAll known l φs).lookup t=some φ->
  (∃(i:Nat) (o:Oper),l[i]?=some o/\o.dst=some t/\φs[i]?=some φ)\/known.lookup t=some φ
 | [],φs,known,t,φ,h=>by rw[bo] at h;exact .inr h
 | o ::l,[],known,t,φ,h=>.inr h
 | o ::l,ψ ::φs,known,t,φ,h=>by
  exact qv
theorem bH:∀(l:List Oper) (φs:List Fact) (known:List (Tmp×Fact)) {t:Tmp},(knAll known l φs).lookup t=none->
  known.lookup t=none/\∀(i:Nat) (o:Oper) (φ:Fact),l[i]?=some o->φs[i]?=some φ->o.dst≠some t
 | [],φs,known,t,h=>by rw[bo] at h;exact⟨h,fun i o φ h=>by simp at h⟩
 | o ::l,[],known,t,h=>⟨h,fun i o φ _ h=>by simp at h⟩
 | o ::l,ψ ::φs,known,t,h=>by
  exact qE
theorem bT:∀(l:List Oper) (φs:List Fact) (known:List (Tmp×Fact)) {p:Tmp×Fact},p∈knAll known l φs->
  (∃(i:Nat) (o:Oper),l[i]?=some o/\o.dst=some p.1/\φs[i]?=some p.2)\/p∈known
 | [],φs,known,p,h=>by rw[bo] at h;exact .inr h
 | o ::l,[],known,p,h=>.inr h
 | o ::l,ψ ::φs,known,p,h=>by
  exact qC

theorem eu (a:Act) (d t:Tmp) (v:Value):(a.put (some d) v).tmps.getD t undef=if d=t/\t<a.tmps.size then v else a.tmps.getD t undef:=by
 simp only[Act.put,sD,sS];by_cases h:d=t
 ·subst h;by_cases h2:d<a.tmps.size
  ·simp[h2]
  ·simp[h2]
 ·simp[h]
theorem size_put (a:Act) (d:Option Tmp) (v:Value):(a.put d v).tmps.size=a.tmps.size:=by cases d <;> simp[Act.put]
theorem c8 (a:Act) (d:Option Tmp) (v:Value):(a.put d v).defers=a.defers:=by cases d <;> simp[Act.put]
theorem bL (a0:Act) (x:Tmp->Value):∀known,(aR a0 known x).tmps.size=a0.tmps.size
 | []=>rfl
 | p ::l=>by unfold aR;rw[List.foldr_cons,size_put];exact bL a0 x l
theorem bM (a0:Act) (x:Tmp->Value):∀known,(aR a0 known x).defers=a0.defers
 | []=>rfl
 | p ::l=>by unfold aR;rw[List.foldr_cons,c8];exact bM a0 x l
theorem ef (a0 a:Act) (known:List (Tmp×Fact)) (hk:∀p∈known,p.1<a0.tmps.size) (t:Tmp) (h:(∀p∈known,p.1≠t)->a.tmps.getD t undef=a0.tmps.getD t undef):
  (aR a0 known (fun t=>a.tmps.getD t undef)).tmps.getD t undef=a.tmps.getD t undef:=by
 exact qH
theorem pf {a b:Act} (hs:a.tmps.size=b.tmps.size) (hd:a.defers=b.defers) (h:∀t,a.tmps.getD t undef=b.tmps.getD t undef):a=b:=by
 cases a with|mk at_ ad=>cases b with|mk bt bd=>
 simp only at hs hd h;subst hd;congr 1;apply Array.ext hs;intro i h1 h2;have:=h i;simpa[Array.getD,h1,h2] using this

theorem bC {l:Array Bool} {i:Nat} (h:i<l.size):l.getD i false=l.getD i true:=by simp[Array.getD,h]

structure At (front:List Oper) (φs:List Fact) (W:World) (a0:Act) (listed:Array Bool) (a:Act) (w:World):Prop where
 size:a.tmps.size=a0.tmps.size
 defers:a.defers=a0.defers
 below:Below W.heap.size W w
 known:∀(i:Nat) (o:Oper) (φ:Fact),front[i]?=some o->φs[i]?=some φ->∀t,o.dst=some t->listed.getD i false=true->φ (a.tmps.getD t undef) w
 other:∀t,(∀(i:Nat) (o:Oper),front[i]?=some o->o.dst=some t->listed.getD i false=false)->a.tmps.getD t undef=a0.tmps.getD t undef

theorem cP:∀(l:List Oper),(l.filterMap (·.dst)).Nodup->∀{i j:Nat} {o p:Oper} {t:Tmp},l[i]?=some o->l[j]?=some p->o.dst=some t->p.dst=some t->i=j
 | [],_,i,j,o,p,t,h,_,_,_=>by simp at h
 | q ::l,hn,i,j,o,p,t,h1,h2,h3,h4=>by
  have hmem:∀{k:Nat} {r:Oper},l[k]?=some r->r.dst=some t->t∈l.filterMap (·.dst):=fun h h'=>List.mem_filterMap.2 ⟨_,List.mem_of_getElem? h,h'⟩;have hn':(l.filterMap (·.dst)).Nodup:=by
   rw[List.filterMap_cons] at hn;split at hn
   ·exact hn
   ·exact (List.nodup_cons.1 hn).2
  cases i with
  | zero=>
   simp only[List.getElem?_cons_zero,tn] at h1;subst h1
   cases j with
   | zero=>rfl
   | succ j=>
    simp only[List.getElem?_cons_succ] at h2;rw[List.filterMap_cons,h3] at hn;exact absurd (hmem h2 h4) (List.nodup_cons.1 hn).1
  | succ i=>
   simp only[List.getElem?_cons_succ] at h1
   cases j with
   | zero=>
    simp only[List.getElem?_cons_zero,tn] at h2;subst h2;rw[List.filterMap_cons,h4] at hn;exact absurd (hmem h1 h3) (List.nodup_cons.1 hn).1
   | succ j=>
    simp only[List.getElem?_cons_succ] at h2;rw[cP l hn' h1 h2 h3 h4]

theorem At.step {front:List Oper} {φs:List Fact} {listed:Array Bool} {a:Act} {w w':World} {j:Nat} {o:Oper} {φ:Fact} {v:Value} (h:At front φs W a0 listed a w)
  (hn:(front.filterMap (·.dst)).Nodup) (hin:∀o∈front,∀t,o.dst=some t->t<a0.tmps.size) (hmono:∀(i:Nat) (o:Oper) (φ:Fact),front[i]?=some o->φs[i]?=some φ->φ.bP)
  (ho:front[j]?=some o) (hφ:φs[j]?=some φ) (hj:j<listed.size) (hb:Below w.heap.size w w') (hv:φ v w'):At front φs W a0 (listed.setIfInBounds j true) (a.put o.dst v) w':=by
 refine⟨(size_put _ _ _).trans h.size,(c8 _ _ _).trans h.defers,h.below.trans (hb.mono h.below.size),?_,?_⟩
 ·intro i p ψ hp hψ t ht hl;by_cases e:j=i
  ·subst e;obtain rfl:o=p:=sx (ho.symm.trans hp);obtain rfl:φ=ψ:=sx (hφ.symm.trans hψ);exact nR
  ·have hl':listed.getD i false=true:=by
    simpa[sD,sS,e] using hl
   have h1:=hmono i p ψ hp hψ _ _ _ (h.known i p ψ hp hψ t ht hl') hb;cases hd:o.dst with
   | none=>exact h1
   | some d=>
    rw[eu,if_neg (fun hx=>e (cP front hn ho hp (hd.trans (by rw[hx.1])) ht))];exact h1
 ·exact qG

theorem cZ {n:Nat} {front:List Oper} {back:Option Oper} (h:growB n front back=true):
  (front.filterMap (·.dst)).Nodup/\(∀o∈front,∀t,o.dst=some t->t<n)/\
  (∀(j:Nat) (o:Oper),front[j]?=some o->∀t∈o.looksAt (front++back.toList).toArray,∀(i:Nat) (p:Oper),front[i]?=some p->p.dst=some t->i<j/\∃e∈o.after,e.on=i/\tu .any e=true)/\
  (∀(j:Nat) o,(front++back.toList).toArray[j]?=some o->∀e∈o.after,e.on<j)/\
  (∀o,back=some o->∀i,i<front.length->∃e∈o.after,e.on=i/\tu .any e=true):=by
 unfold growB at h;simp only[tl,decide_eq_true_eq] at h;obtain⟨⟨⟨⟨h1,h2⟩,h3⟩,h4⟩,h5⟩:=h;refine⟨h1,?_,?_,?_,?_⟩
 ·intro o ho t ht;have:=tg.1 h2 o ho;rw[ht] at this;simpa using this
 ·intro j o ho t ht i p hp hd;have hj:j<front.length:=(sv.1 ho).1;have hi:i<front.length:=(sv.1 hp).1;have:=tg.1 h3 j (tP.2 hj);rw[ho] at this;have:=tg.1 this t ht;have:=tg.1 this i (tP.2 hi);rw[hp] at this;simp only[hd,bne_self_eq_false,Bool.false_or,tl,decide_eq_true_eq] at this;exact qb
 ·intro j o ho e he;have hj:j<(front++back.toList).toArray.size:=(sO.1 ho).1;have:=tg.1 h4 j (tP.2 hj);rw[ho] at this;have:=Array.all_eq_true.1 this;obtain⟨k,hk,rfl⟩:=Array.mem_iff_getElem.1 he;simpa using this k hk
 ·intro o ho i hi;subst ho;have:=tg.1 h5 i (tP.2 hi);obtain⟨k,hk,hx⟩:=Array.any_eq_true.1 this;simp only[tl,beq_iff_eq] at hx;exact⟨_,Array.getElem_mem hk,hx.1,hx.2⟩

theorem dQ {listed:Array Bool} (hs:listed.size=ops.size) (hlt:∀(j:Nat) o,ops[j]?=some o->∀e∈o.after,e.on<j) (hr:tk .any ops listed=[]):∀i,i<ops.size->listed.getD i false=true:=by
 intro i;induction i using Nat.strongRecOn with
 | _ i ih=>
  intro hi
  cases hb:listed.getD i false with
  | true=>rfl
  | false=>
   have ho:ops[i]?=some ops[i]:=Array.getElem?_eq_getElem hi;have hm:i∈tk .any ops listed:=mem_ready.2 ⟨by rw[<-bC af];exact hb,_,ho,fun e he _=>ih e.on (hlt i _ ho e he) (Nat.lt_trans (hlt i _ ho e he) hi)⟩;rw[hr] at hm
   cases hm

theorem eg {listed:Array Bool} (h:listed.toList.count false=0) (i:Nat) (hi:i<listed.size):listed.getD i false=true:=by
 have hm:listed[i]∈listed.toList:=aT
 cases hb:listed[i] with
 | true=>simp[Array.getD,hi,hb]
 | false=>
  rw[hb] at hm;exact absurd (List.count_pos_iff.2 hm) af
theorem count_set {listed:Array Bool} {i:Nat} (hi:i<listed.size) (hf:listed.getD i true=false):(listed.setIfInBounds i true).toList.count false+1=listed.toList.count false:=by
 have hb:listed[i]=false:=by simpa[Array.getD,hi] using hf
 have hm:false∈listed.toList:=by rw[<-hb];simp
 have hp:=List.count_pos_iff.2 hm;rw[Array.toList_setIfInBounds,List.count_set (by simpa using hi)];rw[Array.getElem_toList,hb];simp only[beq_self_eq_true,if_true,show (true==false)=false from rfl,Bool.false_eq_true,if_false];omega

theorem Fin.last {front:List Oper} {φs:List Fact} {listed:Array Bool} {a:Act} {w:World} (hf:Fin P ops Q W a0 back (knAll [] front φs)) (hlen:φs.length=front.length) (hin:∀o∈front,∀t,o.dst=some t->t<a0.tmps.size)
  (h:At front φs W a0 listed a w) (hall:∀i,i<front.length->listed.getD i false=true):ep P ops Q back a w:=by
 have h1:=hf (fun t=>a.tmps.getD t undef) w h.below (fun p hp=>by
  rcases bT front φs [] hp with ⟨i,o,h1,h2,h3⟩|h1
  ·exact h.known i o p.2 h1 h3 p.1 h2 (hall i (sv.1 h1).1)
  ·simp at h1)
 exact qN

theorem cn {front:List Oper} {φs:List Fact} (hops:ops=(front++back.toList).toArray) (hB:growB a0.tmps.size front back=true) (hlen:φs.length=front.length)
  (hs:∀(i:Nat) (o:Oper) (φ:Fact),front[i]?=some o->φs[i]?=some φ->φ.bP/\Obl P ops Q W a0 (knAll [] (front.take i) (φs.take i)) o φ) (hf:Fin P ops Q W a0 back (knAll [] front φs)):
  ∀(fuel:Nat) (listed:Array Bool) (a:Act) (w:World),listed.size=ops.size->listed.toList.count false<=fuel->(∀o,back=some o->listed.getD front.length false=false)->At front φs W a0 listed a w->wpAny P .any ops Q fuel listed a w:=by
 obtain⟨hn,hin,hdep,hlt,hback⟩:=cZ hB;rw[<-hops] at hdep hlt;have hsz:ops.size=front.length+back.toList.length:=by rw[hops];simp
 have hend:∀(listed:Array Bool) (a:Act) (w:World),listed.size=ops.size->(∀i,i<ops.size->listed.getD i false=true)->(∀o,back=some o->listed.getD front.length false=false)->At front φs W a0 listed a w->Q .normal a w:=by
  intro listed a w hz hall hb h;exact qe
 intro fuel;induction fuel with
 | zero=>
  intro listed a w hz hc hb h;have hall:∀i,i<ops.size->listed.getD i false=true:=fun i hi=>eg af i af;refine⟨?_,hend listed a w hz hall hb h⟩
  cases hr:tk .any ops listed with
  | nil=>rfl
  | cons j js=>
   have hm:j∈tk .any ops listed:=by rw[hr];simp
   obtain⟨h1,o,ho,-⟩:=mem_ready.1 hm;have hj:=(sO.1 ho).1;rw[<-bC af,hall j hj] at h1
   cases h1
 | succ fuel ih=>
  intro listed a w hz hc hb h;refine⟨fun hr=>hend listed a w hz (dQ hz hlt hr) hb h,fun j hj=>?_⟩;obtain⟨hun,o,ho,hall⟩:=mem_ready.1 hj;have hjs:j<ops.size:=(sO.1 ho).1;have hcs:=count_set (listed:=listed) (i:=j) af hun
  by_cases hjf:j<front.length
  ·have hof:front[j]?=some o:=by rw[hops] at ho;simpa[List.getElem?_append_left hjf] using ho
   have hφ:φs[j]?=some (φs[j]'(by omega)):=sA _;obtain⟨hm,hob⟩:=hs j o _ hof hφ
   have hfacts:∀t∈o.looksAt ops,slotFact a0 (knAll [] (front.take j) (φs.take j)) a w t:=by
    intro t ht;unfold slotFact
    cases hk:(knAll [] (front.take j) (φs.take j)).lookup t with
    | some φ=>
     rcases bG _ _ _ hk with ⟨i,p,h1,h2,h3⟩|h1
     ·have hij:i<j:=by have:=(sv.1 h1).1;simp at this;omega
      rw[sW,if_pos hij] at h1 h3;obtain⟨-,e,he,hon,hbi⟩:=hdep j o hof t ht i p h1 h2;have hl:=hall e he hbi;rw[hon] at hl;exact h.known i p φ h1 h3 t h2 hl
     ·simp at h1
    | none=>
     refine h.other t (fun i p hp hd=>?_)
     exfalso
     obtain⟨hij,-⟩:=hdep j o hof t ht i p hp hd;have hi:=(sv.1 hp).1;exact (bH _ _ _ hk).2 i p (φs[i]'(by omega)) mH mK hd
   have h1:=hob a w (wpAny P .any ops Q fuel (listed.setIfInBounds j true)) h.size h.below hfacts (fun v w' hbw hv=>by
    refine ih _ _ _ (by simpa using hz) af (fun o' ho'=>?_) (h.step hn hin (fun i o φ h1 h2=>(hs i o φ h1 h2).1) hof hφ af hbw hv);have h2:=hb o' ho'
    have e:¬j=front.length:=af
    simpa[sD,sS,e] using h2)
   unfold wpOp;rw[ho]
   simp only
   split
   ·rename_i hw;rw[if_pos hw] at h1;exact .inl h1
   ·rename_i hw;rw[if_neg hw] at h1;exact h1
  ·cases hk:back with
   | none=>rw[hk] at hsz;simp at hsz;omega
   | some b=>
    have hjn:j=front.length:=by rw[hk] at hsz;simp at hsz;omega
    subst hjn
    have hob:o=b:=by
     rw[hops,hk] at ho
     simp at ho
     exact ho.symm
    subst hob
    have hfl:∀i,i<front.length->listed.getD i false=true:=fun i hi=>by
     obtain⟨e,he,hon,hbi⟩:=hback o hk i hi;have:=hall e he hbi
     rwa [hon] at this
    have h1:=hf.last hlen hin h hfl;rw[hk] at h1
    have h2:=h1 (wpAny P .any ops Q fuel (listed.setIfInBounds front.length true)) (fun a' w' hq=>by
     have hr:tk .any ops (listed.setIfInBounds front.length true)=[]:=by
      cases hr:tk .any ops (listed.setIfInBounds front.length true) with
      | nil=>rfl
      | cons i is=>
       have hm:i∈tk .any ops (listed.setIfInBounds front.length true):=by rw[hr];simp
       obtain⟨h3,o',ho',-⟩:=mem_ready.1 hm;have hi:=(sO.1 ho').1
       exfalso
       by_cases e:front.length=i
       ·subst e
        simp[sD,show front.length<listed.size from by omega] at h3
       ·have h4:=hfl i (by rw[hk] at hsz;simp at hsz;omega);rw[bC af] at h4
        simp[sD,e] at h3 h4
        rw[h3] at h4
        cases h4
     cases fuel with
     | zero=>exact⟨hr,hq⟩
     | succ fuel=>exact⟨fun _=>hq,fun i hi=>by rw[hr] at hi;cases hi⟩)
    unfold wpOp;rw[ho]
    simp only
    split
    ·rename_i hw;rw[if_pos hw] at h2;exact .inl h2
    ·rename_i hw;rw[if_neg hw] at h2;exact h2
end

theorem bc (n i:Nat):(Array.replicate n false).getD i false=false:=by
 rw[sD,Array.getElem?_replicate];split <;> rfl
theorem bK {P:Program} {id:Nat} {Q:Exit->Act->World->Prop} {a0:Act} {W:World} {l:List Oper} {front:List Oper} {back:Option Oper} (hm:P.follows .mixedOrders=true) (hl:l=front++back.toList) (hB:growB a0.tmps.size front back=true)
  (h:Grow P l.toArray Q W a0 back front []):(Code.region id l.toArray true).wp P Q a0 W:=by
 obtain⟨φs,hlen,hs,hf⟩:=Grow.spec _ _ h;refine wp_region_any hm (cn (by rw[hl]) hB hlen hs hf _ _ _ _ aT ?_ (fun o ho=>?_) ⟨rfl,rfl,(sB _ _).drew,fun i o φ h1 h2 t ht hx=>?_,fun t _=>rfl⟩)
 ·exact m_
 ·exact bc _ _
 ·rw[bc] at hx;cases hx
theorem bw {P:Program} {id:Nat} {Q:Exit->Act->World->Prop} {a0:Act} {W:World} {l:List Oper} {front:List Oper} {last:Oper} (hm:P.follows .mixedOrders=true) (hf:l.dropLast=front) (hb:l.getLast?=some last) (hB:growB a0.tmps.size front (some last)=true)
  (h:Grow P l.toArray Q W a0 (some last) front []):(Code.region id l.toArray true).wp P Q a0 W:=by
 refine bK hm ?_ hB h;obtain⟨l',rfl⟩:=List.getLast?_eq_some_iff.1 hb;rw[<-hf];simp

structure Vd where
 n:ByteArray
 c:Int
 z:ByteArray
 k:ByteArray
 x:Bool
 m:ByteArray
 y:Bool
 zs:List ByteArray
end Go.Proofs.YtdfgbboadbnodaaGreatDoor

namespace Go.Proofs.YtdfgbboadbnodaaGreatDoor
open Go.RowKit
namespace Rc
open Mk

structure Nd where
 n:ByteArray
 z:ByteArray
 c:Int
 s:Int
 u:Int
 d:Bool
 zs:List ByteArray

def ndF (x:Nd):List Fv:=[.s x.n,.s x.z,.i x.c,.i x.s,.i x.u,.b x.d,.l x.zs]
theorem aK {w:World} {b o:Nat} {x:Nd} (h:RAt w b o (ndF x)):∃a len cap,ar w a len cap x.zs/\x.n.size<=9223372036854775807/\x.z.size<=9223372036854775807/\w.cell? ⟨b,o,none⟩=some (.string x.n)/\w.cell? ⟨b,o+1,none⟩=some (.string x.z)/\w.cell? ⟨b,o+2,none⟩=some (.int .i64 x.c)/\w.cell? ⟨b,o+3,none⟩=some (.int .i64 x.s)/\w.cell? ⟨b,o+4,none⟩=some (.int .i64 x.u)/\w.cell? ⟨b,o+5,none⟩=some (.bool x.d)/\w.cell? ⟨b,o+6,none⟩=some (.slice a len cap):=by
 obtain⟨v0,h0,rfl,z0⟩:=h 0 _ rfl;obtain⟨v1,h1,rfl,z1⟩:=h 1 _ rfl;obtain⟨v2,h2,rfl⟩:=h 2 _ rfl;obtain⟨v3,h3,rfl⟩:=h 3 _ rfl;obtain⟨v4,h4,rfl⟩:=h 4 _ rfl;obtain⟨v5,h5,rfl⟩:=h 5 _ rfl;obtain⟨v6,h6,a,len,cap,rfl,hr⟩:=h 6 _ rfl;exact⟨a,len,cap,hr,z0,z1,h0,h1,h2,h3,h4,h5,h6⟩
theorem bq {w:World} {a:Option Addr} {len cap:Nat} {xs:List Nd} (h:aA w a len cap 7 (xs.map ndF)) {j:Nat} (hj:j<len):
  ∃b o x,a=some ⟨b,o,none⟩/\b<w.heap.size/\xs[j]?=some x/\RAt w b (o+j*7) (ndF x):=by
 exact iX

theorem mz (a:Option Addr) (len cap:Nat) (xs:List Nd) (left:Int) (w:World) (hr:aA w a len cap 7 (xs.map ndF)) (h0:0<=left) (h1:left<=1048576):
  Calls Tryz.prog 16 #[.slice a len cap,.int .i64 left] w (SzB left (len<=1048576/\∀(j:Nat) x,xs[j]?=some x->x.zs.length<=1048576) w):=by
 obtain⟨HR,hvl⟩:=dD;have hlc:=sC hr.2.1 hr.2.2.1;clear hr;by_cases hl:left<(len:Int)
 ·go_enter Tryz.func16,Tryz.ntmps16;exact iL
 go_enter Tryz.func16,Tryz.ntmps16;go_wp2;go_loopw [1,5] (fun l i wr=> ∃(k:Nat) (m:Int),k<=len/\l=.int .i64 m/\i=.int .i64 k/\0<=m/\m<=left/\Hid (∀(j:Nat) x,j<k->xs[j]?=some x->x.zs.length<=1048576)/\Hid (Below w.heap.size w wr)) (fun _ i _=>len - (intOf i).toNat);case atStart=>exact⟨0,left - len,by omega,by go_num,rfl,by omega,by omega,fun j v hj=>by omega,sB _ _⟩
 case round=>
  obtain⟨k,m,hk,rfl,rfl,hm0,hm1,HE,HB⟩:=hrel;by_cases hlt:k<len
  ·obtain⟨b,o,v,rfl,hb,hv,hat⟩:=bq (HR.below HB.out) hlt;obtain⟨va,vl,vc,hvr,z0,z1,c0,c1,c2,c3,c4,c5,c6⟩:=aK hat;have Hz0:=aa z0;have Hz1:=aa z1;have HV:=aa hv;have HT:=aa hvr;clear hvr;clear hat hv z0 z1;go_wp2_with fail;refine (jA v.n v.z v.c v.s v.u v.d va vl vc v.zs m _ Hz0.out Hz1.out HT.out hm0 af).mono ?_;rintro e w2 ⟨r,rfl,hr,hb2⟩;have HB2:=upB HB hb2;clear hb2 c0 c1 c2 c3 c4 c5 c6;exact nu
  ·exact np

theorem oJ (a a':Option Addr) (len len' cap cap':Nat) (xs:List Nd) (w:World) (hr:aA w a len cap 7 (xs.map ndF)) (hr':aA w a' len' cap' 7 (xs.map ndF)):
  Calls Tryz.prog 33 #[.slice a len cap,.slice a' len' cap'] w fun e w'=>e=.returned (.bool true)/\Below w.heap.size w w':=by
 obtain rfl:len=len':=hr.1.symm.trans hr'.1;obtain⟨HR,HR',hlc⟩:=iB;clear hr hr';go_enter Tryz.func33,Tryz.ntmps33;go_wp2;go_loopw [5] (fun i wr=> ∃k:Nat,k<=len/\i=.int .i64 k/\Hid (Below w.heap.size w wr)) (fun i _=>len - (intOf i).toNat);case atStart=>exact⟨0,by omega,rfl,sB _ _⟩
 case round=>
  obtain⟨k,hk,rfl,HB⟩:=hrel;by_cases hlt:k<len
  ·obtain⟨b,o,v,rfl,hb,hv,hat⟩:=bq (HR.below HB.out) hlt;obtain⟨b',o',v',rfl,hb',hv',hat'⟩:=bq (HR'.below HB.out) hlt;rw[hv] at hv';obtain rfl:=sx hv';clear hv hv';obtain⟨va,vl,vc,hvr,-,-,c0,c1,c2,c3,c4,c5,c6⟩:=aK hat;obtain⟨va',vl',vc',hvr',-,-,d0,d1,d2,d3,d4,d5,d6⟩:=aK hat';clear hat hat';have HT:=aa hvr;have HT':=aa hvr';clear hvr hvr';have HE:=aa (fun q:Wd wr=>kA v.n v.z v.c v.s v.u v.d va vl vc v.zs va' vl' vc' q.w (HT.below q.b) (HT'.below q.b));have hne:=Wd.ne wr;have e0:∀q:Wd wr,q.w.cell? ⟨b,o+k*7,none⟩=some (.string v.n):=fun q=>(q.cell hb).trans c0;have e1:∀q:Wd wr,q.w.cell? ⟨b,o+k*7+1,none⟩=some (.string v.z):=fun q=>(q.cell hb).trans c1;have e2:∀q:Wd wr,q.w.cell? ⟨b,o+k*7+2,none⟩=some (.int .i64 v.c):=fun q=>(q.cell hb).trans c2;have e3:∀q:Wd wr,q.w.cell? ⟨b,o+k*7+3,none⟩=some (.int .i64 v.s):=fun q=>(q.cell hb).trans c3;have e4:∀q:Wd wr,q.w.cell? ⟨b,o+k*7+4,none⟩=some (.int .i64 v.u):=fun q=>(q.cell hb).trans c4;have e5:∀q:Wd wr,q.w.cell? ⟨b,o+k*7+5,none⟩=some (.bool v.d):=fun q=>(q.cell hb).trans c5;have e6:∀q:Wd wr,q.w.cell? ⟨b,o+k*7+6,none⟩=some (.slice va vl vc):=fun q=>(q.cell hb).trans c6;have f0:∀q:Wd wr,q.w.cell? ⟨b',o'+k*7,none⟩=some (.string v.n):=fun q=>(q.cell hb').trans d0;have f1:∀q:Wd wr,q.w.cell? ⟨b',o'+k*7+1,none⟩=some (.string v.z):=fun q=>(q.cell hb').trans d1;have f2:∀q:Wd wr,q.w.cell? ⟨b',o'+k*7+2,none⟩=some (.int .i64 v.c):=fun q=>(q.cell hb').trans d2;have f3:∀q:Wd wr,q.w.cell? ⟨b',o'+k*7+3,none⟩=some (.int .i64 v.s):=fun q=>(q.cell hb').trans d3;have f4:∀q:Wd wr,q.w.cell? ⟨b',o'+k*7+4,none⟩=some (.int .i64 v.u):=fun q=>(q.cell hb').trans d4;have f5:∀q:Wd wr,q.w.cell? ⟨b',o'+k*7+5,none⟩=some (.bool v.d):=fun q=>(q.cell hb').trans d5;have f6:∀q:Wd wr,q.w.cell? ⟨b',o'+k*7+6,none⟩=some (.slice va' vl' vc'):=fun q=>(q.cell hb').trans d6;clear c0 c1 c2 c3 c4 c5 c6 d0 d1 d2 d3 d4 d5 d6;go_wp2_with fail;refine ah an an ?_;repeat (go_big_quiet_step (first|(go_at_call 62;exact Calls.wide (HE.out _))|fail))
   exact iY
  ·exact iN

theorem jY (a:Option Addr) (len cap:Nat) (xs:List Nd) (N:Int) (S:Nat->Prop) (w:World) (ho:ax w a len cap 7 56 (xs.map ndF) S) (hN:0<N) (hb:aw N (xs.map ndF)<=1152921504606846976) (hl:len<=9223372036854775807):
  Calls Tryz.prog 38 #[.slice a len cap,.int .i64 N] w fun e w'=>e=.returned (.int .i64 (aw N (xs.map ndF)))/\ax w' a len cap 7 56 (mkRs N (xs.map ndF)) S/\az S w w':=by
 have hxl:=ho.1;have hcp:=ho.2.1;have hcm:=ho.2.2.1;have hml:(mkRs N (xs.map ndF)).length=(xs.map ndF).length:=aW _ _;have HO:Hid (ax w a len cap 7 56 ((mkRs N (xs.map ndF)).take 0++(xs.map ndF).drop 0) S):=ix
 have HBd:=aa hb;clear ho hb;go_enter Tryz.func38,Tryz.ntmps38;go_wp2;go_loopw [1,5] (fun vk vi wr=> ∃(i:Nat) (n:Int),i<=len/\vk=.int .i64 n/\vi=.int .i64 i/\Hid (n=aw N ((xs.map ndF).take i))/\0<n/\Hid (ax wr a len cap 7 56 ((mkRs N (xs.map ndF)).take i++(xs.map ndF).drop i) S)/\Hid (az S w wr)) (fun _ vi _=>len - (intOf vi).toNat);case atStart=>exact⟨0,N,by omega,rfl,rfl,rfl,hN,HO,az.refl _ _⟩
 case round=>
  obtain⟨i,n,hi,rfl,rfl,HN,hn0,HS,HK⟩:=hrel;clear HO;by_cases hlt:i<len
  ·obtain⟨x,hx⟩:∃x,xs[i]?=some x:=⟨_,sA (by simpa using (show i<(xs.map ndF).length by omega))⟩;obtain⟨hfx,HF,hbd,hbd'⟩:=pL;obtain⟨g,rfl,hs⟩:=HS.st HK.out ((bu hml af).trans hfx);have H0:Hid (StJ g 7 56 S (fun _=>False) w wr ((mkRs N (xs.map ndF)).take i++(xs.map ndF).drop i) i [.s x.n,.s x.z,.i x.c,.i x.s,.i x.u,.b x.d,.l x.zs]):=hs;clear hs hbd hx hfx HS HK;go_wp2_with fail;refine (bf _ _ af af).mono ?_;rintro e w1 ⟨rfl,hb⟩;have h1:=(H0.out).below hb;have H1:=aa h1;obtain⟨p0,c0⟩:=h1.cell (i:=0) rfl;have f0:=h1.bJ (i*7);rw[tK] at c0;clear h1 hb H0;go_wp2_with fail;refine (bf _ _ af af).mono ?_;rintro e w2 ⟨rfl,hb⟩;have h1:=((H1.out).bZ (i:=0) rfl _ (aS af)).below hb;have H2:=aa h1;obtain⟨p1,c1⟩:=h1.cell (i:=1) rfl;have f1:=h1.bJ (i*7+1);obtain⟨p2,c2⟩:=h1.cell (i:=2) rfl;have f2:=h1.bJ (i*7+2);obtain⟨p3,c3⟩:=h1.cell (i:=3) rfl;have f3:=h1.bJ (i*7+3);obtain⟨p4,c4⟩:=h1.cell (i:=4) rfl;have f4:=h1.bJ (i*7+4);obtain⟨p5,c5⟩:=h1.cell (i:=5) rfl;have f5:=h1.bJ (i*7+5);obtain⟨la,ll,lc,cl,hll⟩:=h1.slice (i:=6) rfl;clear h1 hb H1 c0 f0;go_wp2_with fail;refine (((((((H2.out).bZ (i:=1) rfl _ (aS af)).eF (i:=2) rfl _).eF (i:=3) rfl _).eF (i:=4) rfl _).eG (i:=5) rfl _).oj (i:=6) rfl ((bj af).trans ((bj af).trans ((bj af).trans ((bj af).trans ((bj af).trans (cl)))))) _ af af).mono ?_;rintro e w3 ⟨rfl,h1⟩;have H3:=aa h1;clear h1 cl H2 c1 f1 c2 f2 c3 f3 c4 f4 c5 f5;go_wp2_with fail;have HZ:=aa (H3.out);clear H3;refine⟨⟨i+1,mkN n (ndF x),by omega,?_,by go_num,?_,?_,?_,HZ.kept⟩,by simp[intOf];omega⟩
   ·simp[mkN,mkN1,ndF,hll,tq]
   ·rw[bh HF.out,<-HN.out];rfl
   ·simp[mkN,mkN1,ndF];omega
   ·refine ax.jg HZ.out hxl hml hcp hcm HF.out ?_;rw[<-HN.out];simp[mkR,mkF,mkN1,ndF,hll]
  ·obtain rfl:i=len:=af
   go_wp2;go_ret;have e1:(xs.map ndF).take i=xs.map ndF:=sE af;have e2:(mkRs N (xs.map ndF)).take i++(xs.map ndF).drop i=mkRs N (xs.map ndF):=by
    exact fB
   exact iW

theorem kr (a:Option Addr) (len cap:Nat) (xs:List Nd) (N:Int) (w:World) (ho:aA w a len cap 7 (mkRs N (xs.map ndF))) (hN:0<N) (hb:aw N (xs.map ndF)<=1152921504606846976) (hl:len<=9223372036854775807):
  Calls Tryz.prog 69 #[.slice a len cap,.int .i64 N] w fun e w'=>e=.returned (.int .i64 (aw N (xs.map ndF)))/\Below w.heap.size w w':=by
 have hxl:(xs.map ndF).length=len:=by rw[<-aW (xs.map ndF) N];exact ho.1
 have HR:=aa ho;have HBd:=aa hb;clear ho hb;go_enter Tryz.func69,Tryz.ntmps69;go_wp2;go_loopw [1,5] (fun vk vi wr=> ∃(i:Nat) (n:Int),i<=len/\vk=.int .i64 n/\vi=.int .i64 i/\Hid (n=aw N ((xs.map ndF).take i))/\0<n/\Hid (Below w.heap.size w wr)) (fun _ vi _=>len - (intOf vi).toNat);case atStart=>exact⟨0,N,by omega,rfl,rfl,rfl,hN,sB _ _⟩
 case round=>
  obtain⟨i,n,hi,rfl,rfl,HN,hn0,HB⟩:=hrel;by_cases hlt:i<len
  ·obtain⟨x,hx⟩:∃x,xs[i]?=some x:=⟨_,sA (by simpa using (show i<(xs.map ndF).length by omega))⟩;obtain⟨hfx,HF,hbd,hbd'⟩:=pL;obtain⟨b,o,r,rfl,hb,hr,hat⟩:=(HR.below HB.out).at hlt;rw[cW,hfx,<-HN.out] at hr;obtain rfl:=sx hr;have HA:Hid (RAt wr b (o+i*7) (ndF ⟨aP (n).toNat,aP (n+1).toNat,n+1+1,n+1+1+1,n+1+1+1+1,(n+1+1+1+1+1) % 3==0,b8 (n+1+1+1+1+1+1) x.zs.length⟩)):=hat;clear hat hr hbd hx hfx;obtain⟨va,vl,vc,hvr,-,-,c0,c1,c2,c3,c4,c5,c6⟩:=aK HA.out;have HL:=aa hvr;have hvl:=hvr.1;rw[aF] at hvl;clear hvr;clear HL hvl;have hne0:=Wd.ne wr;have e0:∀q:Wd wr,q.w.cell? ⟨b,o+i*7,none⟩=some (.string (aP (n).toNat)):=fun q=>(q.cell hb).trans c0;have HT:=aa (fun v:World=>bf (n) v af af);clear c0;go_wp2_with fail;refine ah an an ?_;repeat (go_big_quiet_step (first|(go_at_call 67;exact Calls.wide (HT.out _))|fail))
   refine wpQuiet_nil ?_;rintro _ ⟨q0,rfl⟩;clear e0 HT hne0 c1 c2 c3 c4 c5 c6;obtain⟨HA0,HB0,hb0⟩:=iG;clear HA HB hb;have HA:=HA0;have HB:=HB0;have hb:=hb0;clear HA0 HB0 hb0;obtain⟨va,vl,vc,hvr,-,-,c0,c1,c2,c3,c4,c5,c6⟩:=aK HA.out;have HL:=aa hvr;have hvl1:=hvr.1;rw[aF] at hvl1;clear hvr;clear c0 c2 c3 c4 c5 c6;clear HL hvl1;have hne1:=Wd.ne q0.w;have e1:∀q:Wd q0.w,q.w.cell? ⟨b,o+i*7+1,none⟩=some (.string (aP (n+1).toNat)):=fun q=>(q.cell hb).trans c1;have HT:=aa (fun v:World=>bf (n+1) v af af);clear c1;go_wp2_with fail;refine ah an an ?_;repeat (go_big_quiet_step (first|(go_at_call 67;exact Calls.wide (HT.out _))|fail))
   refine wpQuiet_nil ?_;rintro _ ⟨q1,rfl⟩;clear e1 HT hne1;obtain⟨HA1,HB1,hb1⟩:=iF;clear HA HB hb;have HA:=HA1;have HB:=HB1;have hb:=hb1;clear HA1 HB1 hb1;obtain⟨va,vl,vc,hvr,-,-,c0,c1,c2,c3,c4,c5,c6⟩:=aK HA.out;have HL:=aa hvr;have hvl2:=hvr.1;rw[aF] at hvl2;clear hvr;clear c0 c1;subst hvl2;go_wp2_with fail;refine (oE va _ vc _ _ (by exact HL.out) af af).mono ?_;rintro e w2 ⟨rfl,hbq⟩;have HA2:=aa (HA.below hb hbq);have HB2:=upB HB hbq;have hb2:=sG hb hbq.size;clear HA HB hb HL c6 hbq;have HA:=HA2;have HB:=HB2;have hb:=hb2;clear HA2 HB2 hb2;go_wp2_with fail;refine⟨⟨i+1,mkN n (ndF x),by omega,?_,by go_num,?_,?_,HB.out⟩,by simp[intOf];omega⟩
   ·simp[mkN,mkN1,ndF,tq]
   ·rw[bh HF.out,<-HN.out];rfl
   ·simp[mkN,mkN1,ndF];omega
  ·obtain rfl:i=len:=af
   go_wp2;go_ret;have e1:(xs.map ndF).take i=xs.map ndF:=sE af;exact iS

structure Kd where
 n:ByteArray
 x:Bool
 y:Bool
 z:ByteArray

def kdF (x:Kd):List Fv:=[.s x.n,.b x.x,.b x.y,.s x.z]
theorem bl {w:World} {b o:Nat} {x:Kd} (h:RAt w b o (kdF x)):x.n.size<=9223372036854775807/\x.z.size<=9223372036854775807/\w.cell? ⟨b,o,none⟩=some (.string x.n)/\w.cell? ⟨b,o+1,none⟩=some (.bool x.x)/\w.cell? ⟨b,o+2,none⟩=some (.bool x.y)/\w.cell? ⟨b,o+3,none⟩=some (.string x.z):=by
 obtain⟨v0,h0,rfl,z0⟩:=h 0 _ rfl;obtain⟨v1,h1,rfl⟩:=h 1 _ rfl;obtain⟨v2,h2,rfl⟩:=h 2 _ rfl;obtain⟨v3,h3,rfl,z3⟩:=h 3 _ rfl;exact⟨z0,z3,h0,h1,h2,h3⟩
theorem dH {w:World} {a:Option Addr} {len cap:Nat} {xs:List Kd} (h:aA w a len cap 4 (xs.map kdF)) {j:Nat} (hj:j<len):
  ∃b o x,a=some ⟨b,o,none⟩/\b<w.heap.size/\xs[j]?=some x/\RAt w b (o+j*4) (kdF x):=by
 exact iX

theorem mA (a:Option Addr) (len cap:Nat) (xs:List Kd) (left:Int) (w:World) (hr:aA w a len cap 4 (xs.map kdF)) (h0:0<=left) (h1:left<=1048576):
  Calls Tryz.prog 17 #[.slice a len cap,.int .i64 left] w (SzB left (len<=1048576) w):=by
 obtain⟨HR,hvl⟩:=dD;have hlc:=sC hr.2.1 hr.2.2.1;clear hr;by_cases hl:left<(len:Int)
 ·go_enter Tryz.func17,Tryz.ntmps17;exact iL
 go_enter Tryz.func17,Tryz.ntmps17;go_wp2;go_loopw [1,5] (fun l i wr=> ∃(k:Nat) (m:Int),k<=len/\l=.int .i64 m/\i=.int .i64 k/\0<=m/\m<=left/\Hid (Below w.heap.size w wr)) (fun _ i _=>len - (intOf i).toNat);case atStart=>exact⟨0,left - len,by omega,by go_num,rfl,by omega,by omega,sB _ _⟩
 case round=>
  obtain⟨k,m,hk,rfl,rfl,hm0,hm1,HB⟩:=hrel;by_cases hlt:k<len
  ·obtain⟨b,o,v,rfl,hb,hv,hat⟩:=dH (HR.below HB.out) hlt;obtain⟨z0,z3,c0,c1,c2,c3⟩:=bl hat;have Hz0:=aa z0;have Hz3:=aa z3;clear hat hv z0 z3;go_wp2_with fail;refine (hY v.n v.x v.y v.z m _ Hz0.out Hz3.out hm0 af).mono ?_;rintro e w2 ⟨r,rfl,hr,hb2⟩;have HB2:=upB HB hb2;clear hb2 c0 c1 c2 c3;exact qf
  ·exact nQ

theorem jn (n:ByteArray) (x:Bool) (y:Bool) (z:ByteArray) (w:World):
  Calls Tryz.prog 63 #[.agg #[.string n,.bool x,.bool y,.string z],.agg #[.string n,.bool x,.bool y,.string z]] w fun e w'=>e=.returned (.bool true)/\Below w.heap.size w w':=by
 go_enter Tryz.func63,Tryz.ntmps63;go_wp2;go_ret;exact⟨rfl,aB _ _ _⟩

theorem oK (a a':Option Addr) (len len' cap cap':Nat) (xs:List Kd) (w:World) (hr:aA w a len cap 4 (xs.map kdF)) (hr':aA w a' len' cap' 4 (xs.map kdF)):
  Calls Tryz.prog 34 #[.slice a len cap,.slice a' len' cap'] w fun e w'=>e=.returned (.bool true)/\Below w.heap.size w w':=by
 obtain rfl:len=len':=hr.1.symm.trans hr'.1;obtain⟨HR,HR',hlc⟩:=iB;clear hr hr';go_enter Tryz.func34,Tryz.ntmps34;go_wp2;go_loopw [5] (fun i wr=> ∃k:Nat,k<=len/\i=.int .i64 k/\Hid (Below w.heap.size w wr)) (fun i _=>len - (intOf i).toNat);case atStart=>exact⟨0,by omega,rfl,sB _ _⟩
 case round=>
  obtain⟨k,hk,rfl,HB⟩:=hrel;by_cases hlt:k<len
  ·obtain⟨b,o,v,rfl,hb,hv,hat⟩:=dH (HR.below HB.out) hlt;obtain⟨b',o',v',rfl,hb',hv',hat'⟩:=dH (HR'.below HB.out) hlt;rw[hv] at hv';obtain rfl:=sx hv';clear hv hv';obtain⟨-,-,c0,c1,c2,c3⟩:=bl hat;obtain⟨-,-,d0,d1,d2,d3⟩:=bl hat';clear hat hat';have HE:=aa (fun q:Wd wr=>jn v.n v.x v.y v.z q.w);have hne:=Wd.ne wr;have e0:∀q:Wd wr,q.w.cell? ⟨b,o+k*4,none⟩=some (.string v.n):=fun q=>(q.cell hb).trans c0;have e1:∀q:Wd wr,q.w.cell? ⟨b,o+k*4+1,none⟩=some (.bool v.x):=fun q=>(q.cell hb).trans c1;have e2:∀q:Wd wr,q.w.cell? ⟨b,o+k*4+2,none⟩=some (.bool v.y):=fun q=>(q.cell hb).trans c2;have e3:∀q:Wd wr,q.w.cell? ⟨b,o+k*4+3,none⟩=some (.string v.z):=fun q=>(q.cell hb).trans c3;have f0:∀q:Wd wr,q.w.cell? ⟨b',o'+k*4,none⟩=some (.string v.n):=fun q=>(q.cell hb').trans d0;have f1:∀q:Wd wr,q.w.cell? ⟨b',o'+k*4+1,none⟩=some (.bool v.x):=fun q=>(q.cell hb').trans d1;have f2:∀q:Wd wr,q.w.cell? ⟨b',o'+k*4+2,none⟩=some (.bool v.y):=fun q=>(q.cell hb').trans d2;have f3:∀q:Wd wr,q.w.cell? ⟨b',o'+k*4+3,none⟩=some (.string v.z):=fun q=>(q.cell hb').trans d3;clear c0 c1 c2 c3 d0 d1 d2 d3;go_wp2_with fail;refine ah an an ?_;repeat (go_big_quiet_step (first|(go_at_call 63;exact Calls.wide (HE.out _))|fail))
   exact iY
  ·exact iN

theorem jZ (a:Option Addr) (len cap:Nat) (xs:List Kd) (N:Int) (S:Nat->Prop) (w:World) (ho:ax w a len cap 4 106 (xs.map kdF) S) (hN:0<N) (hb:aw N (xs.map kdF)<=1152921504606846976) (hl:len<=9223372036854775807):
  Calls Tryz.prog 39 #[.slice a len cap,.int .i64 N] w fun e w'=>e=.returned (.int .i64 (aw N (xs.map kdF)))/\ax w' a len cap 4 106 (mkRs N (xs.map kdF)) S/\az S w w':=by
 have hxl:=ho.1;have hcp:=ho.2.1;have hcm:=ho.2.2.1;have hml:(mkRs N (xs.map kdF)).length=(xs.map kdF).length:=aW _ _;have HO:Hid (ax w a len cap 4 106 ((mkRs N (xs.map kdF)).take 0++(xs.map kdF).drop 0) S):=ix
 have HBd:=aa hb;clear ho hb;go_enter Tryz.func39,Tryz.ntmps39;go_wp2;go_loopw [1,5] (fun vk vi wr=> ∃(i:Nat) (n:Int),i<=len/\vk=.int .i64 n/\vi=.int .i64 i/\Hid (n=aw N ((xs.map kdF).take i))/\0<n/\Hid (ax wr a len cap 4 106 ((mkRs N (xs.map kdF)).take i++(xs.map kdF).drop i) S)/\Hid (az S w wr)) (fun _ vi _=>len - (intOf vi).toNat);case atStart=>exact⟨0,N,by omega,rfl,rfl,rfl,hN,HO,az.refl _ _⟩
 case round=>
  obtain⟨i,n,hi,rfl,rfl,HN,hn0,HS,HK⟩:=hrel;clear HO;by_cases hlt:i<len
  ·obtain⟨x,hx⟩:∃x,xs[i]?=some x:=⟨_,sA (by simpa using (show i<(xs.map kdF).length by omega))⟩;obtain⟨hfx,HF,hbd,hbd'⟩:=pJ;obtain⟨g,rfl,hs⟩:=HS.st HK.out ((bu hml af).trans hfx);have H0:Hid (StJ g 4 106 S (fun _=>False) w wr ((mkRs N (xs.map kdF)).take i++(xs.map kdF).drop i) i [.s x.n,.b x.x,.b x.y,.s x.z]):=hs;clear hs hbd hx hfx HS HK;go_wp2_with fail;refine (bf _ _ af af).mono ?_;rintro e w1 ⟨rfl,hb⟩;have h1:=(H0.out).below hb;have H1:=aa h1;obtain⟨p0,c0⟩:=h1.cell (i:=0) rfl;have f0:=h1.bJ (i*4);rw[tK] at c0;obtain⟨p1,c1⟩:=h1.cell (i:=1) rfl;have f1:=h1.bJ (i*4+1);obtain⟨p2,c2⟩:=h1.cell (i:=2) rfl;have f2:=h1.bJ (i*4+2);clear h1 hb H0;go_wp2_with fail;refine (bf _ _ af af).mono ?_;rintro e w2 ⟨rfl,hb⟩;have h1:=((((H1.out).bZ (i:=0) rfl _ (aS af)).eG (i:=1) rfl _).eG (i:=2) rfl _).below hb;have H2:=aa h1;obtain⟨p3,c3⟩:=h1.cell (i:=3) rfl;have f3:=h1.bJ (i*4+3);clear h1 hb H1 c0 f0 c1 f1 c2 f2;go_wp2_with fail;have HZ:=aa ((H2.out).bZ (i:=3) rfl (aP (n+1+1+1).toNat) (aS af));clear H2;refine⟨⟨i+1,mkN n (kdF x),by omega,?_,by go_num,?_,?_,?_,HZ.kept⟩,by simp[intOf];omega⟩
   ·simp[mkN,mkN1,kdF,tq]
   ·rw[bh HF.out,<-HN.out];rfl
   ·simp[mkN,mkN1,kdF];omega
   ·refine ax.jg HZ.out hxl hml hcp hcm HF.out ?_;rw[<-HN.out];simp[mkR,mkF,mkN1,kdF]
  ·obtain rfl:i=len:=af
   go_wp2;go_ret;have e1:(xs.map kdF).take i=xs.map kdF:=sE af;have e2:(mkRs N (xs.map kdF)).take i++(xs.map kdF).drop i=mkRs N (xs.map kdF):=by
    exact fB
   exact iW

theorem kt (a:Option Addr) (len cap:Nat) (xs:List Kd) (N:Int) (w:World) (ho:aA w a len cap 4 (mkRs N (xs.map kdF))) (hN:0<N) (hb:aw N (xs.map kdF)<=1152921504606846976) (hl:len<=9223372036854775807):
  Calls Tryz.prog 70 #[.slice a len cap,.int .i64 N] w fun e w'=>e=.returned (.int .i64 (aw N (xs.map kdF)))/\Below w.heap.size w w':=by
 have hxl:(xs.map kdF).length=len:=by rw[<-aW (xs.map kdF) N];exact ho.1
 have HR:=aa ho;have HBd:=aa hb;clear ho hb;go_enter Tryz.func70,Tryz.ntmps70;go_wp2;go_loopw [1,5] (fun vk vi wr=> ∃(i:Nat) (n:Int),i<=len/\vk=.int .i64 n/\vi=.int .i64 i/\Hid (n=aw N ((xs.map kdF).take i))/\0<n/\Hid (Below w.heap.size w wr)) (fun _ vi _=>len - (intOf vi).toNat);case atStart=>exact⟨0,N,by omega,rfl,rfl,rfl,hN,sB _ _⟩
 case round=>
  obtain⟨i,n,hi,rfl,rfl,HN,hn0,HB⟩:=hrel;by_cases hlt:i<len
  ·obtain⟨x,hx⟩:∃x,xs[i]?=some x:=⟨_,sA (by simpa using (show i<(xs.map kdF).length by omega))⟩;obtain⟨hfx,HF,hbd,hbd'⟩:=pJ;obtain⟨b,o,r,rfl,hb,hr,hat⟩:=(HR.below HB.out).at hlt;rw[cW,hfx,<-HN.out] at hr;obtain rfl:=sx hr;have HA:Hid (RAt wr b (o+i*4) (kdF ⟨aP (n).toNat,(n+1) % 3==0,(n+1+1) % 3==0,aP (n+1+1+1).toNat⟩)):=hat;clear hat hr hbd hx hfx;obtain⟨-,-,c0,c1,c2,c3⟩:=bl HA.out;have hne0:=Wd.ne wr;have e0:∀q:Wd wr,q.w.cell? ⟨b,o+i*4,none⟩=some (.string (aP (n).toNat)):=fun q=>(q.cell hb).trans c0;have HT:=aa (fun v:World=>bf (n) v af af);clear c0;go_wp2_with fail;refine ah an an ?_;repeat (go_big_quiet_step (first|(go_at_call 67;exact Calls.wide (HT.out _))|fail))
   refine wpQuiet_nil ?_;rintro _ ⟨q0,rfl⟩;clear e0 HT hne0 c1 c2 c3;obtain⟨HA0,HB0,hb0⟩:=iG;clear HA HB hb;have HA:=HA0;have HB:=HB0;have hb:=hb0;clear HA0 HB0 hb0;obtain⟨-,-,c0,c1,c2,c3⟩:=bl HA.out;clear c0;have hne1:=Wd.ne q0.w;have e3:∀q:Wd q0.w,q.w.cell? ⟨b,o+i*4+3,none⟩=some (.string (aP (n+1+1+1).toNat)):=fun q=>(q.cell hb).trans c3;have HT:=aa (fun v:World=>bf (n+1+1+1) v af af);clear c3;go_wp2_with fail;refine ah an an ?_;repeat (go_big_quiet_step (first|(go_at_call 67;exact Calls.wide (HT.out _))|fail))
   refine wpQuiet_nil ?_;rintro _ ⟨q1,rfl⟩;clear e3 HT hne1 c1 c2;obtain⟨HA1,HB1,hb1⟩:=iF;clear HA HB hb;have HA:=HA1;have HB:=HB1;have hb:=hb1;clear HA1 HB1 hb1;obtain⟨-,-,c0,c1,c2,c3⟩:=bl HA.out;clear c0 c1 c2 c3;go_wp2_with fail;refine⟨⟨i+1,mkN n (kdF x),by omega,?_,by go_num,?_,?_,HB.out⟩,by simp[intOf];omega⟩
   ·simp[mkN,mkN1,kdF,tq]
   ·rw[bh HF.out,<-HN.out];rfl
   ·simp[mkN,mkN1,kdF];omega
  ·obtain rfl:i=len:=af
   go_wp2;go_ret;have e1:(xs.map kdF).take i=xs.map kdF:=sE af;exact iS

def vdF (x:Vd):List Fv:=[.s x.n,.i x.c,.s x.z,.s x.k,.b x.x,.s x.m,.b x.y,.l x.zs]
theorem aE {w:World} {b o:Nat} {x:Vd} (h:RAt w b o (vdF x)):∃a len cap,ar w a len cap x.zs/\x.n.size<=9223372036854775807/\x.z.size<=9223372036854775807/\x.k.size<=9223372036854775807/\x.m.size<=9223372036854775807/\w.cell? ⟨b,o,none⟩=some (.string x.n)/\w.cell? ⟨b,o+1,none⟩=some (.int .i64 x.c)/\w.cell? ⟨b,o+2,none⟩=some (.string x.z)/\w.cell? ⟨b,o+3,none⟩=some (.string x.k)/\w.cell? ⟨b,o+4,none⟩=some (.bool x.x)/\w.cell? ⟨b,o+5,none⟩=some (.string x.m)/\w.cell? ⟨b,o+6,none⟩=some (.bool x.y)/\w.cell? ⟨b,o+7,none⟩=some (.slice a len cap):=by
 obtain⟨v0,h0,rfl,z0⟩:=h 0 _ rfl;obtain⟨v1,h1,rfl⟩:=h 1 _ rfl;obtain⟨v2,h2,rfl,z2⟩:=h 2 _ rfl;obtain⟨v3,h3,rfl,z3⟩:=h 3 _ rfl;obtain⟨v4,h4,rfl⟩:=h 4 _ rfl;obtain⟨v5,h5,rfl,z5⟩:=h 5 _ rfl;obtain⟨v6,h6,rfl⟩:=h 6 _ rfl;obtain⟨v7,h7,a,len,cap,rfl,hr⟩:=h 7 _ rfl;exact⟨a,len,cap,hr,z0,z2,z3,z5,h0,h1,h2,h3,h4,h5,h6,h7⟩
theorem bk {w:World} {a:Option Addr} {len cap:Nat} {xs:List Vd} (h:aA w a len cap 8 (xs.map vdF)) {j:Nat} (hj:j<len):
  ∃b o x,a=some ⟨b,o,none⟩/\b<w.heap.size/\xs[j]?=some x/\RAt w b (o+j*8) (vdF x):=by
 exact iX

theorem mx (a:Option Addr) (len cap:Nat) (xs:List Vd) (left:Int) (w:World) (hr:aA w a len cap 8 (xs.map vdF)) (h0:0<=left) (h1:left<=1048576):
  Calls Tryz.prog 18 #[.slice a len cap,.int .i64 left] w (SzB left (len<=1048576/\∀(j:Nat) x,xs[j]?=some x->x.zs.length<=1048576) w):=by
 obtain⟨HR,hvl⟩:=dD;have hlc:=sC hr.2.1 hr.2.2.1;clear hr;by_cases hl:left<(len:Int)
 ·go_enter Tryz.func18,Tryz.ntmps18;exact iL
 go_enter Tryz.func18,Tryz.ntmps18;go_wp2;go_loopw [1,5] (fun l i wr=> ∃(k:Nat) (m:Int),k<=len/\l=.int .i64 m/\i=.int .i64 k/\0<=m/\m<=left/\Hid (∀(j:Nat) x,j<k->xs[j]?=some x->x.zs.length<=1048576)/\Hid (Below w.heap.size w wr)) (fun _ i _=>len - (intOf i).toNat);case atStart=>exact⟨0,left - len,by omega,by go_num,rfl,by omega,by omega,fun j v hj=>by omega,sB _ _⟩
 case round=>
  obtain⟨k,m,hk,rfl,rfl,hm0,hm1,HE,HB⟩:=hrel;by_cases hlt:k<len
  ·obtain⟨b,o,v,rfl,hb,hv,hat⟩:=bk (HR.below HB.out) hlt;obtain⟨va,vl,vc,hvr,z0,z2,z3,z5,c0,c1,c2,c3,c4,c5,c6,c7⟩:=aE hat;have Hz0:=aa z0;have Hz2:=aa z2;have Hz3:=aa z3;have Hz5:=aa z5;have HV:=aa hv;have HT:=aa hvr;clear hvr;clear hat hv z0 z2 z3 z5;go_wp2_with fail;refine (gA v.n v.c v.z v.k v.x v.m v.y va vl vc v.zs m _ Hz0.out Hz2.out Hz3.out Hz5.out HT.out hm0 af).mono ?_;rintro e w2 ⟨r,rfl,hr,hb2⟩;have HB2:=upB HB hb2;clear hb2 c0 c1 c2 c3 c4 c5 c6 c7;exact nu
  ·exact np

theorem oH (a a':Option Addr) (len len' cap cap':Nat) (xs:List Vd) (w:World) (hr:aA w a len cap 8 (xs.map vdF)) (hr':aA w a' len' cap' 8 (xs.map vdF)):
  Calls Tryz.prog 35 #[.slice a len cap,.slice a' len' cap'] w fun e w'=>e=.returned (.bool true)/\Below w.heap.size w w':=by
 obtain rfl:len=len':=hr.1.symm.trans hr'.1;obtain⟨HR,HR',hlc⟩:=iB;clear hr hr';go_enter Tryz.func35,Tryz.ntmps35;go_wp2;go_loopw [5] (fun i wr=> ∃k:Nat,k<=len/\i=.int .i64 k/\Hid (Below w.heap.size w wr)) (fun i _=>len - (intOf i).toNat);case atStart=>exact⟨0,by omega,rfl,sB _ _⟩
 case round=>
  obtain⟨k,hk,rfl,HB⟩:=hrel;by_cases hlt:k<len
  ·obtain⟨b,o,v,rfl,hb,hv,hat⟩:=bk (HR.below HB.out) hlt;obtain⟨b',o',v',rfl,hb',hv',hat'⟩:=bk (HR'.below HB.out) hlt;rw[hv] at hv';obtain rfl:=sx hv';clear hv hv';obtain⟨va,vl,vc,hvr,-,-,-,-,c0,c1,c2,c3,c4,c5,c6,c7⟩:=aE hat;obtain⟨va',vl',vc',hvr',-,-,-,-,d0,d1,d2,d3,d4,d5,d6,d7⟩:=aE hat';clear hat hat';have HT:=aa hvr;have HT':=aa hvr';clear hvr hvr';have HE:=aa (fun q:Wd wr=>gR v.n v.c v.z v.k v.x v.m v.y va vl vc v.zs va' vl' vc' q.w (HT.below q.b) (HT'.below q.b));have hne:=Wd.ne wr;have e0:∀q:Wd wr,q.w.cell? ⟨b,o+k*8,none⟩=some (.string v.n):=fun q=>(q.cell hb).trans c0;have e1:∀q:Wd wr,q.w.cell? ⟨b,o+k*8+1,none⟩=some (.int .i64 v.c):=fun q=>(q.cell hb).trans c1;have e2:∀q:Wd wr,q.w.cell? ⟨b,o+k*8+2,none⟩=some (.string v.z):=fun q=>(q.cell hb).trans c2;have e3:∀q:Wd wr,q.w.cell? ⟨b,o+k*8+3,none⟩=some (.string v.k):=fun q=>(q.cell hb).trans c3;have e4:∀q:Wd wr,q.w.cell? ⟨b,o+k*8+4,none⟩=some (.bool v.x):=fun q=>(q.cell hb).trans c4;have e5:∀q:Wd wr,q.w.cell? ⟨b,o+k*8+5,none⟩=some (.string v.m):=fun q=>(q.cell hb).trans c5;have e6:∀q:Wd wr,q.w.cell? ⟨b,o+k*8+6,none⟩=some (.bool v.y):=fun q=>(q.cell hb).trans c6;have e7:∀q:Wd wr,q.w.cell? ⟨b,o+k*8+7,none⟩=some (.slice va vl vc):=fun q=>(q.cell hb).trans c7;have f0:∀q:Wd wr,q.w.cell? ⟨b',o'+k*8,none⟩=some (.string v.n):=fun q=>(q.cell hb').trans d0;have f1:∀q:Wd wr,q.w.cell? ⟨b',o'+k*8+1,none⟩=some (.int .i64 v.c):=fun q=>(q.cell hb').trans d1;have f2:∀q:Wd wr,q.w.cell? ⟨b',o'+k*8+2,none⟩=some (.string v.z):=fun q=>(q.cell hb').trans d2;have f3:∀q:Wd wr,q.w.cell? ⟨b',o'+k*8+3,none⟩=some (.string v.k):=fun q=>(q.cell hb').trans d3;have f4:∀q:Wd wr,q.w.cell? ⟨b',o'+k*8+4,none⟩=some (.bool v.x):=fun q=>(q.cell hb').trans d4;have f5:∀q:Wd wr,q.w.cell? ⟨b',o'+k*8+5,none⟩=some (.string v.m):=fun q=>(q.cell hb').trans d5;have f6:∀q:Wd wr,q.w.cell? ⟨b',o'+k*8+6,none⟩=some (.bool v.y):=fun q=>(q.cell hb').trans d6;have f7:∀q:Wd wr,q.w.cell? ⟨b',o'+k*8+7,none⟩=some (.slice va' vl' vc'):=fun q=>(q.cell hb').trans d7;clear c0 c1 c2 c3 c4 c5 c6 c7 d0 d1 d2 d3 d4 d5 d6 d7;go_wp2_with fail;refine ah an an ?_;repeat (go_big_quiet_step (first|(go_at_call 64;exact Calls.wide (HE.out _))|fail))
   exact iY
  ·exact iN

theorem jW (a:Option Addr) (len cap:Nat) (xs:List Vd) (N:Int) (S:Nat->Prop) (w:World) (ho:ax w a len cap 8 101 (xs.map vdF) S) (hN:0<N) (hb:aw N (xs.map vdF)<=1152921504606846976) (hl:len<=9223372036854775807):
  Calls Tryz.prog 40 #[.slice a len cap,.int .i64 N] w fun e w'=>e=.returned (.int .i64 (aw N (xs.map vdF)))/\ax w' a len cap 8 101 (mkRs N (xs.map vdF)) S/\az S w w':=by
 have hxl:=ho.1;have hcp:=ho.2.1;have hcm:=ho.2.2.1;have hml:(mkRs N (xs.map vdF)).length=(xs.map vdF).length:=aW _ _;have HO:Hid (ax w a len cap 8 101 ((mkRs N (xs.map vdF)).take 0++(xs.map vdF).drop 0) S):=ix
 have HBd:=aa hb;clear ho hb;go_enter Tryz.func40,Tryz.ntmps40;go_wp2;go_loopw [1,5] (fun vk vi wr=> ∃(i:Nat) (n:Int),i<=len/\vk=.int .i64 n/\vi=.int .i64 i/\Hid (n=aw N ((xs.map vdF).take i))/\0<n/\Hid (ax wr a len cap 8 101 ((mkRs N (xs.map vdF)).take i++(xs.map vdF).drop i) S)/\Hid (az S w wr)) (fun _ vi _=>len - (intOf vi).toNat);case atStart=>exact⟨0,N,by omega,rfl,rfl,rfl,hN,HO,az.refl _ _⟩
 case round=>
  obtain⟨i,n,hi,rfl,rfl,HN,hn0,HS,HK⟩:=hrel;clear HO;by_cases hlt:i<len
  ·obtain⟨x,hx⟩:∃x,xs[i]?=some x:=⟨_,sA (by simpa using (show i<(xs.map vdF).length by omega))⟩;obtain⟨hfx,HF,hbd,hbd'⟩:=pK;obtain⟨g,rfl,hs⟩:=HS.st HK.out ((bu hml af).trans hfx);have H0:Hid (StJ g 8 101 S (fun _=>False) w wr ((mkRs N (xs.map vdF)).take i++(xs.map vdF).drop i) i [.s x.n,.i x.c,.s x.z,.s x.k,.b x.x,.s x.m,.b x.y,.l x.zs]):=hs;clear hs hbd hx hfx HS HK;go_wp2_with fail;refine (bf _ _ af af).mono ?_;rintro e w1 ⟨rfl,hb⟩;have h1:=(H0.out).below hb;have H1:=aa h1;obtain⟨p0,c0⟩:=h1.cell (i:=0) rfl;have f0:=h1.bJ (i*8);rw[tK] at c0;obtain⟨p1,c1⟩:=h1.cell (i:=1) rfl;have f1:=h1.bJ (i*8+1);clear h1 hb H0;go_wp2_with fail;refine (bf _ _ af af).mono ?_;rintro e w2 ⟨rfl,hb⟩;obtain⟨h1,H2⟩:=mM;obtain⟨p2,c2⟩:=h1.cell (i:=2) rfl;have f2:=h1.bJ (i*8+2);clear h1 hb H1 c0 f0 c1 f1;go_wp2_with fail;refine (bf _ _ af af).mono ?_;rintro e w3 ⟨rfl,hb⟩;have h1:=((H2.out).bZ (i:=2) rfl _ (aS af)).below hb;have H3:=aa h1;obtain⟨p3,c3⟩:=h1.cell (i:=3) rfl;have f3:=h1.bJ (i*8+3);obtain⟨p4,c4⟩:=h1.cell (i:=4) rfl;have f4:=h1.bJ (i*8+4);clear h1 hb H2 c2 f2;go_wp2_with fail;refine (bf _ _ af af).mono ?_;rintro e w4 ⟨rfl,hb⟩;have h1:=(((H3.out).bZ (i:=3) rfl _ (aS af)).eG (i:=4) rfl _).below hb;have H4:=aa h1;obtain⟨p5,c5⟩:=h1.cell (i:=5) rfl;have f5:=h1.bJ (i*8+5);obtain⟨p6,c6⟩:=h1.cell (i:=6) rfl;have f6:=h1.bJ (i*8+6);obtain⟨la,ll,lc,cl,hll⟩:=h1.slice (i:=7) rfl;clear h1 hb H3 c3 f3 c4 f4;go_wp2_with fail;refine ((((H4.out).bZ (i:=5) rfl _ (aS af)).eG (i:=6) rfl _).oj (i:=7) rfl ((bj af).trans ((bj af).trans (cl))) _ af af).mono ?_;rintro e w5 ⟨rfl,h1⟩;have H5:=aa h1;clear h1 cl H4 c5 f5 c6 f6;go_wp2_with fail;have HZ:=aa (H5.out);clear H5;refine⟨⟨i+1,mkN n (vdF x),by omega,?_,by go_num,?_,?_,?_,HZ.kept⟩,by simp[intOf];omega⟩
   ·simp[mkN,mkN1,vdF,hll,tq]
   ·rw[bh HF.out,<-HN.out];rfl
   ·simp[mkN,mkN1,vdF];omega
   ·refine ax.jg HZ.out hxl hml hcp hcm HF.out ?_;rw[<-HN.out];simp[mkR,mkF,mkN1,vdF,hll]
  ·obtain rfl:i=len:=af
   go_wp2;go_ret;have e1:(xs.map vdF).take i=xs.map vdF:=sE af;have e2:(mkRs N (xs.map vdF)).take i++(xs.map vdF).drop i=mkRs N (xs.map vdF):=by
    exact fB
   exact iW

theorem ko (a:Option Addr) (len cap:Nat) (xs:List Vd) (N:Int) (w:World) (ho:aA w a len cap 8 (mkRs N (xs.map vdF))) (hN:0<N) (hb:aw N (xs.map vdF)<=1152921504606846976) (hl:len<=9223372036854775807):
  Calls Tryz.prog 71 #[.slice a len cap,.int .i64 N] w fun e w'=>e=.returned (.int .i64 (aw N (xs.map vdF)))/\Below w.heap.size w w':=by
 have hxl:(xs.map vdF).length=len:=by rw[<-aW (xs.map vdF) N];exact ho.1
 have HR:=aa ho;have HBd:=aa hb;clear ho hb;go_enter Tryz.func71,Tryz.ntmps71;go_wp2;go_loopw [1,5] (fun vk vi wr=> ∃(i:Nat) (n:Int),i<=len/\vk=.int .i64 n/\vi=.int .i64 i/\Hid (n=aw N ((xs.map vdF).take i))/\0<n/\Hid (Below w.heap.size w wr)) (fun _ vi _=>len - (intOf vi).toNat);case atStart=>exact⟨0,N,by omega,rfl,rfl,rfl,hN,sB _ _⟩
 case round=>
  obtain⟨i,n,hi,rfl,rfl,HN,hn0,HB⟩:=hrel;by_cases hlt:i<len
  ·obtain⟨x,hx⟩:∃x,xs[i]?=some x:=⟨_,sA (by simpa using (show i<(xs.map vdF).length by omega))⟩;obtain⟨hfx,HF,hbd,hbd'⟩:=pK;obtain⟨b,o,r,rfl,hb,hr,hat⟩:=(HR.below HB.out).at hlt;rw[cW,hfx,<-HN.out] at hr;obtain rfl:=sx hr;have HA:Hid (RAt wr b (o+i*8) (vdF ⟨aP (n).toNat,n+1,aP (n+1+1).toNat,aP (n+1+1+1).toNat,(n+1+1+1+1) % 3==0,aP (n+1+1+1+1+1).toNat,(n+1+1+1+1+1+1) % 3==0,b8 (n+1+1+1+1+1+1+1) x.zs.length⟩)):=hat;clear hat hr hbd hx hfx;obtain⟨va,vl,vc,hvr,-,-,-,-,c0,c1,c2,c3,c4,c5,c6,c7⟩:=aE HA.out;have HL:=aa hvr;have hvl:=hvr.1;rw[aF] at hvl;clear hvr;clear HL hvl;have hne0:=Wd.ne wr;have e0:∀q:Wd wr,q.w.cell? ⟨b,o+i*8,none⟩=some (.string (aP (n).toNat)):=fun q=>(q.cell hb).trans c0;have HT:=aa (fun v:World=>bf (n) v af af);clear c0;go_wp2_with fail;refine ah an an ?_;repeat (go_big_quiet_step (first|(go_at_call 67;exact Calls.wide (HT.out _))|fail))
   refine wpQuiet_nil ?_;rintro _ ⟨q0,rfl⟩;clear e0 HT hne0 c1 c2 c3 c4 c5 c6 c7;obtain⟨HA0,HB0,hb0⟩:=iG;clear HA HB hb;have HA:=HA0;have HB:=HB0;have hb:=hb0;clear HA0 HB0 hb0;obtain⟨va,vl,vc,hvr,-,-,-,-,c0,c1,c2,c3,c4,c5,c6,c7⟩:=aE HA.out;have HL:=aa hvr;have hvl1:=hvr.1;rw[aF] at hvl1;clear hvr;clear c0 c3 c4 c5 c6 c7;clear HL hvl1;have hne1:=Wd.ne q0.w;have e2:∀q:Wd q0.w,q.w.cell? ⟨b,o+i*8+2,none⟩=some (.string (aP (n+1+1).toNat)):=fun q=>(q.cell hb).trans c2;have HT:=aa (fun v:World=>bf (n+1+1) v af af);clear c2;go_wp2_with fail;refine ah an an ?_;repeat (go_big_quiet_step (first|(go_at_call 67;exact Calls.wide (HT.out _))|fail))
   refine wpQuiet_nil ?_;rintro _ ⟨q1,rfl⟩;clear e2 HT hne1 c1;obtain⟨HA1,HB1,hb1⟩:=iF;clear HA HB hb;have HA:=HA1;have HB:=HB1;have hb:=hb1;clear HA1 HB1 hb1;obtain⟨va,vl,vc,hvr,-,-,-,-,c0,c1,c2,c3,c4,c5,c6,c7⟩:=aE HA.out;have HL:=aa hvr;have hvl2:=hvr.1;rw[aF] at hvl2;clear hvr;clear c0 c1 c2 c4 c5 c6 c7;clear HL hvl2;have hne2:=Wd.ne q1.w;have e3:∀q:Wd q1.w,q.w.cell? ⟨b,o+i*8+3,none⟩=some (.string (aP (n+1+1+1).toNat)):=fun q=>(q.cell hb).trans c3;have HT:=aa (fun v:World=>bf (n+1+1+1) v af af);clear c3;go_wp2_with fail;refine ah an an ?_;repeat (go_big_quiet_step (first|(go_at_call 67;exact Calls.wide (HT.out _))|fail))
   refine wpQuiet_nil ?_;rintro _ ⟨q2,rfl⟩;clear e3 HT hne2;have HA2:=aa (HA.below hb q2.b);have HB2:=upB HB q2.b;have hb2:=sG hb q2.b.size;clear HA HB hb;have HA:=HA2;have HB:=HB2;have hb:=hb2;clear HA2 HB2 hb2;obtain⟨va,vl,vc,hvr,-,-,-,-,c0,c1,c2,c3,c4,c5,c6,c7⟩:=aE HA.out;have HL:=aa hvr;have hvl3:=hvr.1;rw[aF] at hvl3;clear hvr;clear c0 c1 c2 c3 c6 c7;clear HL hvl3;have hne3:=Wd.ne q2.w;have e5:∀q:Wd q2.w,q.w.cell? ⟨b,o+i*8+5,none⟩=some (.string (aP (n+1+1+1+1+1).toNat)):=fun q=>(q.cell hb).trans c5;have HT:=aa (fun v:World=>bf (n+1+1+1+1+1) v af af);clear c5;go_wp2_with fail;refine ah an an ?_;repeat (go_big_quiet_step (first|(go_at_call 67;exact Calls.wide (HT.out _))|fail))
   refine wpQuiet_nil ?_;rintro _ ⟨q3,rfl⟩;clear e5 HT hne3 c4;have HA3:=aa (HA.below hb q3.b);have HB3:=upB HB q3.b;have hb3:=sG hb q3.b.size;clear HA HB hb;have HA:=HA3;have HB:=HB3;have hb:=hb3;clear HA3 HB3 hb3;obtain⟨va,vl,vc,hvr,-,-,-,-,c0,c1,c2,c3,c4,c5,c6,c7⟩:=aE HA.out;have HL:=aa hvr;have hvl4:=hvr.1;rw[aF] at hvl4;clear hvr;clear c0 c1 c2 c3 c4 c5;subst hvl4;go_wp2_with fail;refine (oE va _ vc _ _ (by exact HL.out) af af).mono ?_;rintro e w4 ⟨rfl,hbq⟩;have HA4:=aa (HA.below hb hbq);have HB4:=upB HB hbq;have hb4:=sG hb hbq.size;clear HA HB hb HL c7 hbq;have HA:=HA4;have HB:=HB4;have hb:=hb4;clear HA4 HB4 hb4;go_wp2_with fail;refine⟨⟨i+1,mkN n (vdF x),by omega,?_,by go_num,?_,?_,HB.out⟩,by simp[intOf];omega⟩
   ·simp[mkN,mkN1,vdF,tq]
   ·rw[bh HF.out,<-HN.out];rfl
   ·simp[mkN,mkN1,vdF];omega
  ·obtain rfl:i=len:=af
   go_wp2;go_ret;have e1:(xs.map vdF).take i=xs.map vdF:=sE af;exact iS

structure Xd where
 n:ByteArray
 z:Int
 k:ByteArray
 x:Bool
 v:ByteArray

def xdF (x:Xd):List Fv:=[.s x.n,.i x.z,.s x.k,.b x.x,.s x.v]
theorem aU {w:World} {b o:Nat} {x:Xd} (h:RAt w b o (xdF x)):x.n.size<=9223372036854775807/\x.k.size<=9223372036854775807/\x.v.size<=9223372036854775807/\w.cell? ⟨b,o,none⟩=some (.string x.n)/\w.cell? ⟨b,o+1,none⟩=some (.int .i64 x.z)/\w.cell? ⟨b,o+2,none⟩=some (.string x.k)/\w.cell? ⟨b,o+3,none⟩=some (.bool x.x)/\w.cell? ⟨b,o+4,none⟩=some (.string x.v):=by
 obtain⟨v0,h0,rfl,z0⟩:=h 0 _ rfl;obtain⟨v1,h1,rfl⟩:=h 1 _ rfl;obtain⟨v2,h2,rfl,z2⟩:=h 2 _ rfl;obtain⟨v3,h3,rfl⟩:=h 3 _ rfl;obtain⟨v4,h4,rfl,z4⟩:=h 4 _ rfl;exact⟨z0,z2,z4,h0,h1,h2,h3,h4⟩
theorem cD {w:World} {a:Option Addr} {len cap:Nat} {xs:List Xd} (h:aA w a len cap 5 (xs.map xdF)) {j:Nat} (hj:j<len):
  ∃b o x,a=some ⟨b,o,none⟩/\b<w.heap.size/\xs[j]?=some x/\RAt w b (o+j*5) (xdF x):=by
 exact iX

theorem mw (a:Option Addr) (len cap:Nat) (xs:List Xd) (left:Int) (w:World) (hr:aA w a len cap 5 (xs.map xdF)) (h0:0<=left) (h1:left<=1048576):
  Calls Tryz.prog 19 #[.slice a len cap,.int .i64 left] w (SzB left (len<=1048576) w):=by
 obtain⟨HR,hvl⟩:=dD;have hlc:=sC hr.2.1 hr.2.2.1;clear hr;by_cases hl:left<(len:Int)
 ·go_enter Tryz.func19,Tryz.ntmps19;exact iL
 go_enter Tryz.func19,Tryz.ntmps19;go_wp2;go_loopw [1,5] (fun l i wr=> ∃(k:Nat) (m:Int),k<=len/\l=.int .i64 m/\i=.int .i64 k/\0<=m/\m<=left/\Hid (Below w.heap.size w wr)) (fun _ i _=>len - (intOf i).toNat);case atStart=>exact⟨0,left - len,by omega,by go_num,rfl,by omega,by omega,sB _ _⟩
 case round=>
  obtain⟨k,m,hk,rfl,rfl,hm0,hm1,HB⟩:=hrel;by_cases hlt:k<len
  ·obtain⟨b,o,v,rfl,hb,hv,hat⟩:=cD (HR.below HB.out) hlt;obtain⟨z0,z2,z4,c0,c1,c2,c3,c4⟩:=aU hat;have Hz0:=aa z0;have Hz2:=aa z2;have Hz4:=aa z4;clear hat hv z0 z2 z4;go_wp2_with fail;refine (h_ v.n v.z v.k v.x v.v m _ Hz0.out Hz2.out Hz4.out hm0 af).mono ?_;rintro e w2 ⟨r,rfl,hr,hb2⟩;have HB2:=upB HB hb2;clear hb2 c0 c1 c2 c3 c4;exact qf
  ·exact nQ

theorem jo (n:ByteArray) (z:Int) (k:ByteArray) (x:Bool) (v:ByteArray) (w:World):
  Calls Tryz.prog 65 #[.agg #[.string n,.int .i64 z,.string k,.bool x,.string v],.agg #[.string n,.int .i64 z,.string k,.bool x,.string v]] w fun e w'=>e=.returned (.bool true)/\Below w.heap.size w w':=by
 go_enter Tryz.func65,Tryz.ntmps65;go_wp2;go_ret;exact⟨rfl,aB _ _ _⟩

theorem oG (a a':Option Addr) (len len' cap cap':Nat) (xs:List Xd) (w:World) (hr:aA w a len cap 5 (xs.map xdF)) (hr':aA w a' len' cap' 5 (xs.map xdF)):
  Calls Tryz.prog 36 #[.slice a len cap,.slice a' len' cap'] w fun e w'=>e=.returned (.bool true)/\Below w.heap.size w w':=by
 obtain rfl:len=len':=hr.1.symm.trans hr'.1;obtain⟨HR,HR',hlc⟩:=iB;clear hr hr';go_enter Tryz.func36,Tryz.ntmps36;go_wp2;go_loopw [5] (fun i wr=> ∃k:Nat,k<=len/\i=.int .i64 k/\Hid (Below w.heap.size w wr)) (fun i _=>len - (intOf i).toNat);case atStart=>exact⟨0,by omega,rfl,sB _ _⟩
 case round=>
  obtain⟨k,hk,rfl,HB⟩:=hrel;by_cases hlt:k<len
  ·obtain⟨b,o,v,rfl,hb,hv,hat⟩:=cD (HR.below HB.out) hlt;obtain⟨b',o',v',rfl,hb',hv',hat'⟩:=cD (HR'.below HB.out) hlt;rw[hv] at hv';obtain rfl:=sx hv';clear hv hv';obtain⟨-,-,-,c0,c1,c2,c3,c4⟩:=aU hat;obtain⟨-,-,-,d0,d1,d2,d3,d4⟩:=aU hat';clear hat hat';have HE:=aa (fun q:Wd wr=>jo v.n v.z v.k v.x v.v q.w);have hne:=Wd.ne wr;have e0:∀q:Wd wr,q.w.cell? ⟨b,o+k*5,none⟩=some (.string v.n):=fun q=>(q.cell hb).trans c0;have e1:∀q:Wd wr,q.w.cell? ⟨b,o+k*5+1,none⟩=some (.int .i64 v.z):=fun q=>(q.cell hb).trans c1;have e2:∀q:Wd wr,q.w.cell? ⟨b,o+k*5+2,none⟩=some (.string v.k):=fun q=>(q.cell hb).trans c2;have e3:∀q:Wd wr,q.w.cell? ⟨b,o+k*5+3,none⟩=some (.bool v.x):=fun q=>(q.cell hb).trans c3;have e4:∀q:Wd wr,q.w.cell? ⟨b,o+k*5+4,none⟩=some (.string v.v):=fun q=>(q.cell hb).trans c4;have f0:∀q:Wd wr,q.w.cell? ⟨b',o'+k*5,none⟩=some (.string v.n):=fun q=>(q.cell hb').trans d0;have f1:∀q:Wd wr,q.w.cell? ⟨b',o'+k*5+1,none⟩=some (.int .i64 v.z):=fun q=>(q.cell hb').trans d1;have f2:∀q:Wd wr,q.w.cell? ⟨b',o'+k*5+2,none⟩=some (.string v.k):=fun q=>(q.cell hb').trans d2;have f3:∀q:Wd wr,q.w.cell? ⟨b',o'+k*5+3,none⟩=some (.bool v.x):=fun q=>(q.cell hb').trans d3;have f4:∀q:Wd wr,q.w.cell? ⟨b',o'+k*5+4,none⟩=some (.string v.v):=fun q=>(q.cell hb').trans d4;clear c0 c1 c2 c3 c4 d0 d1 d2 d3 d4;go_wp2_with fail;refine ah an an ?_;repeat (go_big_quiet_step (first|(go_at_call 65;exact Calls.wide (HE.out _))|fail))
   exact iY
  ·exact iN

theorem jV (a:Option Addr) (len cap:Nat) (xs:List Xd) (N:Int) (S:Nat->Prop) (w:World) (ho:ax w a len cap 5 109 (xs.map xdF) S) (hN:0<N) (hb:aw N (xs.map xdF)<=1152921504606846976) (hl:len<=9223372036854775807):
  Calls Tryz.prog 41 #[.slice a len cap,.int .i64 N] w fun e w'=>e=.returned (.int .i64 (aw N (xs.map xdF)))/\ax w' a len cap 5 109 (mkRs N (xs.map xdF)) S/\az S w w':=by
 have hxl:=ho.1;have hcp:=ho.2.1;have hcm:=ho.2.2.1;have hml:(mkRs N (xs.map xdF)).length=(xs.map xdF).length:=aW _ _;have HO:Hid (ax w a len cap 5 109 ((mkRs N (xs.map xdF)).take 0++(xs.map xdF).drop 0) S):=ix
 have HBd:=aa hb;clear ho hb;go_enter Tryz.func41,Tryz.ntmps41;go_wp2;go_loopw [1,5] (fun vk vi wr=> ∃(i:Nat) (n:Int),i<=len/\vk=.int .i64 n/\vi=.int .i64 i/\Hid (n=aw N ((xs.map xdF).take i))/\0<n/\Hid (ax wr a len cap 5 109 ((mkRs N (xs.map xdF)).take i++(xs.map xdF).drop i) S)/\Hid (az S w wr)) (fun _ vi _=>len - (intOf vi).toNat);case atStart=>exact⟨0,N,by omega,rfl,rfl,rfl,hN,HO,az.refl _ _⟩
 case round=>
  obtain⟨i,n,hi,rfl,rfl,HN,hn0,HS,HK⟩:=hrel;clear HO;by_cases hlt:i<len
  ·obtain⟨x,hx⟩:∃x,xs[i]?=some x:=⟨_,sA (by simpa using (show i<(xs.map xdF).length by omega))⟩;obtain⟨hfx,HF,hbd,hbd'⟩:=pI;obtain⟨g,rfl,hs⟩:=HS.st HK.out ((bu hml af).trans hfx);have H0:Hid (StJ g 5 109 S (fun _=>False) w wr ((mkRs N (xs.map xdF)).take i++(xs.map xdF).drop i) i [.s x.n,.i x.z,.s x.k,.b x.x,.s x.v]):=hs;clear hs hbd hx hfx HS HK;go_wp2_with fail;refine (bf _ _ af af).mono ?_;rintro e w1 ⟨rfl,hb⟩;have h1:=(H0.out).below hb;have H1:=aa h1;obtain⟨p0,c0⟩:=h1.cell (i:=0) rfl;have f0:=h1.bJ (i*5);rw[tK] at c0;obtain⟨p1,c1⟩:=h1.cell (i:=1) rfl;have f1:=h1.bJ (i*5+1);clear h1 hb H0;go_wp2_with fail;refine (bf _ _ af af).mono ?_;rintro e w2 ⟨rfl,hb⟩;obtain⟨h1,H2⟩:=mM;obtain⟨p2,c2⟩:=h1.cell (i:=2) rfl;have f2:=h1.bJ (i*5+2);obtain⟨p3,c3⟩:=h1.cell (i:=3) rfl;have f3:=h1.bJ (i*5+3);clear h1 hb H1 c0 f0 c1 f1;go_wp2_with fail;refine (bf _ _ af af).mono ?_;rintro e w3 ⟨rfl,hb⟩;have h1:=(((H2.out).bZ (i:=2) rfl _ (aS af)).eG (i:=3) rfl _).below hb;have H3:=aa h1;obtain⟨p4,c4⟩:=h1.cell (i:=4) rfl;have f4:=h1.bJ (i*5+4);clear h1 hb H2 c2 f2 c3 f3;go_wp2_with fail;have HZ:=aa ((H3.out).bZ (i:=4) rfl (aP (n+1+1+1+1).toNat) (aS af));clear H3;refine⟨⟨i+1,mkN n (xdF x),by omega,?_,by go_num,?_,?_,?_,HZ.kept⟩,by simp[intOf];omega⟩
   ·simp[mkN,mkN1,xdF,tq]
   ·rw[bh HF.out,<-HN.out];rfl
   ·simp[mkN,mkN1,xdF];omega
   ·refine ax.jg HZ.out hxl hml hcp hcm HF.out ?_;rw[<-HN.out];simp[mkR,mkF,mkN1,xdF]
  ·obtain rfl:i=len:=af
   go_wp2;go_ret;have e1:(xs.map xdF).take i=xs.map xdF:=sE af;have e2:(mkRs N (xs.map xdF)).take i++(xs.map xdF).drop i=mkRs N (xs.map xdF):=by
    exact fB
   exact iW

theorem km (a:Option Addr) (len cap:Nat) (xs:List Xd) (N:Int) (w:World) (ho:aA w a len cap 5 (mkRs N (xs.map xdF))) (hN:0<N) (hb:aw N (xs.map xdF)<=1152921504606846976) (hl:len<=9223372036854775807):
  Calls Tryz.prog 72 #[.slice a len cap,.int .i64 N] w fun e w'=>e=.returned (.int .i64 (aw N (xs.map xdF)))/\Below w.heap.size w w':=by
 have hxl:(xs.map xdF).length=len:=by rw[<-aW (xs.map xdF) N];exact ho.1
 have HR:=aa ho;have HBd:=aa hb;clear ho hb;go_enter Tryz.func72,Tryz.ntmps72;go_wp2;go_loopw [1,5] (fun vk vi wr=> ∃(i:Nat) (n:Int),i<=len/\vk=.int .i64 n/\vi=.int .i64 i/\Hid (n=aw N ((xs.map xdF).take i))/\0<n/\Hid (Below w.heap.size w wr)) (fun _ vi _=>len - (intOf vi).toNat);case atStart=>exact⟨0,N,by omega,rfl,rfl,rfl,hN,sB _ _⟩
 case round=>
  obtain⟨i,n,hi,rfl,rfl,HN,hn0,HB⟩:=hrel;by_cases hlt:i<len
  ·obtain⟨x,hx⟩:∃x,xs[i]?=some x:=⟨_,sA (by simpa using (show i<(xs.map xdF).length by omega))⟩;obtain⟨hfx,HF,hbd,hbd'⟩:=pI;obtain⟨b,o,r,rfl,hb,hr,hat⟩:=(HR.below HB.out).at hlt;rw[cW,hfx,<-HN.out] at hr;obtain rfl:=sx hr;have HA:Hid (RAt wr b (o+i*5) (xdF ⟨aP (n).toNat,n+1,aP (n+1+1).toNat,(n+1+1+1) % 3==0,aP (n+1+1+1+1).toNat⟩)):=hat;clear hat hr hbd hx hfx;obtain⟨-,-,-,c0,c1,c2,c3,c4⟩:=aU HA.out;have hne0:=Wd.ne wr;have e0:∀q:Wd wr,q.w.cell? ⟨b,o+i*5,none⟩=some (.string (aP (n).toNat)):=fun q=>(q.cell hb).trans c0;have HT:=aa (fun v:World=>bf (n) v af af);clear c0;go_wp2_with fail;refine ah an an ?_;repeat (go_big_quiet_step (first|(go_at_call 67;exact Calls.wide (HT.out _))|fail))
   refine wpQuiet_nil ?_;rintro _ ⟨q0,rfl⟩;clear e0 HT hne0 c1 c2 c3 c4;obtain⟨HA0,HB0,hb0⟩:=iG;clear HA HB hb;have HA:=HA0;have HB:=HB0;have hb:=hb0;clear HA0 HB0 hb0;obtain⟨-,-,-,c0,c1,c2,c3,c4⟩:=aU HA.out;clear c0 c3 c4;have hne1:=Wd.ne q0.w;have e2:∀q:Wd q0.w,q.w.cell? ⟨b,o+i*5+2,none⟩=some (.string (aP (n+1+1).toNat)):=fun q=>(q.cell hb).trans c2;have HT:=aa (fun v:World=>bf (n+1+1) v af af);clear c2;go_wp2_with fail;refine ah an an ?_;repeat (go_big_quiet_step (first|(go_at_call 67;exact Calls.wide (HT.out _))|fail))
   refine wpQuiet_nil ?_;rintro _ ⟨q1,rfl⟩;clear e2 HT hne1 c1;obtain⟨HA1,HB1,hb1⟩:=iF;clear HA HB hb;have HA:=HA1;have HB:=HB1;have hb:=hb1;clear HA1 HB1 hb1;obtain⟨-,-,-,c0,c1,c2,c3,c4⟩:=aU HA.out;clear c0 c1 c2;have hne2:=Wd.ne q1.w;have e4:∀q:Wd q1.w,q.w.cell? ⟨b,o+i*5+4,none⟩=some (.string (aP (n+1+1+1+1).toNat)):=fun q=>(q.cell hb).trans c4;have HT:=aa (fun v:World=>bf (n+1+1+1+1) v af af);clear c4;go_wp2_with fail;refine ah an an ?_;repeat (go_big_quiet_step (first|(go_at_call 67;exact Calls.wide (HT.out _))|fail))
   refine wpQuiet_nil ?_;rintro _ ⟨q2,rfl⟩;clear e4 HT hne2 c3;have HA2:=aa (HA.below hb q2.b);have HB2:=upB HB q2.b;have hb2:=sG hb q2.b.size;clear HA HB hb;have HA:=HA2;have HB:=HB2;have hb:=hb2;clear HA2 HB2 hb2;obtain⟨-,-,-,c0,c1,c2,c3,c4⟩:=aU HA.out;clear c0 c1 c2 c3 c4;go_wp2_with fail;refine⟨⟨i+1,mkN n (xdF x),by omega,?_,by go_num,?_,?_,HB.out⟩,by simp[intOf];omega⟩
   ·simp[mkN,mkN1,xdF,tq]
   ·rw[bh HF.out,<-HN.out];rfl
   ·simp[mkN,mkN1,xdF];omega
  ·obtain rfl:i=len:=af
   go_wp2;go_ret;have e1:(xs.map xdF).take i=xs.map xdF:=sE af;exact iS

structure Pd where
 n:ByteArray
 c:Int
 z:ByteArray
 zs:List ByteArray
 d:ByteArray
 p:Int

def pdF (x:Pd):List Fv:=[.s x.n,.i x.c,.s x.z,.l x.zs,.s x.d,.i x.p]
theorem aO {w:World} {b o:Nat} {x:Pd} (h:RAt w b o (pdF x)):∃a len cap,ar w a len cap x.zs/\x.n.size<=9223372036854775807/\x.z.size<=9223372036854775807/\x.d.size<=9223372036854775807/\w.cell? ⟨b,o,none⟩=some (.string x.n)/\w.cell? ⟨b,o+1,none⟩=some (.int .i64 x.c)/\w.cell? ⟨b,o+2,none⟩=some (.string x.z)/\w.cell? ⟨b,o+3,none⟩=some (.slice a len cap)/\w.cell? ⟨b,o+4,none⟩=some (.string x.d)/\w.cell? ⟨b,o+5,none⟩=some (.int .i64 x.p):=by
 obtain⟨v0,h0,rfl,z0⟩:=h 0 _ rfl;obtain⟨v1,h1,rfl⟩:=h 1 _ rfl;obtain⟨v2,h2,rfl,z2⟩:=h 2 _ rfl;obtain⟨v3,h3,a,len,cap,rfl,hr⟩:=h 3 _ rfl;obtain⟨v4,h4,rfl,z4⟩:=h 4 _ rfl;obtain⟨v5,h5,rfl⟩:=h 5 _ rfl;exact⟨a,len,cap,hr,z0,z2,z4,h0,h1,h2,h3,h4,h5⟩
theorem bR {w:World} {a:Option Addr} {len cap:Nat} {xs:List Pd} (h:aA w a len cap 6 (xs.map pdF)) {j:Nat} (hj:j<len):
  ∃b o x,a=some ⟨b,o,none⟩/\b<w.heap.size/\xs[j]?=some x/\RAt w b (o+j*6) (pdF x):=by
 exact iX

theorem my (a:Option Addr) (len cap:Nat) (xs:List Pd) (left:Int) (w:World) (hr:aA w a len cap 6 (xs.map pdF)) (h0:0<=left) (h1:left<=1048576):
  Calls Tryz.prog 20 #[.slice a len cap,.int .i64 left] w (SzB left (len<=1048576/\∀(j:Nat) x,xs[j]?=some x->x.zs.length<=1048576) w):=by
 obtain⟨HR,hvl⟩:=dD;have hlc:=sC hr.2.1 hr.2.2.1;clear hr;by_cases hl:left<(len:Int)
 ·go_enter Tryz.func20,Tryz.ntmps20;exact iL
 go_enter Tryz.func20,Tryz.ntmps20;go_wp2;go_loopw [1,5] (fun l i wr=> ∃(k:Nat) (m:Int),k<=len/\l=.int .i64 m/\i=.int .i64 k/\0<=m/\m<=left/\Hid (∀(j:Nat) x,j<k->xs[j]?=some x->x.zs.length<=1048576)/\Hid (Below w.heap.size w wr)) (fun _ i _=>len - (intOf i).toNat);case atStart=>exact⟨0,left - len,by omega,by go_num,rfl,by omega,by omega,fun j v hj=>by omega,sB _ _⟩
 case round=>
  obtain⟨k,m,hk,rfl,rfl,hm0,hm1,HE,HB⟩:=hrel;by_cases hlt:k<len
  ·obtain⟨b,o,v,rfl,hb,hv,hat⟩:=bR (HR.below HB.out) hlt;obtain⟨va,vl,vc,hvr,z0,z2,z4,c0,c1,c2,c3,c4,c5⟩:=aO hat;have Hz0:=aa z0;have Hz2:=aa z2;have Hz4:=aa z4;have HV:=aa hv;have HT:=aa hvr;clear hvr;clear hat hv z0 z2 z4;go_wp2_with fail;refine (lJ v.n v.c v.z va vl vc v.zs v.d v.p m _ Hz0.out Hz2.out Hz4.out HT.out hm0 af).mono ?_;rintro e w2 ⟨r,rfl,hr,hb2⟩;have HB2:=upB HB hb2;clear hb2 c0 c1 c2 c3 c4 c5;exact nu
  ·exact np

theorem oI (a a':Option Addr) (len len' cap cap':Nat) (xs:List Pd) (w:World) (hr:aA w a len cap 6 (xs.map pdF)) (hr':aA w a' len' cap' 6 (xs.map pdF)):
  Calls Tryz.prog 37 #[.slice a len cap,.slice a' len' cap'] w fun e w'=>e=.returned (.bool true)/\Below w.heap.size w w':=by
 obtain rfl:len=len':=hr.1.symm.trans hr'.1;obtain⟨HR,HR',hlc⟩:=iB;clear hr hr';go_enter Tryz.func37,Tryz.ntmps37;go_wp2;go_loopw [5] (fun i wr=> ∃k:Nat,k<=len/\i=.int .i64 k/\Hid (Below w.heap.size w wr)) (fun i _=>len - (intOf i).toNat);case atStart=>exact⟨0,by omega,rfl,sB _ _⟩
 case round=>
  obtain⟨k,hk,rfl,HB⟩:=hrel;by_cases hlt:k<len
  ·obtain⟨b,o,v,rfl,hb,hv,hat⟩:=bR (HR.below HB.out) hlt;obtain⟨b',o',v',rfl,hb',hv',hat'⟩:=bR (HR'.below HB.out) hlt;rw[hv] at hv';obtain rfl:=sx hv';clear hv hv';obtain⟨va,vl,vc,hvr,-,-,-,c0,c1,c2,c3,c4,c5⟩:=aO hat;obtain⟨va',vl',vc',hvr',-,-,-,d0,d1,d2,d3,d4,d5⟩:=aO hat';clear hat hat';have HT:=aa hvr;have HT':=aa hvr';clear hvr hvr';have HE:=aa (fun q:Wd wr=>mf v.n v.c v.z va vl vc v.zs v.d v.p va' vl' vc' q.w (HT.below q.b) (HT'.below q.b));have hne:=Wd.ne wr;have e0:∀q:Wd wr,q.w.cell? ⟨b,o+k*6,none⟩=some (.string v.n):=fun q=>(q.cell hb).trans c0;have e1:∀q:Wd wr,q.w.cell? ⟨b,o+k*6+1,none⟩=some (.int .i64 v.c):=fun q=>(q.cell hb).trans c1;have e2:∀q:Wd wr,q.w.cell? ⟨b,o+k*6+2,none⟩=some (.string v.z):=fun q=>(q.cell hb).trans c2;have e3:∀q:Wd wr,q.w.cell? ⟨b,o+k*6+3,none⟩=some (.slice va vl vc):=fun q=>(q.cell hb).trans c3;have e4:∀q:Wd wr,q.w.cell? ⟨b,o+k*6+4,none⟩=some (.string v.d):=fun q=>(q.cell hb).trans c4;have e5:∀q:Wd wr,q.w.cell? ⟨b,o+k*6+5,none⟩=some (.int .i64 v.p):=fun q=>(q.cell hb).trans c5;have f0:∀q:Wd wr,q.w.cell? ⟨b',o'+k*6,none⟩=some (.string v.n):=fun q=>(q.cell hb').trans d0;have f1:∀q:Wd wr,q.w.cell? ⟨b',o'+k*6+1,none⟩=some (.int .i64 v.c):=fun q=>(q.cell hb').trans d1;have f2:∀q:Wd wr,q.w.cell? ⟨b',o'+k*6+2,none⟩=some (.string v.z):=fun q=>(q.cell hb').trans d2;have f3:∀q:Wd wr,q.w.cell? ⟨b',o'+k*6+3,none⟩=some (.slice va' vl' vc'):=fun q=>(q.cell hb').trans d3;have f4:∀q:Wd wr,q.w.cell? ⟨b',o'+k*6+4,none⟩=some (.string v.d):=fun q=>(q.cell hb').trans d4;have f5:∀q:Wd wr,q.w.cell? ⟨b',o'+k*6+5,none⟩=some (.int .i64 v.p):=fun q=>(q.cell hb').trans d5;clear c0 c1 c2 c3 c4 c5 d0 d1 d2 d3 d4 d5;go_wp2_with fail;refine ah an an ?_;repeat (go_big_quiet_step (first|(go_at_call 66;exact Calls.wide (HE.out _))|fail))
   exact iY
  ·exact iN

theorem jX (a:Option Addr) (len cap:Nat) (xs:List Pd) (N:Int) (S:Nat->Prop) (w:World) (ho:ax w a len cap 6 103 (xs.map pdF) S) (hN:0<N) (hb:aw N (xs.map pdF)<=1152921504606846976) (hl:len<=9223372036854775807):
  Calls Tryz.prog 42 #[.slice a len cap,.int .i64 N] w fun e w'=>e=.returned (.int .i64 (aw N (xs.map pdF)))/\ax w' a len cap 6 103 (mkRs N (xs.map pdF)) S/\az S w w':=by
 have hxl:=ho.1;have hcp:=ho.2.1;have hcm:=ho.2.2.1;have hml:(mkRs N (xs.map pdF)).length=(xs.map pdF).length:=aW _ _;have HO:Hid (ax w a len cap 6 103 ((mkRs N (xs.map pdF)).take 0++(xs.map pdF).drop 0) S):=ix
 have HBd:=aa hb;clear ho hb;go_enter Tryz.func42,Tryz.ntmps42;go_wp2;go_loopw [1,5] (fun vk vi wr=> ∃(i:Nat) (n:Int),i<=len/\vk=.int .i64 n/\vi=.int .i64 i/\Hid (n=aw N ((xs.map pdF).take i))/\0<n/\Hid (ax wr a len cap 6 103 ((mkRs N (xs.map pdF)).take i++(xs.map pdF).drop i) S)/\Hid (az S w wr)) (fun _ vi _=>len - (intOf vi).toNat);case atStart=>exact⟨0,N,by omega,rfl,rfl,rfl,hN,HO,az.refl _ _⟩
 case round=>
  obtain⟨i,n,hi,rfl,rfl,HN,hn0,HS,HK⟩:=hrel;clear HO;by_cases hlt:i<len
  ·obtain⟨x,hx⟩:∃x,xs[i]?=some x:=⟨_,sA (by simpa using (show i<(xs.map pdF).length by omega))⟩;obtain⟨hfx,HF,hbd,hbd'⟩:=pO;obtain⟨g,rfl,hs⟩:=HS.st HK.out ((bu hml af).trans hfx);have H0:Hid (StJ g 6 103 S (fun _=>False) w wr ((mkRs N (xs.map pdF)).take i++(xs.map pdF).drop i) i [.s x.n,.i x.c,.s x.z,.l x.zs,.s x.d,.i x.p]):=hs;clear hs hbd hx hfx HS HK;go_wp2_with fail;refine (bf _ _ af af).mono ?_;rintro e w1 ⟨rfl,hb⟩;have h1:=(H0.out).below hb;have H1:=aa h1;obtain⟨p0,c0⟩:=h1.cell (i:=0) rfl;have f0:=h1.bJ (i*6);rw[tK] at c0;obtain⟨p1,c1⟩:=h1.cell (i:=1) rfl;have f1:=h1.bJ (i*6+1);clear h1 hb H0;go_wp2_with fail;refine (bf _ _ af af).mono ?_;rintro e w2 ⟨rfl,hb⟩;obtain⟨h1,H2⟩:=mM;obtain⟨p2,c2⟩:=h1.cell (i:=2) rfl;have f2:=h1.bJ (i*6+2);obtain⟨la,ll,lc,cl,hll⟩:=h1.slice (i:=3) rfl;clear h1 hb H1 c0 f0 c1 f1;go_wp2_with fail;refine (((H2.out).bZ (i:=2) rfl _ (aS af)).oj (i:=3) rfl ((bj af).trans (cl)) _ af af).mono ?_;rintro e w3 ⟨rfl,h1⟩;have H3:=aa h1;clear h1 cl H2 c2 f2;go_wp2_with fail;refine (bf _ _ af af).mono ?_;rintro e w4 ⟨rfl,hb⟩;have h1:=(H3.out).below hb;have H4:=aa h1;obtain⟨p4,c4⟩:=h1.cell (i:=4) rfl;have f4:=h1.bJ (i*6+4);obtain⟨p5,c5⟩:=h1.cell (i:=5) rfl;have f5:=h1.bJ (i*6+5);clear h1 hb H3;go_wp2_with fail;have HZ:=aa (((H4.out).bZ (i:=4) rfl (aP (n+1+1+1+ll).toNat) (aS af)).eF (i:=5) rfl (n+1+1+1+ll+1));clear H4;refine⟨⟨i+1,mkN n (pdF x),by omega,?_,by go_num,?_,?_,?_,HZ.kept⟩,by simp[intOf];omega⟩
   ·simp[mkN,mkN1,pdF,hll,tq]
   ·rw[bh HF.out,<-HN.out];rfl
   ·simp[mkN,mkN1,pdF];omega
   ·refine ax.jg HZ.out hxl hml hcp hcm HF.out ?_;rw[<-HN.out];simp[mkR,mkF,mkN1,pdF,hll]
  ·obtain rfl:i=len:=af
   go_wp2;go_ret;have e1:(xs.map pdF).take i=xs.map pdF:=sE af;have e2:(mkRs N (xs.map pdF)).take i++(xs.map pdF).drop i=mkRs N (xs.map pdF):=by
    exact fB
   exact iW

theorem kp (a:Option Addr) (len cap:Nat) (xs:List Pd) (N:Int) (w:World) (ho:aA w a len cap 6 (mkRs N (xs.map pdF))) (hN:0<N) (hb:aw N (xs.map pdF)<=1152921504606846976) (hl:len<=9223372036854775807):
  Calls Tryz.prog 73 #[.slice a len cap,.int .i64 N] w fun e w'=>e=.returned (.int .i64 (aw N (xs.map pdF)))/\Below w.heap.size w w':=by
 have hxl:(xs.map pdF).length=len:=by rw[<-aW (xs.map pdF) N];exact ho.1
 have HR:=aa ho;have HBd:=aa hb;clear ho hb;go_enter Tryz.func73,Tryz.ntmps73;go_wp2;go_loopw [1,5] (fun vk vi wr=> ∃(i:Nat) (n:Int),i<=len/\vk=.int .i64 n/\vi=.int .i64 i/\Hid (n=aw N ((xs.map pdF).take i))/\0<n/\Hid (Below w.heap.size w wr)) (fun _ vi _=>len - (intOf vi).toNat);case atStart=>exact⟨0,N,by omega,rfl,rfl,rfl,hN,sB _ _⟩
 case round=>
  obtain⟨i,n,hi,rfl,rfl,HN,hn0,HB⟩:=hrel;by_cases hlt:i<len
  ·obtain⟨x,hx⟩:∃x,xs[i]?=some x:=⟨_,sA (by simpa using (show i<(xs.map pdF).length by omega))⟩;obtain⟨hfx,HF,hbd,hbd'⟩:=pO;obtain⟨b,o,r,rfl,hb,hr,hat⟩:=(HR.below HB.out).at hlt;rw[cW,hfx,<-HN.out] at hr;obtain rfl:=sx hr;have HA:Hid (RAt wr b (o+i*6) (pdF ⟨aP (n).toNat,n+1,aP (n+1+1).toNat,b8 (n+1+1+1) x.zs.length,aP (n+1+1+1+x.zs.length).toNat,n+1+1+1+x.zs.length+1⟩)):=hat;clear hat hr hbd hx hfx;obtain⟨va,vl,vc,hvr,-,-,-,c0,c1,c2,c3,c4,c5⟩:=aO HA.out;have HL:=aa hvr;have hvl:=hvr.1;rw[aF] at hvl;clear hvr;clear HL hvl;have hne0:=Wd.ne wr;have e0:∀q:Wd wr,q.w.cell? ⟨b,o+i*6,none⟩=some (.string (aP (n).toNat)):=fun q=>(q.cell hb).trans c0;have HT:=aa (fun v:World=>bf (n) v af af);clear c0;go_wp2_with fail;refine ah an an ?_;repeat (go_big_quiet_step (first|(go_at_call 67;exact Calls.wide (HT.out _))|fail))
   refine wpQuiet_nil ?_;rintro _ ⟨q0,rfl⟩;clear e0 HT hne0 c1 c2 c3 c4 c5;obtain⟨HA0,HB0,hb0⟩:=iG;clear HA HB hb;have HA:=HA0;have HB:=HB0;have hb:=hb0;clear HA0 HB0 hb0;obtain⟨va,vl,vc,hvr,-,-,-,c0,c1,c2,c3,c4,c5⟩:=aO HA.out;have HL:=aa hvr;have hvl1:=hvr.1;rw[aF] at hvl1;clear hvr;clear c0 c3 c4 c5;clear HL hvl1;have hne1:=Wd.ne q0.w;have e2:∀q:Wd q0.w,q.w.cell? ⟨b,o+i*6+2,none⟩=some (.string (aP (n+1+1).toNat)):=fun q=>(q.cell hb).trans c2;have HT:=aa (fun v:World=>bf (n+1+1) v af af);clear c2;go_wp2_with fail;refine ah an an ?_;repeat (go_big_quiet_step (first|(go_at_call 67;exact Calls.wide (HT.out _))|fail))
   refine wpQuiet_nil ?_;rintro _ ⟨q1,rfl⟩;clear e2 HT hne1 c1;obtain⟨HA1,HB1,hb1⟩:=iF;clear HA HB hb;have HA:=HA1;have HB:=HB1;have hb:=hb1;clear HA1 HB1 hb1;obtain⟨va,vl,vc,hvr,-,-,-,c0,c1,c2,c3,c4,c5⟩:=aO HA.out;have HL:=aa hvr;have hvl2:=hvr.1;rw[aF] at hvl2;clear hvr;clear c0 c1 c2 c4 c5;subst hvl2;go_wp2_with fail;refine (oE va _ vc _ _ (by exact HL.out) af af).mono ?_;rintro e w2 ⟨rfl,hbq⟩;have HA2:=aa (HA.below hb hbq);have HB2:=upB HB hbq;have hb2:=sG hb hbq.size;clear HA HB hb HL c3 hbq;have HA:=HA2;have HB:=HB2;have hb:=hb2;clear HA2 HB2 hb2;obtain⟨va,vl,vc,hvr,-,-,-,c0,c1,c2,c3,c4,c5⟩:=aO HA.out;have HL:=aa hvr;have hvl3:=hvr.1;rw[aF] at hvl3;clear hvr;clear HL;clear c0 c1 c2 c3 c5;clear hvl3;have hne3:=Wd.ne w2;have e4:∀q:Wd w2,q.w.cell? ⟨b,o+i*6+4,none⟩=some (.string (aP (n+1+1+1+x.zs.length).toNat)):=fun q=>(q.cell hb).trans c4;have HT:=aa (fun v:World=>bf (n+1+1+1+x.zs.length) v af af);clear c4;go_wp2_with fail;refine ah an an ?_;repeat (go_big_quiet_step (first|(go_at_call 67;exact Calls.wide (HT.out _))|fail))
   refine wpQuiet_nil ?_;rintro _ ⟨q3,rfl⟩;clear e4 HT hne3;have HA3:=aa (HA.below hb q3.b);have HB3:=upB HB q3.b;have hb3:=sG hb q3.b.size;clear HA HB hb;have HA:=HA3;have HB:=HB3;have hb:=hb3;clear HA3 HB3 hb3;obtain⟨va,vl,vc,hvr,-,-,-,c0,c1,c2,c3,c4,c5⟩:=aO HA.out;have HL:=aa hvr;have hvl4:=hvr.1;rw[aF] at hvl4;clear hvr;clear c0 c1 c2 c3 c4;clear HL hvl4;go_wp2_with fail;refine⟨⟨i+1,mkN n (pdF x),by omega,?_,by go_num,?_,?_,HB.out⟩,by simp[intOf];omega⟩
   ·simp[mkN,mkN1,pdF,tq]
   ·rw[bh HF.out,<-HN.out];rfl
   ·simp[mkN,mkN1,pdF];omega
  ·obtain rfl:i=len:=af
   go_wp2;go_ret;have e1:(xs.map pdF).take i=xs.map pdF:=sE af;exact iS

structure Cl where
 ns:List Nd
 ks:List Kd
 vs:List Vd
 xs:List Xd
 ps:List Pd
 now:Int
structure Cr where
 n:List (List Fv)
 k:List (List Fv)
 v:List (List Fv)
 x:List (List Fv)
 p:List (List Fv)
def Cl.raw (c:Cl):Cr:=⟨c.ns.map ndF,c.ks.map kdF,c.vs.map vdF,c.xs.map xdF,c.ps.map pdF⟩
structure Ad where
 a1:Option Addr
 l1:Nat
 c1:Nat
 a2:Option Addr
 l2:Nat
 c2:Nat
 a3:Option Addr
 l3:Nat
 c3:Nat
 a4:Option Addr
 l4:Nat
 c4:Nat
 a5:Option Addr
 l5:Nat
 c5:Nat
@[reducible] def clv (d:Ad) (n:Int):Array Value:=#[.slice d.a1 d.l1 d.c1,.slice d.a2 d.l2 d.c2,.slice d.a3 d.l3 d.c3,.slice d.a4 d.l4 d.c4,.slice d.a5 d.l5 d.c5,.int .i64 n]
@[reducible] def clo6 (a1:Option Addr) (l1 y1:Nat) (a2:Option Addr) (l2 y2:Nat) (a3:Option Addr) (l3 y3:Nat) (a4:Option Addr) (l4 y4:Nat) (a5:Option Addr) (l5 y5:Nat) (n:Int):Array Value:=#[.slice a1 l1 y1,.slice a2 l2 y2,.slice a3 l3 y3,.slice a4 l4 y4,.slice a5 l5 y5,.int .i64 n]
@[reducible] def trv (d:Ad) (c:Cl) (p:Pd) (n:Nd) (pa:Option Addr) (pl pc:Nat) (na:Option Addr) (nl nc:Nat):Array Value:=#[.slice d.a1 d.l1 d.c1,.slice d.a2 d.l2 d.c2,.slice d.a3 d.l3 d.c3,.slice d.a4 d.l4 d.c4,.slice d.a5 d.l5 d.c5,.int .i64 c.now,.string p.n,.int .i64 p.c,.string p.z,.slice pa pl pc,.string p.d,.int .i64 p.p,.string n.n,.string n.z,.int .i64 n.c,.int .i64 n.s,.int .i64 n.u,.bool n.d,.slice na nl nc]
@[reducible] def vov (v:Vd) (a:Option Addr) (l k:Nat):Array Value:=#[.string v.n,.int .i64 v.c,.string v.z,.string v.k,.bool v.x,.string v.m,.bool v.y,.slice a l k]
@[reducible] def pov (p:Pd) (a:Option Addr) (l k:Nat):Array Value:=#[.string p.n,.int .i64 p.c,.string p.z,.slice a l k,.string p.d,.int .i64 p.p]
@[reducible] def nov (n:Nd) (a:Option Addr) (l k:Nat):Array Value:=#[.string n.n,.string n.z,.int .i64 n.c,.int .i64 n.s,.int .i64 n.u,.bool n.d,.slice a l k]
@[reducible] def xov (x:Xd):Array Value:=#[.string x.n,.int .i64 x.z,.string x.k,.bool x.x,.string x.v]
structure aL (w:World) (d:Ad) (c:Cr):Prop where
 n:aA w d.a1 d.l1 d.c1 7 c.n
 k:aA w d.a2 d.l2 d.c2 4 c.k
 v:aA w d.a3 d.l3 d.c3 8 c.v
 x:aA w d.a4 d.l4 d.c4 5 c.x
 p:aA w d.a5 d.l5 d.c5 6 c.p
theorem aL.below {w w':World} {d:Ad} {c:Cr} (h:aL w d c) (hb:Below w.heap.size w w'):aL w' d c:=⟨h.n.below hb,h.k.below hb,h.v.below hb,h.x.below hb,h.p.below hb⟩
structure dm (w:World) (d:Ad) (c:Cr) (S:Nat->Prop) (P:Nat->Nat):Prop where
 n:ax w d.a1 d.l1 d.c1 7 56 c.n (fun k=>S k/\P k=1)
 k:ax w d.a2 d.l2 d.c2 4 106 c.k (fun k=>S k/\P k=2)
 v:ax w d.a3 d.l3 d.c3 8 101 c.v (fun k=>S k/\P k=3)
 x:ax w d.a4 d.l4 d.c4 5 109 c.x (fun k=>S k/\P k=4)
 p:ax w d.a5 d.l5 d.c5 6 103 c.p (fun k=>S k/\P k=5)
def bs (w:World) (d:Ad) (c:Cr) (S:Nat->Prop):Prop:=∃P,dm w d c S P
theorem dm.row {w:World} {d:Ad} {c:Cr} {S:Nat->Prop} {P:Nat->Nat} (h:dm w d c S P):aL w d c:=⟨h.n.row,h.k.row,h.v.row,h.x.row,h.p.row⟩
theorem bs.row {w:World} {d:Ad} {c:Cr} {S:Nat->Prop} (h:bs w d c S):aL w d c:=by obtain⟨P,h⟩:=h;exact h.row
theorem dm.aI {w w':World} {d:Ad} {c:Cr} {S S':Nat->Prop} {P:Nat->Nat} (h:dm w d c S P) (hk:∀k,k<w.heap.size->S k->w'.heap[k]?=w.heap[k]?) (hs:∀k,k<w.heap.size->S k->S' k):dm w' d c S' P:=
 ⟨h.n.aI (fun k hl s=>hk k hl s.1) (fun k hl s=>⟨hs k hl s.1,s.2⟩),h.k.aI (fun k hl s=>hk k hl s.1) (fun k hl s=>⟨hs k hl s.1,s.2⟩),h.v.aI (fun k hl s=>hk k hl s.1) (fun k hl s=>⟨hs k hl s.1,s.2⟩),h.x.aI (fun k hl s=>hk k hl s.1) (fun k hl s=>⟨hs k hl s.1,s.2⟩),h.p.aI (fun k hl s=>hk k hl s.1) (fun k hl s=>⟨hs k hl s.1,s.2⟩)⟩
theorem bs.below {w w':World} {d:Ad} {c:Cr} {S:Nat->Prop} (h:bs w d c S) (hb:Below w.heap.size w w'):bs w' d c S:=by
 obtain⟨P,h⟩:=h;exact⟨P,h.aI (fun k hk _=>hb.block k hk) (fun _ _ s=>s)⟩
theorem bs.kept {w w':World} {d:Ad} {c:Cr} {S S':Nat->Prop} (h:bs w d c S) (hb:az S' w w') (hd:∀k,S k->¬S' k):bs w' d c S:=by
 obtain⟨P,h⟩:=h;exact⟨P,h.aI (fun k hk s=>hb.block k hk (hd k s)) (fun _ _ s=>s)⟩
theorem bs.da {w:World} {d:Ad} {c:Cr} {S S':Nat->Prop} (h:bs w d c S) (hs:∀k,k<w.heap.size->S k->S' k):bs w d c S':=by
 obtain⟨P,h⟩:=h;exact⟨P,h.aI (fun _ _ _=>rfl) hs⟩
def mkC (N:Int) (c:Cr):Cr:=⟨mkRs N c.n,mkRs (aw N c.n) c.k,mkRs (aw (aw N c.n) c.k) c.v,mkRs (aw (aw (aw N c.n) c.k) c.v) c.x,mkRs (aw (aw (aw (aw N c.n) c.k) c.v) c.x) c.p⟩
def cj (N:Int) (c:Cr):Int:=(aw (aw (aw (aw (aw N c.n) c.k) c.v) c.x) c.p)
theorem gG (N:Int) (c:Cr):N<=cj N c:=sV (av _ _) (sV (av _ _) (sV (av _ _) (sV (av _ _) (av _ _))))
theorem oh (N:Int) (c:Cr):aw N c.n<=cj N c:=(sV (sV (sV (sV (Int.le_refl _) (av _ _)) (av _ _)) (av _ _)) (av _ _))
theorem oi (N:Int) (c:Cr):aw (aw N c.n) c.k<=cj N c:=(sV (sV (sV (Int.le_refl _) (av _ _)) (av _ _)) (av _ _))
theorem oe (N:Int) (c:Cr):aw (aw (aw N c.n) c.k) c.v<=cj N c:=(sV (sV (Int.le_refl _) (av _ _)) (av _ _))
theorem od (N:Int) (c:Cr):aw (aw (aw (aw N c.n) c.k) c.v) c.x<=cj N c:=(sV (Int.le_refl _) (av _ _))
theorem og (N:Int) (c:Cr):aw (aw (aw (aw (aw N c.n) c.k) c.v) c.x) c.p<=cj N c:=(Int.le_refl _)

theorem dJ (d d':Ad) (c:Cl) (w:World) (hr:aL w d c.raw) (hr':aL w d' c.raw):
  Calls Tryz.prog 10 #[.agg #[.slice d.a1 d.l1 d.c1,.slice d.a2 d.l2 d.c2,.slice d.a3 d.l3 d.c3,.slice d.a4 d.l4 d.c4,.slice d.a5 d.l5 d.c5,.int .i64 c.now],.agg #[.slice d'.a1 d'.l1 d'.c1,.slice d'.a2 d'.l2 d'.c2,.slice d'.a3 d'.l3 d'.c3,.slice d'.a4 d'.l4 d'.c4,.slice d'.a5 d'.l5 d'.c5,.int .i64 c.now]] w fun e w'=>e=.returned (.bool true)/\Below w.heap.size w w':=by
 have HR:=aa (hr.below (aB w (.cells (clv d c.now) 36) (.cells (clv d' c.now) 36)));have HR':=aa (hr'.below (aB w (.cells (clv d c.now) 36) (.cells (clv d' c.now) 36)));have HB0:=aa (aB w (.cells (clv d c.now) 36) (.cells (clv d' c.now) 36));have HG0:=aa (cY w (.cells (clv d c.now) 36) (.cells (clv d' c.now) 36));have HG1:=aa (bB w (.cells (clv d c.now) 36) (.cells (clv d' c.now) 36));clear hr hr';go_enter Tryz.func10,Tryz.ntmps10;go_wp2_with fail;refine (oJ d.a1 d'.a1 d.l1 d'.l1 d.c1 d'.c1 c.ns _ HR.n HR'.n).mono ?_;rintro e w1 ⟨rfl,hb⟩;have HR1:=aa (HR.below hb);have HR'1:=aa (HR'.below hb);have HB1:=aa (HB0.trans (hb.mono (HB0.size)));have HG01:=upK HG0 hb;have HG11:=upK HG1 hb;clear hb HR HR' HB0 HG0 HG1;have HR:=HR1;have HR':=HR'1;have HG0:=HG01;have HG1:=HG11;clear HR1 HR'1 HG01 HG11;have c0:=ck1 HG0;have c1:=ck1 HG1;go_wp2_with fail;refine (oK d.a2 d'.a2 d.l2 d'.l2 d.c2 d'.c2 c.ks _ HR.k HR'.k).mono ?_;rintro e w2 ⟨rfl,hb⟩;have HR2:=aa (HR.below hb);have HR'2:=aa (HR'.below hb);have HB2:=aa (HB1.trans (hb.mono (HB1.size)));have HG02:=upK HG0 hb;have HG12:=upK HG1 hb;clear hb HR HR' HB1 HG0 HG1 c0 c1;have HR:=HR2;have HR':=HR'2;have HG0:=HG02;have HG1:=HG12;clear HR2 HR'2 HG02 HG12;have c0:=ck2 HG0;have c1:=ck2 HG1;go_wp2_with fail;refine (oH d.a3 d'.a3 d.l3 d'.l3 d.c3 d'.c3 c.vs _ HR.v HR'.v).mono ?_;rintro e w3 ⟨rfl,hb⟩;have HR3:=aa (HR.below hb);have HR'3:=aa (HR'.below hb);have HB3:=aa (HB2.trans (hb.mono (HB2.size)));have HG03:=upK HG0 hb;have HG13:=upK HG1 hb;clear hb HR HR' HB2 HG0 HG1 c0 c1;have HR:=HR3;have HR':=HR'3;have HG0:=HG03;have HG1:=HG13;clear HR3 HR'3 HG03 HG13;have c0:=ck3 HG0;have c1:=ck3 HG1;go_wp2_with fail;refine (oG d.a4 d'.a4 d.l4 d'.l4 d.c4 d'.c4 c.xs _ HR.x HR'.x).mono ?_;rintro e w4 ⟨rfl,hb⟩;have HR4:=aa (HR.below hb);have HR'4:=aa (HR'.below hb);have HB4:=aa (HB3.trans (hb.mono (HB3.size)));have HG04:=upK HG0 hb;have HG14:=upK HG1 hb;clear hb HR HR' HB3 HG0 HG1 c0 c1;have HR:=HR4;have HR':=HR'4;have HG0:=HG04;have HG1:=HG14;clear HR4 HR'4 HG04 HG14;have c0:=ck4 HG0;have c1:=ck4 HG1;go_wp2_with fail;refine (oI d.a5 d'.a5 d.l5 d'.l5 d.c5 d'.c5 c.ps _ HR.p HR'.p).mono ?_;rintro e w5 ⟨rfl,hb⟩;have HR5:=aa (HR.below hb);have HR'5:=aa (HR'.below hb);have HB5:=aa (HB4.trans (hb.mono (HB4.size)));have HG05:=upK HG0 hb;have HG15:=upK HG1 hb;clear hb HR HR' HB4 HG0 HG1 c0 c1;have HR:=HR5;have HR':=HR'5;have HG0:=HG05;have HG1:=HG15;clear HR5 HR'5 HG05 HG15;have c0:=ck5 HG0;have c1:=ck5 HG1;go_wp2;go_ret;exact⟨rfl,HB5.out⟩

theorem c_ (d:Ad) (c:Cl) (N:Int) (S:Nat->Prop) (w:World) (ho:bs w d c.raw S) (hS:∀k,S k->k<w.heap.size) (hN:0<N) (hb:cj N c.raw<=1152921504606846976):
  Calls Tryz.prog 11 #[.agg #[.slice d.a1 d.l1 d.c1,.slice d.a2 d.l2 d.c2,.slice d.a3 d.l3 d.c3,.slice d.a4 d.l4 d.c4,.slice d.a5 d.l5 d.c5,.int .i64 c.now],.int .i64 N] w fun e w'=>e=.returned (.int .i64 (cj N c.raw))/\bs w' d (mkC N c.raw) S/\az S w w':=by
 obtain⟨P,ho⟩:=ho;have h1:=ho.aI (w':=w.alloc (.cells (clv d c.now) 36)) (fun k hk _=>(aj w _).block k hk) (fun _ _ s=>s);have O1:=aa h1.n;have O2:=aa h1.k;have O3:=aa h1.v;have O4:=aa h1.x;have O5:=aa h1.p;have HK0:Hid (az S w (w.alloc (.cells (clv d c.now) 36))):=az.ct (aj w _);have HG0:Hid ((w.alloc (.cells (clv d c.now) 36)).heap[w.heap.size]?=some (.cells (clv d c.now) 36 (0,0))):=sH;have hnn:¬S w.heap.size:=fun s=>Nat.lt_irrefl _ (hS _ s);have HNN:=aa hnn;have HBd:=aa hb;clear ho h1 hS hnn hb;go_enter Tryz.func11,Tryz.ntmps11;go_wp2_with fail;refine (jY d.a1 d.l1 d.c1 c.ns (N) _ _ (by exact O1.out) hN (sV (oh N c.raw) HBd.out) (sC O1.2.1 O1.2.2.1)).mono ?_;rintro e w1 ⟨rfl,ho,hk⟩;have M1:=aa ho;have O21:=aa (O2.kept hk (fun k s q=>by have h1:=s.2;have h2:=q.2;omega));have O31:=aa (O3.kept hk (fun k s q=>by have h1:=s.2;have h2:=q.2;omega));have O41:=aa (O4.kept hk (fun k s q=>by have h1:=s.2;have h2:=q.2;omega));have O51:=aa (O5.kept hk (fun k s q=>by have h1:=s.2;have h2:=q.2;omega));have HK1:=aa (HK0.trans (hk.mono (fun _ s=>s.1)));have HG1:=aa ((hk.block _ (ae HG0.out) (fun s=>HNN.out s.1)).trans HG0.out);clear ho hk HK0 HG0 O1 O2 O3 O4 O5;have O2:=O21;clear O21;have O3:=O31;clear O31;have O4:=O41;clear O41;have O5:=O51;clear O51;have c0:=ck1 HG1;go_wp2_with fail;refine (jZ d.a2 d.l2 d.c2 c.ks (aw N (c.ns.map ndF)) _ _ (by exact O2.out) (sI hN (av _ _)) (sV (oi N c.raw) HBd.out) (sC O2.2.1 O2.2.2.1)).mono ?_;rintro e w2 ⟨rfl,ho,hk⟩;have M2:=aa ho;have M12:=aa (M1.kept hk (fun k s q=>by have h1:=s.2;have h2:=q.2;omega));have O32:=aa (O3.kept hk (fun k s q=>by have h1:=s.2;have h2:=q.2;omega));have O42:=aa (O4.kept hk (fun k s q=>by have h1:=s.2;have h2:=q.2;omega));have O52:=aa (O5.kept hk (fun k s q=>by have h1:=s.2;have h2:=q.2;omega));have HK2:=aa (HK1.trans (hk.mono (fun _ s=>s.1)));have HG2:=aa ((hk.block _ (ae HG1.out) (fun s=>HNN.out s.1)).trans HG1.out);clear ho hk HK1 HG1 M1 O2 O3 O4 O5 c0;have M1:=M12;clear M12;have O3:=O32;clear O32;have O4:=O42;clear O42;have O5:=O52;clear O52;have c0:=ck2 HG2;go_wp2_with fail;refine (jW d.a3 d.l3 d.c3 c.vs (aw (aw N (c.ns.map ndF)) (c.ks.map kdF)) _ _ (by exact O3.out) (sI (sI hN (av _ _)) (av _ _)) (sV (oe N c.raw) HBd.out) (sC O3.2.1 O3.2.2.1)).mono ?_;rintro e w3 ⟨rfl,ho,hk⟩;have M3:=aa ho;have M13:=aa (M1.kept hk (fun k s q=>by have h1:=s.2;have h2:=q.2;omega));have M23:=aa (M2.kept hk (fun k s q=>by have h1:=s.2;have h2:=q.2;omega));have O43:=aa (O4.kept hk (fun k s q=>by have h1:=s.2;have h2:=q.2;omega));have O53:=aa (O5.kept hk (fun k s q=>by have h1:=s.2;have h2:=q.2;omega));have HK3:=aa (HK2.trans (hk.mono (fun _ s=>s.1)))
 have HG3:=aa ((hk.block _ (ae HG2.out) (fun s=>HNN.out s.1)).trans HG2.out);clear ho hk HK2 HG2 M1 M2 O3 O4 O5 c0;have M1:=M13;clear M13;have M2:=M23;clear M23;have O4:=O43;clear O43;have O5:=O53;clear O53;have c0:=ck3 HG3;go_wp2_with fail;refine (jV d.a4 d.l4 d.c4 c.xs (aw (aw (aw N (c.ns.map ndF)) (c.ks.map kdF)) (c.vs.map vdF)) _ _ (by exact O4.out) (sI (sI (sI hN (av _ _)) (av _ _)) (av _ _)) (sV (od N c.raw) HBd.out) (sC O4.2.1 O4.2.2.1)).mono ?_;rintro e w4 ⟨rfl,ho,hk⟩;have M4:=aa ho;have M14:=aa (M1.kept hk (fun k s q=>by have h1:=s.2;have h2:=q.2;omega));have M24:=aa (M2.kept hk (fun k s q=>by have h1:=s.2;have h2:=q.2;omega));have M34:=aa (M3.kept hk (fun k s q=>by have h1:=s.2;have h2:=q.2;omega));have O54:=aa (O5.kept hk (fun k s q=>by have h1:=s.2;have h2:=q.2;omega));have HK4:=aa (HK3.trans (hk.mono (fun _ s=>s.1)));have HG4:=aa ((hk.block _ (ae HG3.out) (fun s=>HNN.out s.1)).trans HG3.out);clear ho hk HK3 HG3 M1 M2 M3 O4 O5 c0;have M1:=M14;clear M14;have M2:=M24;clear M24;have M3:=M34;clear M34;have O5:=O54;clear O54;have c0:=ck4 HG4;go_wp2_with fail;refine (jX d.a5 d.l5 d.c5 c.ps (aw (aw (aw (aw N (c.ns.map ndF)) (c.ks.map kdF)) (c.vs.map vdF)) (c.xs.map xdF)) _ _ (by exact O5.out) (sI (sI (sI (sI hN (av _ _)) (av _ _)) (av _ _)) (av _ _)) (sV (og N c.raw) HBd.out) (sC O5.2.1 O5.2.2.1)).mono ?_;rintro e w5 ⟨rfl,ho,hk⟩;have M5:=aa ho;have M15:=aa (M1.kept hk (fun k s q=>by have h1:=s.2;have h2:=q.2;omega));have M25:=aa (M2.kept hk (fun k s q=>by have h1:=s.2;have h2:=q.2;omega));have M35:=aa (M3.kept hk (fun k s q=>by have h1:=s.2;have h2:=q.2;omega));have M45:=aa (M4.kept hk (fun k s q=>by have h1:=s.2;have h2:=q.2;omega));have HK5:=aa (HK4.trans (hk.mono (fun _ s=>s.1)));clear ho hk HK4 HG4 M1 M2 M3 M4 O5 c0;have M1:=M15;clear M15;have M2:=M25;clear M25;have M3:=M35;clear M35;have M4:=M45;clear M45;go_wp2_with fail;go_ret;exact⟨rfl,⟨P,M1.out,M2.out,M3.out,M4.out,M5.out⟩,HK5.out⟩

theorem fe (d:Ad) (c:Cl) (now N:Int) (w:World) (hr:aL w d (mkC N c.raw)) (hN:0<N) (hb:cj N c.raw<=1152921504606846976):
  Calls Tryz.prog 43 #[.agg #[.slice d.a1 d.l1 d.c1,.slice d.a2 d.l2 d.c2,.slice d.a3 d.l3 d.c3,.slice d.a4 d.l4 d.c4,.slice d.a5 d.l5 d.c5,.int .i64 now],.int .i64 N] w fun e w'=>e=.returned (.int .i64 (cj N c.raw))/\Below w.heap.size w w':=by
 have HR:=aa (hr.below (aj w (.cells (clv d now) 36)));have HB0:=aa (aj w (.cells (clv d now) 36));have HG0:Hid ((w.alloc (.cells (clv d now) 36)).heap[w.heap.size]?=some (.cells (clv d now) 36 (0,0))):=sH;have HBd:=aa hb;clear hr hb;have p1:¬aw N (c.ns.map ndF)<0:=Int.not_lt.2 (Int.le_of_lt (sI hN (av _ _)));have p2:¬aw (aw N (c.ns.map ndF)) (c.ks.map kdF)<0:=Int.not_lt.2 (Int.le_of_lt (sI (sI hN (av _ _)) (av _ _)));have p3:¬aw (aw (aw N (c.ns.map ndF)) (c.ks.map kdF)) (c.vs.map vdF)<0:=Int.not_lt.2 (Int.le_of_lt (sI (sI (sI hN (av _ _)) (av _ _)) (av _ _)));have p4:¬aw (aw (aw (aw N (c.ns.map ndF)) (c.ks.map kdF)) (c.vs.map vdF)) (c.xs.map xdF)<0:=Int.not_lt.2 (Int.le_of_lt (sI (sI (sI (sI hN (av _ _)) (av _ _)) (av _ _)) (av _ _)));have p5:¬aw (aw (aw (aw (aw N (c.ns.map ndF)) (c.ks.map kdF)) (c.vs.map vdF)) (c.xs.map xdF)) (c.ps.map pdF)<0:=Int.not_lt.2 (Int.le_of_lt (sI (sI (sI (sI (sI hN (av _ _)) (av _ _)) (av _ _)) (av _ _)) (av _ _)));go_enter Tryz.func43,Tryz.ntmps43;go_wp2_with fail;refine (kr d.a1 d.l1 d.c1 c.ns (N) _ (by exact HR.n) hN (sV (oh N c.raw) HBd.out) (sC HR.n.2.1 HR.n.2.2.1)).mono ?_;rintro e w1 ⟨rfl,hb⟩;have HR1:=aa (HR.below hb);have HB1:=aa (HB0.trans (hb.mono (HB0.size)));have HG1:=upK HG0 hb;clear hb HR HB0 HG0;have HR:=HR1;clear HR1;have c0:=ck1 HG1;go_wp2_with fail;refine (kt d.a2 d.l2 d.c2 c.ks (aw N (c.ns.map ndF)) _ (by exact HR.k) (sI hN (av _ _)) (sV (oi N c.raw) HBd.out) (sC HR.k.2.1 HR.k.2.2.1)).mono ?_;rintro e w2 ⟨rfl,hb⟩;have HR2:=aa (HR.below hb);have HB2:=aa (HB1.trans (hb.mono (HB1.size)));have HG2:=upK HG1 hb;clear hb HR HB1 HG1 c0;have HR:=HR2;clear HR2;have c0:=ck2 HG2;go_wp2_with fail;refine (ko d.a3 d.l3 d.c3 c.vs (aw (aw N (c.ns.map ndF)) (c.ks.map kdF)) _ (by exact HR.v) (sI (sI hN (av _ _)) (av _ _)) (sV (oe N c.raw) HBd.out) (sC HR.v.2.1 HR.v.2.2.1)).mono ?_;rintro e w3 ⟨rfl,hb⟩;have HR3:=aa (HR.below hb);have HB3:=aa (HB2.trans (hb.mono (HB2.size)));have HG3:=upK HG2 hb;clear hb HR HB2 HG2 c0;have HR:=HR3;clear HR3;have c0:=ck3 HG3;go_wp2_with fail;refine (km d.a4 d.l4 d.c4 c.xs (aw (aw (aw N (c.ns.map ndF)) (c.ks.map kdF)) (c.vs.map vdF)) _ (by exact HR.x) (sI (sI (sI hN (av _ _)) (av _ _)) (av _ _)) (sV (od N c.raw) HBd.out) (sC HR.x.2.1 HR.x.2.2.1)).mono ?_
 rintro e w4 ⟨rfl,hb⟩;have HR4:=aa (HR.below hb);have HB4:=aa (HB3.trans (hb.mono (HB3.size)));have HG4:=upK HG3 hb;clear hb HR HB3 HG3 c0;have HR:=HR4;clear HR4;have c0:=ck4 HG4;go_wp2_with fail;refine (kp d.a5 d.l5 d.c5 c.ps (aw (aw (aw (aw N (c.ns.map ndF)) (c.ks.map kdF)) (c.vs.map vdF)) (c.xs.map xdF)) _ (by exact HR.p) (sI (sI (sI (sI hN (av _ _)) (av _ _)) (av _ _)) (av _ _)) (sV (og N c.raw) HBd.out) (sC HR.p.2.1 HR.p.2.2.1)).mono ?_;rintro e w5 ⟨rfl,hb⟩;have HR5:=aa (HR.below hb);have HB5:=aa (HB4.trans (hb.mono (HB4.size)));clear hb HR HB4 HG4 c0;have HR:=HR5;clear HR5;go_wp2_with fail;go_ret;exact⟨rfl,HB5.out⟩

end Rc
end Go.Proofs.YtdfgbboadbnodaaGreatDoor

namespace Go.Proofs.YtdfgbboadbnodaaGreatDoor
open Go.RowKit
namespace Rc

theorem dh:∀x:List UInt8,sJ x x=false
 | []=>rfl
 | a ::x=>by simp[sJ,dh x]
theorem dN:∀x y z:List UInt8,sJ x y=true->sJ y z=true->sJ x z=true
 | _,[],_,h,_=>by cases ‹List UInt8› <;> simp[sJ] at h
 | _,_ ::_,[],_,h=>by simp[sJ] at h
 | [],_ ::_,_ ::_,_,_=>rfl
 | a ::x,b ::y,c ::z,h,k=>by
  simp only[sJ,Bool.or_eq_true,decide_eq_true_eq,tl,beq_iff_eq] at h k ⊢;rcases h with h|⟨rfl,h⟩
  ·rcases k with k|⟨rfl,k⟩
   ·exact .inl (UInt8.lt_trans h k)
   ·exact .inl h
  ·rcases k with k|⟨rfl,k⟩
   ·exact .inl k
   ·exact .inr ⟨rfl,dN x y z h k⟩
section
variable {α:Type} {nm:α->ByteArray} {xs:List α} {t:ByteArray}
def aG (nm:α->ByteArray) (xs:List α):Prop:=∀(j:Nat) x y,xs[j+1]?=some x->xs[j]?=some y->sJ (nm y).toList (nm x).toList=true
theorem aG.lt (h:aG nm xs) {i j:Nat} {x y:α} (hij:i<j) (hi:xs[i]?=some x) (hj:xs[j]?=some y):sJ (nm x).toList (nm y).toList=true:=by
 induction j generalizing y with
 | zero=>omega
 | succ j ih=>
  by_cases e:i=j
  ·subst e;exact h i y x hj hi
  ·have hl:j<xs.length:=by have:=(sv.1 hj).1;omega
   have hz:xs[j]?=some (xs[j]'hl):=sA _;exact dN _ _ _ (ih af hz) (h j y _ hj hz)
theorem aG.inj (h:aG nm xs) {i j:Nat} {x y:α} (hi:xs[i]?=some x) (hj:xs[j]?=some y) (e:nm x=nm y):i=j/\x=y:=by
 have hij:i=j:=by
  rcases Nat.lt_trichotomy i j with k|k|k
  ·have:=h.lt k hi hj;rw[e,dh] at this;cases this
  ·exact k
  ·have:=h.lt k hj hi;rw[e,dh] at this;cases this
 subst hij;rw[hi] at hj;exact⟨rfl,sx hj⟩
def pl (nm:α->ByteArray) (xs:List α) (t:ByteArray):Nat:=xs.findIdx (fun x=> !sJ (nm x).toList t.toList)
def hit (nm:α->ByteArray) (xs:List α) (t:ByteArray):Bool:=match xs[pl nm xs t]? with|some x=>(nm x).toList==t.toList|none=>false
theorem n9 {k:Nat} {x:α} (h:∀(j:Nat) y,j<k->xs[j]?=some y->sJ (nm y).toList t.toList=true) (hx:xs[k]?=some x) (hl:sJ (nm x).toList t.toList=false):pl nm xs t=k:=by
 have hk:k<xs.length:=(sv.1 hx).1;have hxe:xs[k]=x:=(sv.1 hx).2;unfold pl;rw[List.findIdx_eq hk];refine⟨by rw[hxe,hl];rfl,fun j hj=>?_⟩;rw[h j _ hj (sA af)];rfl
theorem fG (h:∀(j:Nat) y,xs[j]?=some y->sJ (nm y).toList t.toList=true):pl nm xs t=xs.length:=by
 unfold pl;rw[List.findIdx_eq_length];intro x hx;obtain⟨j,hj,rfl⟩:=List.mem_iff_getElem.1 hx;rw[h j _ (sA hj)];rfl
theorem gz {a b:ByteArray} (h:(a.toList==b.toList)=true):a=b:=by
 by_cases e:a=b
 ·exact e
 ·rw[bz e] at h;cases h
theorem cx (hr:aG nm xs) {j:Nat} {x:α} (hx:xs[j]?=some x) (hn:nm x=t):pl nm xs t=j/\hit nm xs t=true:=by
 have h:pl nm xs t=j:=n9 (fun i y hi hy=>by rw[<-hn];exact hr.lt hi hy hx) hx (by rw[hn];exact dh _);refine⟨h,?_⟩;unfold hit;rw[h,hx];exact ba hn
theorem ri (h:∀(j:Nat) x,xs[j]?=some x->¬nm x=t):hit nm xs t=false:=by
 unfold hit;split
 ·next x hx=>exact bz (h _ x hx)
 ·rfl
theorem er (h:hit nm xs t=true):∃x,xs[pl nm xs t]?=some x/\nm x=t:=by
 unfold hit at h;split at h
 ·next x hx=>exact⟨x,hx,gz h⟩
 ·cases h
def cA (ok:α->Prop) (nm:α->ByteArray) (xs:List α) (most:Int):Prop:=(xs.length:Int)<=most/\(∀(j:Nat) x,xs[j]?=some x->ok x)/\aG nm xs
end
theorem al.yes {p:Prop} {w w':World} {e:Ending} (h:al p w e w') (hp:p):e=.returned (.bool true)/\Below w.heap.size w w':=by
 obtain⟨r,rfl,hr,hb⟩:=h;exact⟨by rw[hr.2 hp],hb⟩
theorem al.no {p:Prop} {w w':World} {e:Ending} (h:al p w e w') (hp:¬p):e=.returned (.bool false)/\Below w.heap.size w w':=by
 obtain⟨r,rfl,hr,hb⟩:=h;cases r
 ·exact⟨rfl,hb⟩
 ·exact absurd (hr.1 rfl) hp
theorem al.t {p:Prop} {w w':World} (hp:p) (hb:Below w.heap.size w w'):al p w (.returned (.bool true)) w':=⟨true,rfl,⟨fun _=>hp,fun _=>rfl⟩,hb⟩
theorem al.f {p:Prop} {w w':World} (hp:¬p) (hb:Below w.heap.size w w'):al p w (.returned (.bool false)) w':=⟨false,rfl,⟨fun h=>(by cases h),fun h=>absurd h hp⟩,hb⟩
def jU (x:Nd):Prop:=kD x.n x.z x.c x.s x.u x.zs
def j7 (x:Kd):Prop:=gW x.n x.z
def jy (v:Vd):Prop:=oN v.n v.c v.z v.k v.x v.m v.y v.zs
def ju (x:Xd):Prop:=gX x.n x.z x.k x.v
def jQ (x:Pd):Prop:=oO x.n x.c x.z x.zs x.d x.p

end Rc
end Go.Proofs.YtdfgbboadbnodaaGreatDoor
