import Derived.Lib.ItoaNum
import Derived.Test.YtbbdcjbfnjlndaaGreatDoorRows
import Derived.WalkKit
import Derived.WalkSpells
import Derived.OwnWalk
import Derived.Outline
import Derived.Laws.Cover1
import Derived.Lib.BufferWrite
import Derived.Laws.CopyOwn
import Derived.Deep.QuietTactic
import Derived.BigQuiet
import Derived.WalkSmall
import Derived.Laws.IdiomStrings
/-
 The mathematics of numbers in digits: what digits say, and that digits are got back.
-/
set_option maxRecDepth 100000
set_option maxHeartbeats 12800000
open And renaming intro→xf
open Array renaming getElem?_push_size→xt, getD_eq_getD_getElem?→xv, getElem?_eq_some_iff→xA, getElem?_setIfInBounds→xJ, getElem?_setIfInBounds_self_of_lt→yI, getElem?_eq_getElem→yO
open Bool renaming and_eq_true→yk, or_eq_true→yX
open Go.Act renaming put→yx
open Go.Addr renaming add_lit→xB
open Go.Builtin renaming append_→xU
open Go.Calls renaming quiet_of_same→xI
open Go.Lib renaming decDigits→yE, toList_data→yY
open Go.Op renaming bytesLess→xn
open Go.Region renaming ready→xY, binds→yp, wanted→yA
open Go.RowKit.Below renaming heap_setCell→xi, refl→xj, heap_alloc→xM
open Go.Value renaming string→xo
open Go.Value.slice renaming injEq→yQ
open Go.World renaming setCell→xZ
open Int renaming lt_of_lt_of_le→xy, le_trans→xQ, add_assoc→yv
open List renaming getElem?_eq_some_iff→xe, lookup→xg, getElem?_eq_getElem→xm, getElem?_map→xq, take_of_length_le→xw, mem_of_getElem?→xD, length_take→xE, getElem?_take→xF, set_cons_zero→xG, length_append→xO, length_map→xR, getElem?_of_mem→xS, mem_cons→xV, getElem?_drop→xX, take_add_one→yb, length_drop→yf, getElem?_eq_none→yi, range→yt, append_assoc→yz, mem_cons_self→yD, drop_eq_getElem_cons→yG, pairwise_append→yJ, pairwise_cons→yL, mem_cons_of_mem→zd
open Nat renaming le_refl→xk, le_trans→xp, lt_of_lt_of_le→xr, le_succ→xC, zero_add→xL, add_zero→yC
open Option renaming map_eq_some_iff→xu
open Option.some renaming inj→xh, injEq→ym
open UInt8 renaming lt_iff_toNat_lt→yN
namespace Go.Proofs.YtbbdcjbfnjlndaaGreatDoor
theorem af {p:Prop} (h:p:=by omega):p:=h
theorem an {p:Prop} (h:p:=by kernel_rfl):p:=h
theorem bJ {p:Prop} (h:p:=by unfold maxLen;omega):p:=h
theorem aT {p:Prop} (h:p:=by simp):p:=h
theorem bX {p:Prop} (h:p:=by simp;omega):p:=h
theorem dA {p:Prop} (h:p:=by simpa using hr.1):p:=h
theorem bM {p:Prop} (h:p:=by cases h):p:=h
theorem nA {p:Prop} (h:p:=by rw[xF,if_pos hij];exact xm _):p:=h
theorem nu {p:Prop} (h:p:=by rw[xF,if_pos hij];exact hp):p:=h
theorem nt {p:Prop} (h:p:=by rw[hk] at hsz;simp at hsz;omega):p:=h
theorem gK {p:Prop} (h:p:=by rw[hz2];omega):p:=h
theorem ka {p:Prop} (h:p:=by simpa[Hid] using ho):p:=h
theorem tA {p:Prop} (h:p:=by have:=sX (by omega) (by omega) e2;exact⟨this.1.symm,this.2.symm⟩):p:=h
end Go.Proofs.YtbbdcjbfnjlndaaGreatDoor
namespace Go.Proofs.YtbbdcjbfnjlndaaGreatDoor
theorem ed {p:Prop} (h:p:=by
 have HN:=aa (fun h=>hq (hr.2 h));clear hr;go_wp2_with fail;go_ret;exact⟨false,rfl,⟨fun h=>bM,fun h=>(HN.out (h.1)).elim⟩,al _ _⟩):p:=h
theorem fi {p:Prop} (h:p:=by
 have HN:=aa (fun h=>hq (hr.2 h));clear hr;go_wp2_with fail;go_ret;exact⟨false,rfl,⟨fun h=>bM,fun h=>(HN.out (h.2.2.1)).elim⟩,al _ _⟩):p:=h
theorem fh {p:Prop} (h:p:=by
 have HN:=aa (fun h=>hq (hr.2 h));clear hr;go_wp2_with fail;go_ret;exact⟨false,rfl,⟨fun h=>bM,fun h=>(HN.out (h.2.1)).elim⟩,al _ _⟩):p:=h
theorem ra {p:Prop} (h:p:=by
 intro j o ho t ht i p hp hd;have hj:j<front.length:=(xe.1 ho).1;have hi:i<front.length:=(xe.1 hp).1;have:=List.all_eq_true.1 h3 j (List.mem_range.2 hj);rw[ho] at this;have:=List.all_eq_true.1 this t ht;have:=List.all_eq_true.1 this i (List.mem_range.2 hi);rw[hp] at this;simp only[hd,bne_self_eq_false,Bool.false_or,yk,decide_eq_true_eq] at this;obtain⟨h6,h7⟩:=this;obtain⟨k,hk,hx⟩:=Array.any_eq_true.1 h7;simp only[yk,beq_iff_eq] at hx;exact⟨h6,_,Array.getElem_mem hk,hx.1,hx.2⟩):p:=h
theorem ve {p:Prop} (h:p:=by
 have e:aI a0 (knAll [] front φs) (fun t=>a.tmps.getD t undef)=a:=by
  refine s9 ((cv _ _ _).trans h.size.symm) ((cw _ _ _).trans h.defers.symm) (fun t=>fj a0 a _ (fun p hp=>?_) t (fun hn=>?_))
  ·rcases cH front φs [] hp with ⟨i,o,h1,h2,h3⟩|h1
   ·exact hin o (xD h1) _ h2
   ·simp at h1
  ·refine h.other t (fun i o ho hd=>?_);exfalso;have hi:=(xe.1 ho).1;have hφ:φs[i]?=some (φs[i]'(by omega)):=xm _;cases hk:(knAll [] front φs).lookup t with
   | none=>exact (cd front φs [] hk).2 i o _ ho hφ hd
   | some φ=>
    have:∃p∈knAll [] front φs,p.1=t:=by
     revert hk
     generalize knAll [] front φs=l
     intro hk
     induction l with
     | nil=>simp at hk
     | cons p l ih=>
      rw[List.lookup_cons] at hk
      cases hb:t==p.1 with
      | true=>exact⟨p,by simp,(by simpa using hb:t=p.1).symm⟩
      | false=>
       rw[hb] at hk;obtain⟨q,hq,he⟩:=ih hk;exact⟨q,by simp[hq],he⟩
    obtain⟨p,hp,he⟩:=this;exact hn p hp he
 rw[e] at h1;exact h1):p:=h
theorem iF {p:Prop} (h:p:=by
 have HN:=aa (fun h=>hq (hr.2 h));clear hr;go_wp2_with fail;go_ret;exact⟨false,rfl,⟨fun h=>bM,fun h=>(HN.out (h.2.2.2.1)).elim⟩,al _ _⟩):p:=h
theorem qy {p:Prop} (h:p:=by
 rcases hr with rfl|⟨hr0,hr1,hvl2⟩
 ·go_wp2;go_ret;exact⟨-1,rfl,.inl rfl,HB2.out⟩
 ·go_wp2;refine⟨⟨k+1,r,by omega,by go_num,by go_num,by omega,by omega,fun j x hj hx=>?_,HB2.out⟩,by simp[intOf];omega⟩;by_cases e:j=k
  ·subst e;rw[HV.out] at hx;obtain rfl:=xh hx;rw[HT.1];exact hvl2
  ·exact HE.out j x af hx):p:=h
theorem iE {p:Prop} (h:p:=by
 obtain⟨b,o,r,h1,h2,h3,h4⟩:=h.at hj;rw[xq] at h3;obtain⟨x,h5,rfl⟩:=xu.1 h3;exact⟨b,o,x,h1,h2,h5,h4⟩):p:=h
theorem kM {p:Prop} (h:p:=by
 have HN:=aa (fun h=>hq (hr.2 h));clear hr;go_wp2_with fail;go_ret;exact⟨false,rfl,⟨fun h=>bM,fun h=>(HN.out (h.2.2.2.2.1)).elim⟩,al _ _⟩):p:=h
theorem kL {p:Prop} (h:p:=by
 refine wpQuiet_nil ?_;rintro _ ⟨q,rfl⟩;go_wp2_with fail;exact⟨⟨k+1,by omega,by go_num,HB.trans (q.b.mono HB.size)⟩,by simp[intOf];omega⟩):p:=h
theorem kK {p:Prop} (h:p:=by
 refine⟨congrArg (fun z=>Ending.returned (.int .i64 z)) (HN.trans (by rw[e1])),?_,HK.out⟩;have:=HS.out;rw[e2] at this;exact this):p:=h
theorem uZ {p:Prop} (h:p:=by
 induction known with
 | nil=>exact (h (fun p hp=>by simp at hp)).symm
 | cons p l ih=>
  have e:aI a0 (p ::l) (fun t=>a.tmps.getD t undef)=(aI a0 l (fun t=>a.tmps.getD t undef)).put (some p.1) (a.tmps.getD p.1 undef):=rfl;rw[e,eh,cv]
  by_cases hp:p.1=t
  ·subst hp;rw[if_pos ⟨rfl,hk p aT⟩]
  ·rw[if_neg (fun h=>hp h.1)]
   exact ih (fun q hq=>hk q (by simp[hq])) (fun hn=>h (fun q hq=>by
    rcases xV.1 hq with rfl|hq
    ·exact hp
    ·exact hn q hq))):p:=h
theorem uY {p:Prop} (h:p:=by
 intro t ht;have hne:o.dst≠some t:=fun hd=>by
  have:=ht j o ho hd;simp[xv,hj] at this
 have h1:=h.other t (fun i p hp hd=>by
  have h2:=ht i p hp hd
  have e:¬j=i:=fun e=>by subst e;exact hne (by rw[xh (ho.symm.trans hp)];exact hd)
  simpa[xv,xJ,e] using h2)
 exact qJ):p:=h
theorem uX {p:Prop} (h:p:=by
 rcases h with ⟨h,rfl⟩|⟨k,_,rfl,_,_⟩
 ·exact⟨.inl,fun h1=>h1.elim id (fun e=>e ▸ h)⟩
 ·have h1:s∈zs↔s∈zs.take k\/s∈zs.drop k:=by rw[<-List.mem_append,List.take_append_drop]
  rw[List.mem_append,List.mem_append,List.mem_singleton,h1];constructor
  ·rintro ((h|h)|h)
   ·exact .inl (.inl h)
   ·exact .inr h
   ·exact .inl (.inr h)
  ·rintro ((h|h)|h)
   ·exact .inl (.inl h)
   ·exact .inr h
   ·exact .inl (.inr h)):p:=h
theorem nO {p:Prop} (h:p:=by
 cases hk:back with
 | none=>rw[hk] at h1;exact h1
 | some o=>
  have h2:=hb o hk;rw[hall _ (by rw[hsz,hk];simp)] at h2
  cases h2):p:=h
theorem uU {p:Prop} (h:p:=by
 obtain⟨h1,h2⟩:=cd l φs (kn o.dst ψ known) h;rw[fO] at h1;by_cases hd:o.dst=some t
 ·rw[if_pos hd] at h1;cases h1
 ·rw[if_neg hd] at h1;refine⟨h1,fun i o' φ h3 h4=>?_⟩;cases i with
  | zero=>simp only[List.getElem?_cons_zero,ym] at h3;subst h3;exact hd
  | succ i=>exact h2 i o' φ (by simpa using h3) (by simpa using h4)):p:=h
theorem nM {p:Prop} (h:p:=by
 go_wp2;go_round;case rel=>exact⟨k+1,by omega,by go_num,iH hlt HB.out HA.out⟩
 case measure=>simp[intOf];omega):p:=h
theorem uS {p:Prop} (h:p:=by
 obtain⟨φ,hφ,ho,hr⟩:=h;obtain⟨φs,hl,hs,hf⟩:=Grow.spec l _ hr;refine⟨φ ::φs,by simp[hl],?_,hf⟩;intro i o' φ' h1 h2;cases i with
 | zero=>
  simp only[List.getElem?_cons_zero,ym] at h1 h2;subst h1;subst h2;exact⟨hφ,ho⟩
 | succ i=>
  simp only[List.getElem?_cons_succ] at h1 h2
  simpa[knAll] using hs i o' φ' h1 h2):p:=h
theorem kG {p:Prop} (h:p:=by
 exact⟨congrArg (fun z=>Ending.returned (.int .i64 z)) (HN.trans (by rw[e1])),HB.out⟩):p:=h
theorem qv {p:Prop} (h:p:=by
 obtain rfl:k=len:=af
 go_wp2;go_ret;exact⟨m,rfl,.inr ⟨hm0,hm1,by omega,fun j v hv=>HE.out j v (by have:=(xe.1 hv).1;omega) hv⟩,HB.out⟩):p:=h
theorem uR {p:Prop} (h:p:=by
 rcases cH l φs (kn o.dst ψ known) h with ⟨i,o',h1,h2,h3⟩|h
 ·exact .inl ⟨i+1,o',by simpa using h1,h2,by simpa using h3⟩
 ·cases hd:o.dst with
  | none=>rw[hd] at h;exact .inr h
  | some d=>
   rw[hd] at h;simp only[kn,xV] at h
   rcases h with rfl|h
   ·exact .inl ⟨0,o,rfl,hd,rfl⟩
   ·exact .inr h):p:=h
theorem uQ {p:Prop} (h:p:=by
 go_wp2_with fail;refine (n_ a a' len len' cap cap' zs zs _ (HR.below (aM _ _ _)) (HR'.below (aM _ _ _))).mono ?_;rintro e w1 ⟨r,rfl,hr,hb⟩;obtain rfl:r=true:=hr.2 rfl;clear hr;have HB:Hid (Below w.heap.size w w1):=(aM _ _ _).trans (hb.mono bX);go_wp2_with fail;go_ret;exact⟨rfl,HB.out⟩):p:=h
theorem uN {p:Prop} (h:p:=by
 go_wp2_with fail;refine (nf a len cap zs _ _ (HR.below (al _ _)) af af).mono ?_;rintro e w1 ⟨r,rfl,hr,rfl⟩;rcases hr with rfl|⟨hr0,hr1,hr2⟩
 ·go_wp2;go_ret;exact⟨-1,rfl,.inl rfl,al _ _⟩
 go_wp2;go_ret;exact⟨_,rfl,.inr ⟨by omega,by omega,by omega⟩,al _ _⟩):p:=h
theorem uL {p:Prop} (h:p:=by
 rcases b_ l φs (kn o.dst ψ known) h with ⟨i,o',h1,h2,h3⟩|h
 ·exact .inl ⟨i+1,o',by simpa using h1,h2,by simpa using h3⟩
 ·rw[fO] at h;by_cases hd:o.dst=some t
  ·rw[if_pos hd] at h;exact .inl ⟨0,o,rfl,hd,by simpa using h⟩
  ·rw[if_neg hd] at h;exact .inr h):p:=h
theorem nK {p:Prop} (h:p:=by
 have:=List.count_le_length (a:=false) (l:=(Array.replicate l.toArray.size false).toList);simp at this ⊢):p:=h
theorem uJ {p:Prop} (h:p:=by
 intro j o ho e he;have hj:j<(front++back.toList).toArray.size:=(xA.1 ho).1;have:=List.all_eq_true.1 h4 j (List.mem_range.2 hj);rw[ho] at this;have:=Array.all_eq_true.1 this;obtain⟨k,hk,rfl⟩:=Array.mem_iff_getElem.1 he;simpa using this k hk):p:=h
theorem kA {p:Prop} (h:p:=by
 obtain rfl:k=len:=af
 go_wp2;go_ret;exact⟨rfl,HB.out⟩):p:=h
theorem qm {p:Prop} (h:p:=by
 go_wp2_with (go_at_call 111;refine (jj _ _ _ _).mono ?_;rintro e w1 ⟨r,rfl,hr,rfl⟩);go_ret;exact⟨r,rfl,hr,rfl⟩):p:=h
theorem uz {p:Prop} (h:p:=by
 cases d with
 | none=>simp[kn]
 | some d=>
  simp only[kn,ym,List.lookup_cons]
  by_cases h:d=t
  ·subst h;simp
  ·rw[if_neg h]
   have:(t==d)=false:=by simpa using fun e=>h e.symm
   rw[this]):p:=h
theorem uw {p:Prop} (h:p:=by
 intro a w K h1 h2 h3 h4;have hw:yA o (yielded ops a.tmps)=true:=by simp[yA,hg]
 rw[if_pos hw];exact h a w K h1 h2 (fun t ht=>h3 t (by unfold Oper.looksAt;exact List.mem_append_left _ ht)) h4):p:=h
theorem uu {p:Prop} (h:p:=by
 intro o ho i hi;subst ho;have:=List.all_eq_true.1 h5 i (List.mem_range.2 hi);obtain⟨k,hk,hx⟩:=Array.any_eq_true.1 this;simp only[yk,beq_iff_eq] at hx;exact⟨_,Array.getElem_mem hk,hx.1,hx.2⟩):p:=h
theorem ur {p:Prop} (h:p:=by
 exact aL af (aL af (aL af (aL af (aL af (aL af (aL af (aL af (aL af (HG.out)))))))))):p:=h
theorem uq {p:Prop} (h:p:=by
 exact ah af (ah af (ah af (ah af (ah af (ah af (ah af (ah af (ah af (HB.out)))))))))):p:=h
theorem uk {p:Prop} (h:p:=by
 rcases hr with rfl|⟨hr0,hr1,hvl2⟩
 ·go_wp2;go_ret;exact⟨-1,rfl,.inl rfl,HB2.out⟩
 ·go_wp2;exact⟨⟨k+1,r,by omega,by go_num,by go_num,by omega,by omega,HB2.out⟩,by simp[intOf];omega⟩):p:=h
theorem kx {p:Prop} (h:p:=by
 go_wp2;go_ret;exact⟨-1,rfl,.inl rfl,xj _ _⟩):p:=h
theorem nJ {p:Prop} (h:p:=by
 obtain⟨l',rfl⟩:=List.getLast?_eq_some_iff.1 hb;rw[<-hf];simp):p:=h
theorem rN {p:Prop} (h:p:=by
 have HN:=aa (fun h=>hq (hr.2 h));clear hsl hb hb1 hr;go_wp2_with fail;go_ret;exact⟨false,rfl,⟨fun h=>bM,fun h=>(HN.out (dD h.2.2.2.2.2.2)).elim⟩,HB.out⟩):p:=h
theorem jf {p:Prop} (h:p:=by
 go_wp2;go_ret;exact⟨false,rfl,by unfold bc;simp;omega,rfl⟩):p:=h
theorem jd {p:Prop} (h:p:=by
 have:=List.all_eq_true.1 h2 o ho;rw[ht] at this;simpa using this):p:=h
theorem lX {p:Prop} (h:p:=by
 go_enter Tryz.func56,Tryz.ntmps56;go_wp2;go_ret;exact⟨-1,rfl,.inl rfl,al _ _⟩):p:=h
theorem rH {p:Prop} (h:p:=by
 rcases h with ⟨_,rfl⟩|⟨k,hk,rfl,_,_⟩
 ·omega
 ·simp only[xO,xE,yf,List.length_singleton];omega):p:=h
theorem rE {p:Prop} (h:p:=by
 rw[Array.getElem?_setIfInBounds_ne (fun e2=>hne tA)];exact k1):p:=h
theorem rB {p:Prop} (h:p:=by
 obtain⟨j,hj⟩:=xS ha;rw[xF] at hj;split at hj
 ·next hjk=>exact hlt j a hjk hj
 ·cases hj):p:=h
theorem ru {p:Prop} (h:p:=by
 go_wp2;go_ret;refine⟨true,rfl,?_,rfl⟩;simp only[true_iff];exact⟨by omega,by omega,fun i h=>HA.out i h af⟩):p:=h
theorem rj {p:Prop} (h:p:=by
 rw[ht,eh,if_pos ⟨rfl,by rw[h.size];exact hin o (xD ho) t ht⟩];exact hv):p:=h
theorem ri {p:Prop} (h:p:=by
 obtain rfl:k=len:=af
 go_wp2;go_ret;exact⟨m,rfl,.inr ⟨hm0,hm1,by omega⟩,HB.out⟩):p:=h
theorem gS {p:Prop} (h:p:=by
 rw[xw af,List.drop_of_length_le af,List.append_nil]):p:=h
theorem ja {p:Prop} (h:p:=by
 go_enter Tryz.func55,Tryz.ntmps55;go_wp2;go_ret;exact⟨-1,rfl,.inl rfl,al _ _⟩):p:=h
theorem qQ {p:Prop} (h:p:=by
 rintro e w1 ⟨r,rfl,hr,rfl⟩;go_wp2_with fail;go_ret;exact⟨r,rfl,⟨fun h=>⟨h0.out,h1.out,h2.out,hr.1 h⟩,fun h=>hr.2 h.2.2.2⟩,al _ _⟩):p:=h
theorem qL {p:Prop} (h:p:=by
 rintro e w1 ⟨r,rfl,hr,rfl⟩;go_wp2_with fail;go_ret;exact⟨r,rfl,⟨fun h=>⟨h0.out,hr.1 h⟩,fun h=>hr.2 h.2⟩,al _ _⟩):p:=h
theorem qJ {p:Prop} (h:p:=by
 cases hd:o.dst with
 | none=>exact h1
 | some d=>
  rw[eh,if_neg (fun hx=>hne (hd.trans (by rw[hx.1])))];exact h1):p:=h
theorem qG {p:Prop} (h:p:=by
 go_wp2;go_ret;exact⟨false,rfl,⟨fun h=>bM,fun h=>absurd (h.2.2.2.2.2.1 rfl) hm0⟩,al _ _⟩):p:=h
theorem eG {p:Prop} (h:p:=by
 have HR:=aa hr;have hvl:xs.length=len:=dA
 exact xf HR hvl):p:=h
theorem ub {p:Prop} (h:p:=by
 have hfx:(xs.map pdF)[i]?=some (pdF x):=by rw[xq,hx];rfl
 have HF:=aa hfx;have hbd:mkN n (pdF x)<=1152921504606846976:=by rw[HN.out];exact xQ (hJ hfx N) HBd.out
 have hbd':n+5+x.zs.length<=1152921504606846976:=by simpa[mkN,mkN1,pdF,yv,Int.add_comm,Int.add_left_comm] using hbd
 exact xf hfx (xf HF (xf hbd hbd'))):p:=h
theorem kp {p:Prop} (h:p:=by
 have HA0:=aa (HA.below hb q0.b);have HB0:=upB HB q0.b;have hb0:=xr hb q0.b.size;exact xf HA0 (xf HB0 hb0)):p:=h
theorem ko {p:Prop} (h:p:=by
 have HA1:=aa (HA.below hb q1.b);have HB1:=upB HB q1.b;have hb1:=xr hb q1.b.size;exact xf HA1 (xf HB1 hb1)):p:=h
theorem tX {p:Prop} (h:p:=by
 have hfx:(xs.map ndF)[i]?=some (ndF x):=by rw[xq,hx];rfl
 have HF:=aa hfx;have hbd:mkN n (ndF x)<=1152921504606846976:=by rw[HN.out];exact xQ (hJ hfx N) HBd.out
 have hbd':n+6+x.zs.length<=1152921504606846976:=by simpa[mkN,mkN1,ndF,yv] using hbd
 exact xf hfx (xf HF (xf hbd hbd'))):p:=h
theorem tW {p:Prop} (h:p:=by
 have hfx:(xs.map vdF)[i]?=some (vdF x):=by rw[xq,hx];rfl
 have HF:=aa hfx;have hbd:mkN n (vdF x)<=1152921504606846976:=by rw[HN.out];exact xQ (hJ hfx N) HBd.out
 have hbd':n+7+x.zs.length<=1152921504606846976:=by simpa[mkN,mkN1,vdF,yv] using hbd
 exact xf hfx (xf HF (xf hbd hbd'))):p:=h
theorem tV {p:Prop} (h:p:=by
 have hfx:(xs.map kdF)[i]?=some (kdF x):=by rw[xq,hx];rfl
 have HF:=aa hfx;have hbd:mkN n (kdF x)<=1152921504606846976:=by rw[HN.out];exact xQ (hJ hfx N) HBd.out
 have hbd':n+3+1<=1152921504606846976:=by simpa[mkN,mkN1,kdF,yv] using hbd
 exact xf hfx (xf HF (xf hbd hbd'))):p:=h
theorem tU {p:Prop} (h:p:=by
 have hfx:(xs.map xdF)[i]?=some (xdF x):=by rw[xq,hx];rfl
 have HF:=aa hfx;have hbd:mkN n (xdF x)<=1152921504606846976:=by rw[HN.out];exact xQ (hJ hfx N) HBd.out
 have hbd':n+4+1<=1152921504606846976:=by simpa[mkN,mkN1,xdF,yv] using hbd
 exact xf hfx (xf HF (xf hbd hbd'))):p:=h
theorem tL {p:Prop} (h:p:=by
 have HG:=aa hG;have HB:Hid (Below w.heap.size w w1):=(bS _ _ _ _).trans (hb.mono af);have c20:=ck0 g2;have c10:=ck0 g1;have f10:=aw g1 0;have c21:=ck1 g2;have c11:=ck1 g1;have f11:=aw g1 1;have c22:=ck2 g2;have c12:=ck2 g1;have f12:=aw g1 2;have c23:=ck3 g2;have c13:=ck3 g1;have f13:=aw g1 3;have c24:=ck4 g2;have c14:=ck4 g1;have f14:=aw g1 4;have c25:=ck5 g2;have c15:=ck5 g1;have f15:=aw g1 5;have c26:=ck6 g2;exact xf HG (xf HB (xf c20 (xf c10 (xf f10 (xf c21 (xf c11 (xf f11 (xf c22 (xf c12 (xf f12 (xf c23 (xf c13 (xf f13 (xf c24 (xf c14 (xf f14 (xf c25 (xf c15 (xf f15 c26)))))))))))))))))))):p:=h
theorem kh {p:Prop} (h:p:=by
 have HR:=aa hr;have HR':=aa hr';have hlc:=xp hr.2.1 hr.2.2.1;exact xf HR (xf HR' hlc)):p:=h
theorem pV {p:Prop} (h:p:=by
 have h1:=(((H1.out).cP (i:=0) rfl _ (ba af)).gm (i:=1) rfl _).below hb;have H2:=aa h1;exact xf h1 H2):p:=h
end Go.Proofs.YtbbdcjbfnjlndaaGreatDoor
namespace Go.Proofs.YtbbdcjbfnjlndaaGreatDoor

theorem o7 {k:Nat} (h:k<10):(UInt8.ofNat (48+k)).toNat=48+k:=by
 rw[UInt8.toNat_ofNat'];omega
theorem oa {u k:Nat} (h:u<10 ^ (k+1)):(yE u).length<=k+1:=by
 induction k generalizing u with
 | zero=>rw[yE,dif_pos (by simpa using h)];simp
 | succ k ih=>
  rw[yE]
  split
  ·simp
  ·rw[xO];have:=@ih (u / 10) (by rw[Nat.pow_succ] at h;omega)
   simp;omega
theorem sw (u:Nat) (h:0<u) (r:List UInt8):(if u / 10=0 then [] else yE (u / 10))++(UInt8.ofNat (48+u % 10) ::r)=yE u++r:=by
 conv=>rhs;rw[yE]
 split
 ·rename_i h1;rw[dif_pos af,Nat.mod_eq_of_lt af];rfl
 ·rename_i h1;rw[dif_neg af];simp

end Go.Proofs.YtbbdcjbfnjlndaaGreatDoor

namespace Go.Proofs.YtbbdcjbfnjlndaaGreatDoor
open Go.RowKit

def ik (b:Int):Bool:=decide (97<=b) && decide (b<=122)
def s8 (b:Int):Bool:=decide (48<=b) && decide (b<=57)
def nbB (b:Int):Bool:=ik b || s8 b || decide (b=95)
def okB (i:Nat) (b:Int):Bool:=if i=0 then ik b else nbB b
def bc (s:ByteArray):Prop:=1<=s.size/\s.size<=20/\∀i (h:i<s.size),okB i ((s[i]'h).toNat:Int)=true
def bW (p:Prop) (w:World) (e:Ending) (w':World):Prop:=∃r:Bool,e=.returned (.bool r)/\(r=true↔p)/\w=w'
theorem j9 {a b:Bool} (h:a=b):Ending.returned (.bool a)=.returned (.bool b):=by rw[h]

theorem nV (b:Int) (w:World):
  Calls Tryz.prog 211 #[.int .u8 b] w fun e w'=>e=.returned (.bool (ik b))/\w=w':=by
 go_enter Tryz.func211,Tryz.ntmps211;go_wp2;all_goals (go_ret;exact⟨j9 (by unfold ik;rw[Bool.eq_iff_iff];simp;omega),rfl⟩)

theorem rP (b:Int) (w:World):
  Calls Tryz.prog 212 #[.int .u8 b] w fun e w'=>e=.returned (.bool (nbB b))/\w=w':=by
 go_enter Tryz.func212,Tryz.ntmps212;go_wp2;all_goals (go_ret;exact⟨j9 (by unfold nbB ik s8;rw[Bool.eq_iff_iff];simp;omega),rfl⟩)

theorem fm {s:ByteArray} {k:Nat} (hlt:k<s.size) (h:okB k ((s[k]'hlt).toNat:Int)=false):(false=true↔bc s):=by
 constructor
 ·intro h;cases h
 ·intro h3;have:=h3.2.2 k hlt;rw[h] at this;exact this
theorem iH {s:ByteArray} {k:Nat} (hlt:k<s.size) (h:okB k ((s[k]'hlt).toNat:Int)=true) (ha:∀i (h:i<s.size),i<k->okB i ((s[i]'h).toNat:Int)=true):
  ∀i (h:i<s.size),i<k+1->okB i ((s[i]'h).toNat:Int)=true:=by
 intro i hi hk;by_cases e:i=k
 ·subst e;exact h
 ·exact ha i hi af

theorem aW (s:ByteArray) (w:World) (hs:s.size<=9223372036854775807):
  Calls Tryz.prog 164 #[.string s] w (bW (bc s) w):=by
 by_cases h1:s.size<1
 ·go_enter Tryz.func164,Tryz.ntmps164;exact jf
 by_cases h2:20<s.size
 ·go_enter Tryz.func164,Tryz.ntmps164;exact jf
 go_enter Tryz.func164,Tryz.ntmps164;go_wp2;go_loop [3] (fun i=> ∃k:Nat,k<=s.size/\i=.int .i64 k/\∀i (h:i<s.size),i<k->okB i ((s[i]'h).toNat:Int)=true) (fun i=>s.size - (intOf i).toNat);case atStart=>exact⟨0,by omega,rfl,fun i _ h=>by omega⟩
 case round=>
  obtain⟨k,hk,rfl,hall⟩:=hrel;have HA:Hid (∀i (h:i<s.size),i<k->okB i ((s[i]'h).toNat:Int)=true):=hall;clear hall;by_cases hlt:k<s.size
  ·cases hok:okB k ((s[k]'hlt).toNat:Int)
   ·have HB:Hid (okB k ((s[k]'hlt).toNat:Int)=false):=hok;by_cases hk0:k=0
    ·have hkb:((k:Int)==0)=true:=by simp[hk0]
     have hk1:k<1:=af
     unfold okB ik at hok;rw[if_pos hk0] at hok;simp only[Bool.and_eq_false_iff,decide_eq_false_iff_not] at hok;clear hk0;rcases (show ((s[k]'hlt).toNat:Int)<97\/(97<=((s[k]'hlt).toNat:Int)/\122<((s[k]'hlt).toNat:Int)) by omega) with hA|⟨hA,hB⟩;all_goals
      clear hok
      go_wp2
      all_goals first|(exfalso;rename_i hx;simp at hx;omega)|(go_ret;exact⟨false,rfl,fm hlt HB.out,rfl⟩)
    ·have hkb:((k:Int)==0)=false:=by simp[hk0]
     unfold okB nbB ik s8 at hok;rw[if_neg hk0] at hok;simp only[Bool.or_eq_false_iff,Bool.and_eq_false_iff,decide_eq_false_iff_not] at hok;have hne:(((s[k]'hlt).toNat:Int) !=95)=true:=by simp;omega
     rcases (show (((s[k]'hlt).toNat:Int)<97\/(97<=((s[k]'hlt).toNat:Int)/\122<((s[k]'hlt).toNat:Int)))/\(((s[k]'hlt).toNat:Int)<48\/(48<=((s[k]'hlt).toNat:Int)/\57<((s[k]'hlt).toNat:Int))) by omega) with ⟨hA|⟨hA,hB⟩,hC|⟨hC,hD⟩⟩;all_goals
      clear hok
      try omega
     all_goals
      go_wp2
      all_goals first|(exfalso;rename_i hx;simp at hx;omega)|(go_ret;exact⟨false,rfl,fm hlt HB.out,rfl⟩)
   ·have HB:Hid (okB k ((s[k]'hlt).toNat:Int)=true):=hok;by_cases hk0:k=0
    ·have hkb:((k:Int)==0)=true:=by simp[hk0]
     have hk1:k<1:=af
     unfold okB ik at hok;rw[if_pos hk0] at hok;simp only[yk,decide_eq_true_eq] at hok;obtain⟨hA,hB⟩:=hok;clear hk0;exact nM
    ·have hkb:((k:Int)==0)=false:=by simp[hk0]
     unfold okB nbB ik s8 at hok;rw[if_neg hk0] at hok;simp only[yX,yk,decide_eq_true_eq] at hok;rcases (show (97<=((s[k]'hlt).toNat:Int)/\((s[k]'hlt).toNat:Int)<=122)\/(48<=((s[k]'hlt).toNat:Int)/\((s[k]'hlt).toNat:Int)<=57)\/(95<=((s[k]'hlt).toNat:Int)/\((s[k]'hlt).toNat:Int)<=95) by omega) with ⟨hA,hB⟩|⟨hA,hB⟩|⟨hA,hB⟩
     ·clear hok;exact nM
     ·clear hok;exact nM
     ·clear hok;have hne:(((s[k]'hlt).toNat:Int) !=95)=false:=by simp;omega
      exact nM
  ·exact ru

theorem aV (s:ByteArray) (w:World) (hs:s.size<=9223372036854775807):
  Calls Tryz.prog 207 #[.string s] w (bW (bc s) w):=by
 by_cases h1:s.size<1
 ·go_enter Tryz.func207,Tryz.ntmps207;exact jf
 by_cases h2:20<s.size
 ·go_enter Tryz.func207,Tryz.ntmps207;exact jf
 have h0:0<s.size:=af
 cases hl:ik ((s[0]'h0).toNat:Int)
 ·have HC:Hid (∀w,Calls Tryz.prog 211 #[.int .u8 ((s[0]'h0).toNat:Int)] w fun e w'=>e=.returned (.bool false)/\w=w'):=fun w=>by rw[<-hl];exact nV _ w
  have HB:Hid (okB 0 ((s[0]'h0).toNat:Int)=false):=hl;clear hl;go_enter Tryz.func207,Tryz.ntmps207;go_wp2_with (go_at_call 211;refine (HC.out _).mono ?_;rintro e w1 ⟨rfl,rfl⟩);go_ret;exact⟨false,rfl,fm h0 HB.out,rfl⟩
 ·have HC:Hid (∀w,Calls Tryz.prog 211 #[.int .u8 ((s[0]'h0).toNat:Int)] w fun e w'=>e=.returned (.bool true)/\w=w'):=fun w=>by rw[<-hl];exact nV _ w
  have HB:Hid (okB 0 ((s[0]'h0).toNat:Int)=true):=hl;clear hl;go_enter Tryz.func207,Tryz.ntmps207;go_wp2_with (go_at_call 211;refine (HC.out _).mono ?_;rintro e w1 ⟨rfl,rfl⟩);go_loop [3] (fun i=> ∃k:Nat,1<=k/\k<=s.size/\i=.int .i64 k/\∀i (h:i<s.size),i<k->okB i ((s[i]'h).toNat:Int)=true) (fun i=>s.size - (intOf i).toNat);case atStart=>exact⟨1,by omega,by omega,rfl,fun i _ h=>by obtain rfl:i=0:=af;exact HB.out⟩
  case round=>
   obtain⟨k,hk1,hk,rfl,hall⟩:=hrel;have HA:Hid (∀i (h:i<s.size),i<k->okB i ((s[i]'h).toNat:Int)=true):=hall;clear hall HC HB;by_cases hlt:k<s.size
   ·cases hok:nbB ((s[k]'hlt).toNat:Int)
    ·have HC:Hid (∀w,Calls Tryz.prog 212 #[.int .u8 ((s[k]'hlt).toNat:Int)] w fun e w'=>e=.returned (.bool false)/\w=w'):=fun w=>by rw[<-hok];exact rP _ w
     have HB:Hid (okB k ((s[k]'hlt).toNat:Int)=false):=by unfold okB;rw[if_neg af];exact hok
     clear hok;go_wp2_with (go_at_call 212;refine (HC.out _).mono ?_;rintro e w1 ⟨rfl,rfl⟩);go_ret;exact⟨false,rfl,fm hlt HB.out,rfl⟩
    ·have HC:Hid (∀w,Calls Tryz.prog 212 #[.int .u8 ((s[k]'hlt).toNat:Int)] w fun e w'=>e=.returned (.bool true)/\w=w'):=fun w=>by rw[<-hok];exact rP _ w
     have HB:Hid (okB k ((s[k]'hlt).toNat:Int)=true):=by unfold okB;rw[if_neg af];exact hok
     clear hok;go_wp2_with (go_at_call 212;refine (HC.out _).mono ?_;rintro e w1 ⟨rfl,rfl⟩);go_round;case rel=>exact⟨k+1,by omega,by omega,by go_num,iH hlt HB.out HA.out⟩
     case measure=>simp[intOf];omega
   ·exact ru

def av (w:World) (a:Option Addr) (len cap:Nat) (zs:List ByteArray):Prop:=
 zs.length=len/\len<=cap/\cap<=9223372036854775807/\(∀(j:Nat) x,zs[j]?=some x->x.size<=9223372036854775807)/\
 (zs=[]\/∃b o,a=some ⟨b,o,none⟩/\b<w.heap.size/\∀(j:Nat) x,zs[j]?=some x->w.cell? ⟨b,o+j,none⟩=some (.string x))
theorem ai {w w':World} (hb:Below w.heap.size w w') {b o:Nat} (h:b<w.heap.size):w'.cell? ⟨b,o,none⟩=w.cell? ⟨b,o,none⟩:=by
 simp[World.cell?,hb.block b h]
theorem av.below {w w':World} {a:Option Addr} {len cap:Nat} {zs:List ByteArray} (h:av w a len cap zs) (hb:Below w.heap.size w w'):av w' a len cap zs:=by
 obtain⟨h1,h2,h3,h4,h5⟩:=h;refine⟨h1,h2,h3,h4,?_⟩;rcases h5 with h5|⟨b,o,rfl,hlt,hc⟩
 ·exact Or.inl h5
 ·exact Or.inr ⟨b,o,rfl,xr hlt hb.size,fun j x hx=>by rw[ai hb hlt];exact hc j x hx⟩
theorem av.at {w:World} {a:Option Addr} {len cap:Nat} {zs:List ByteArray} (h:av w a len cap zs) {k:Nat} (hk:k<len):
  ∃b o x,a=some ⟨b,o,none⟩/\b<w.heap.size/\zs[k]?=some x/\w.cell? ⟨b,o+k,none⟩=some (.string x)/\x.size<=9223372036854775807:=by
 obtain⟨h1,h2,h3,h4,h5⟩:=h;have hx:zs[k]?=some (zs[k]'(by omega)):=xm _;rcases h5 with h5|⟨b,o,rfl,hlt,hc⟩
 ·subst h5;simp at h1;omega
 ·exact⟨b,o,_,rfl,hlt,hx,hc k _ hx,h4 k _ hx⟩

def wq (left:Int) (p:Prop) (w:World) (e:Ending) (w':World):Prop:=∃r:Int,e=.returned (.int .i64 r)/\(r= -1\/(0<=r/\r<=left/\p))/\w=w'

theorem nf (a:Option Addr) (len cap:Nat) (zs:List ByteArray) (left:Int) (w:World) (hr:av w a len cap zs) (h0:0<=left) (h1:left<=1048576):
  Calls Tryz.prog 110 #[.slice a len cap,.int .i64 left] w (wq left ((len:Int)<=left) w):=by
 have HR:Hid (av w a len cap zs):=hr;have hlc:=xp hr.2.1 hr.2.2.1;clear hr;by_cases hl:left<(len:Int)
 ·go_enter Tryz.func110,Tryz.ntmps110;go_wp2;go_ret;exact⟨-1,rfl,.inl rfl,rfl⟩
 go_enter Tryz.func110,Tryz.ntmps110;go_wp2;go_loop [1,5] (fun l i=> ∃(k:Nat) (m:Int),k<=len/\l=.int .i64 m/\i=.int .i64 k/\0<=m/\m<=left) (fun _ i=>len - (intOf i).toNat);case atStart=>exact⟨0,left - len,by omega,by go_num,rfl,by omega,by omega⟩
 case round=>
  obtain⟨k,m,hk,rfl,rfl,hm0,hm1⟩:=hrel;by_cases hlt:k<len
  ·obtain⟨b,o,x,rfl,hb,hx,hc,hsz⟩:=HR.at hlt;by_cases hs:m<(x.size:Int)
   ·go_wp2;go_ret;exact⟨-1,rfl,.inl rfl,rfl⟩
   ·go_wp2;exact⟨⟨k+1,m - x.size,by omega,by go_num,by go_num,by omega,by omega⟩,by simp[intOf];omega⟩
  ·go_wp2;go_ret;exact⟨m,rfl,.inr ⟨hm0,hm1,by omega⟩,rfl⟩

theorem dt:(Tryz.prog.info? 9).map (fun i=>(i.zero,i.size,i.bytes))=some (some (.string ⟨#[]⟩),1,16):=by kernel_rfl
theorem au {w:World} {g i:Nat} {cs:Array Value} {t:TypeId} {fr:Nat×Nat} (h:w.heap[g]?=some (.cells cs t fr)) (v:Value):(w.setCell ⟨g,i,none⟩ v).heap[g]?=some (.cells (cs.setIfInBounds i v) t fr):=by
 obtain⟨hl,hh⟩:=xA.1 h;unfold xZ;simp[Array.getElem?_modify,h]
theorem take_set {α:Type} {zs Z:List α} {k:Nat} {x:α} (h:zs[k]?=some x) (hk:k<zs.length) (hZ:Z.length=zs.length):
  ((zs.take k++Z.drop k).toArray.setIfInBounds k x)=(zs.take (k+1)++Z.drop (k+1)).toArray:=by
 apply Array.ext';have hl:(zs.take k).length=k:=by rw[xE];omega
 have hd:Z.drop k=Z[k]'(by omega) ::Z.drop (k+1):=yG af;rw[yb,h,hd];simp only[List.setIfInBounds_toArray,List.set_append,hl,Nat.lt_irrefl,if_false,Nat.sub_self,xG,Option.toList_some,yz,List.singleton_append]

theorem oW {w:World} {B g n:Nat} {e:TypeId} {xs:List Value} (h:w.ownsRow B e 1 (.slice (some ⟨g,0,none⟩) n n) n xs):
  w.heap[g]?=some (.cells xs.toArray e (0,0))/\xs.length=n/\B<=g:=by
 obtain⟨h1,h2⟩:=h;rcases h2 with ⟨h3,_⟩|⟨g',cap,cur,hv,hB,hh,_,_,hsz,htk⟩
 ·cases h3
 ·simp only[yQ,ym,Addr.mk.injEq] at hv;obtain⟨⟨rfl,_,_⟩,_,rfl⟩:=hv;have hl:cur.toList.length<=n*1:=by simp[hsz]
  rw[xw hl] at htk;subst htk;exact⟨by simpa using hh,by simpa using hsz,hB⟩

theorem iW (a:Option Addr) (len cap:Nat) (zs:List ByteArray) (w:World) (hr:av w a len cap zs) (hl:len<=1048576):
  Calls Tryz.prog 124 #[.slice a len cap] w fun e w'=>e=.returned (.slice (some ⟨w.heap.size,0,none⟩) len len)/\w'.heap[w.heap.size]?=some (.cells (zs.map xo).toArray 9 (0,0))/\Below w.heap.size w w':=by
 have HR:Hid (av w a len cap zs):=hr;have hzl:=hr.1;clear hr;obtain⟨i0,hi,hz0,hz1,hz2⟩:=info_parts dt;go_enter Tryz.func124,Tryz.ntmps124;go_wp2_with (at_make;refine wpList_make_full _ rfl _ _ 59 rfl w.heap.size 9 i0 (.string ⟨#[]⟩) 1 Tryz.underlying59 hi hz0 hz1 _ _ _ _ len rfl rfl af af gK bJ (xk _) ?_);intro w1 hown hgrow;obtain⟨hg1,hz,-⟩:=oW hown;obtain⟨Z,hZ⟩:∃Z,Z=(madeCells #[xo ⟨#[]⟩] len).toList:=⟨_,rfl⟩;have hnx1:=(xj _ _).grown hgrow (xk _) (fun k hk=>by cases hk);rw[<-hZ] at hg1 hz;have HG:Hid (w1.heap[w.heap.size]?=some (.cells (((zs.map xo).take 0++Z.drop 0)).toArray 9 (0,0))):=by simpa[Hid] using hg1
 have HB:Hid (Below w.heap.size w w1):=hnx1;clear hZ hown hgrow hg1 hi hz0 hz1 hz2 hnx1;go_wp2;go_loopw [4] (fun i wr=> ∃k:Nat,k<=len/\i=.int .i64 k/\Hid (wr.heap[w.heap.size]?=some (.cells (((zs.map xo).take k++Z.drop k)).toArray 9 (0,0)))/\Hid (Below w.heap.size w wr)) (fun i _=>len - (intOf i).toNat);case atStart=>exact⟨0,by omega,rfl,HG,HB⟩
 case round=>
  obtain⟨k,hk,rfl,HG,HB⟩:=hrel;by_cases hlt:k<len
  ·obtain⟨b,o,x,rfl,hb,hx,hc,hsz⟩:=(HR.below HB.out).at hlt;have hlz:(zs.map xo).length=len:=by simp[hzl]
   have hcl:(((zs.map xo).take k++Z.drop k)).length=len:=by rw[xO,xE,yf,hlz,hz];omega
   have hcw:wr.cell? ⟨w.heap.size,k,none⟩=some ((((zs.map xo).take k++Z.drop k))[k]'(by omega)):=by
    simp only[World.cell?,HG.out];simp
   have hfw:wr.frozen? ⟨w.heap.size,k,none⟩=false:=by simp[World.frozen?,HG.out]
   go_wp2;refine⟨⟨k+1,by omega,by go_num,?_,HB.setCell (xk _) _⟩,by simp[intOf];omega⟩;show _=_;rw[au HG.out,take_set (by simp[hx]) af af]
  ·obtain rfl:k=len:=af
   go_wp2;go_ret;refine⟨rfl,?_,HB.out⟩;rw[HG.out,xw (by simp[hzl]),List.drop_eq_nil_of_le af,List.append_nil]

theorem bL {a b:ByteArray} (h:¬a=b):(a.toList==b.toList)=false:=by
 rw[beq_eq_false_iff_ne];intro e;rw[yY,yY] at e;exact h (by cases a;cases b;simp at e;rw[e])
def aq (p:Prop) (w:World) (e:Ending) (w':World):Prop:=∃r:Bool,e=.returned (.bool r)/\(r=true↔p)/\Below w.heap.size w w'

theorem n_ (a a':Option Addr) (len len' cap cap':Nat) (zs zs':List ByteArray) (w:World) (hr:av w a len cap zs) (hr':av w a' len' cap' zs'):
  Calls Tryz.prog 162 #[.slice a len cap,.slice a' len' cap'] w (aq (zs=zs') w):=by
 have HR:Hid (av w a len cap zs):=hr;have HR':Hid (av w a' len' cap' zs'):=hr';have hlc:=xp hr.2.1 hr.2.2.1;have hlc':=xp hr'.2.1 hr'.2.2.1;have hzl:=hr.1;have hzl':=hr'.1;clear hr hr';by_cases hne:len=len'
 ·subst hne;go_enter Tryz.func162,Tryz.ntmps162;go_wp2;go_loopw [5] (fun i wr=> ∃k:Nat,k<=len/\i=.int .i64 k/\Hid (∀j,j<k->zs[j]?=zs'[j]?)/\Hid (Below w.heap.size w wr)) (fun i _=>len - (intOf i).toNat);case atStart=>exact⟨0,by omega,rfl,fun j hj=>by omega,xj _ _⟩
  case round=>
   obtain⟨k,hk,rfl,HE,HB⟩:=hrel;by_cases hlt:k<len
   ·obtain⟨b,o,x,rfl,hb,hx,hc,hsz⟩:=(HR.below HB.out).at hlt;obtain⟨b',o',x',rfl,hb',hx',hc',hsz'⟩:=(HR'.below HB.out).at hlt;by_cases hxx:x=x'
    ·have hq:(x.toList==x'.toList)=true:=by rw[hxx];simp
     go_wp2;go_quiet (fail);go_wp2;refine⟨⟨k+1,by omega,by go_num,fun j hj=>?_,below_drewN HB.out _⟩,by simp[intOf];omega⟩;by_cases e:j=k
     ·subst e;rw[hx,hx',hxx]
     ·exact HE.out j af
    ·have hq:=bL hxx;go_wp2;go_quiet (fail);go_wp2;go_ret;refine⟨false,rfl,⟨fun h=>bM,fun h=>?_⟩,below_drewN HB.out _⟩;subst h;rw[hx] at hx';exact absurd (xh hx') hxx
   ·obtain rfl:k=len:=af
    go_wp2;go_ret;refine⟨true,rfl,⟨fun _=>List.ext_getElem? fun j=>?_,fun _=>rfl⟩,HB.out⟩;by_cases hj:j<zs.length
    ·exact HE.out j af
    ·rw[yi af,yi af]
 ·have hne':¬(len:Int)=len':=af
  go_enter Tryz.func162,Tryz.ntmps162;go_wp2;go_ret;exact⟨false,rfl,⟨fun h=>bM,fun h=>absurd (congrArg List.length h) af⟩,xj _ _⟩

def dU (zs:List ByteArray):Prop:=∀(i:Nat) x,zs[i]?=some x->bc x/\∀y,0<i->zs[i - 1]?=some y->xn y.toList x.toList=true
def dv (zs:List ByteArray) (most:Int):Prop:=(zs.length:Int)<=most/\dU zs
theorem eg:∀x y:List UInt8,(xn y x || y==x)=!xn x y
 | [],[]=>by simp[xn]
 | _ ::_,[]=>by simp[xn]
 | [],_ ::_=>by simp[xn]
 | a ::x,b ::y=>by
  have ih:=eg x y;simp only[xn];rcases Nat.lt_trichotomy a.toNat b.toNat with h|h|h
  ·have h1:=yN.2 h;have h2:¬b<a:=fun h'=>by have:=yN.1 h';omega
   have h3:¬b=a:=fun h'=>by subst h';omega
   simp[h1,h2,h3]
  ·obtain rfl:a=b:=UInt8.toNat_inj.1 h;have h2:¬a<a:=fun h'=>by have:=yN.1 h';omega
   simp[h2];simpa using ih
  ·have h1:=yN.2 h;have h2:¬a<b:=fun h'=>by have:=yN.1 h';omega
   have h3:¬a=b:=fun h'=>by subst h';omega
   simp[h1,h2,h3]

theorem bW.yes {p:Prop} {w w':World} {e:Ending} (h:bW p w e w') (hp:p):e=.returned (.bool true)/\w'=w:=by
 obtain⟨r,rfl,hr,rfl⟩:=h;exact⟨by rw[hr.2 hp],rfl⟩
theorem bW.no {p:Prop} {w w':World} {e:Ending} (h:bW p w e w') (hp:¬p):e=.returned (.bool false)/\w'=w:=by
 obtain⟨r,rfl,hr,rfl⟩:=h;cases r
 ·exact⟨rfl,rfl⟩
 ·exact absurd (hr.1 rfl) hp
theorem dU.step {zs:List ByteArray} {k:Nat} {x:ByteArray} (h:dU (zs.take k)) (hx:zs[k]?=some x) (hn:bc x) (hy:∀y,0<k->zs[k - 1]?=some y->xn y.toList x.toList=true):dU (zs.take (k+1)):=by
 intro i z hz;rw[xF] at hz;split at hz
 ·rename_i hi;by_cases e:i=k
  ·subst e;rw[hx] at hz;obtain rfl:=xh hz;refine⟨hn,fun y h0 h1=>hy y h0 ?_⟩;rw[xF,if_pos af] at h1;exact h1
  ·have:=h i z (by rw[xF,if_pos af];exact hz);refine⟨this.1,fun y h0 h1=>this.2 y h0 ?_⟩;rw[xF,if_pos af] at h1 ⊢;exact h1
 ·cases hz

theorem dH (a:Option Addr) (len cap:Nat) (zs:List ByteArray) (most:Int) (w:World) (hr:av w a len cap zs):
  Calls Tryz.prog 166 #[.slice a len cap,.int .i64 most] w (aq (dv zs most) w):=by
 have HR:Hid (av w a len cap zs):=hr;have hlc:=xp hr.2.1 hr.2.2.1;have hzl:=hr.1;clear hr;go_enter Tryz.func166,Tryz.ntmps166;go_wp2;go_loopw [5] (fun i wr=> ∃k:Nat,k<=len/\i=.int .i64 k/\Hid (dU (zs.take k))/\Hid (Below w.heap.size w wr)) (fun i _=>len - (intOf i).toNat);case atStart=>exact⟨0,by omega,rfl,fun i x h=>by simp at h,xj _ _⟩
 case round=>
  obtain⟨k,hk,rfl,HE,HB⟩:=hrel;by_cases hlt:k<len
  ·obtain⟨b,o,x,rfl,hb,hx,hc,hsz⟩:=(HR.below HB.out).at hlt;by_cases hn:bc x
   ·have HY:Hid (∀w,Calls Tryz.prog 164 #[.string x] w fun e w'=>e=.returned (.bool true)/\w'=w):=fun w=>(aW x w hsz).mono fun _ _ h=>h.yes hn;by_cases hk0:0<k
    ·obtain⟨b',o',y,e',hb',hy,hcy,-⟩:=(HR.below HB.out).at (k:=k - 1) af;cases e';have ek:((k:Int) - 1).toNat=k - 1:=af
     cases hless:xn y.toList x.toList
     ·go_wp2;go_quiet ((go_at_call 164;exact xI (HY.out _)));go_wp2;go_ret;exact⟨false,rfl,⟨fun h=>bM,fun h=>absurd ((h.2 k x hx).2 y hk0 hy) (by rw[hless];decide)⟩,below_drewN HB.out _⟩
     ·go_wp2;go_quiet ((go_at_call 164;exact xI (HY.out _)));go_wp2;exact⟨⟨k+1,by omega,by go_num,HE.step hx hn (fun y' _ hy'=>by rw[hy] at hy';obtain rfl:=xh hy';exact hless),below_drewN HB.out _⟩,by simp[intOf];omega⟩
    ·have hd:decide ((0:Int)<k)=false:=by simp;omega
     go_wp2;go_quiet ((go_at_call 164;exact xI (HY.out _)));go_wp2;exact⟨⟨k+1,by omega,by go_num,HE.step hx hn (fun y' h0 _=>absurd h0 hk0),below_drewN HB.out _⟩,by simp[intOf];omega⟩
   ·have HY:Hid (∀w,Calls Tryz.prog 164 #[.string x] w fun e w'=>e=.returned (.bool false)/\w'=w):=fun w=>(aW x w hsz).mono fun _ _ h=>h.no hn;go_wp2;go_quiet ((go_at_call 164;exact xI (HY.out _)));go_wp2;go_ret;exact⟨false,rfl,⟨fun h=>bM,fun h=>absurd (h.2 k x hx).1 hn⟩,below_drewN HB.out _⟩
  ·obtain rfl:k=len:=af
   go_wp2;go_ret;refine⟨_,rfl,?_,HB.out⟩;have hR:=HE.out;rw[xw af] at hR;unfold dv;simp[hR,hzl]

theorem kX {x:ByteArray} (h:1<=x.size):xn (⟨#[]⟩:ByteArray).toList x.toList=true:=by
 rw[yY,yY];rw[Lib.size_eq] at h;cases e:x.data.toList with
 | nil=>rw[e] at h;simp at h
 | cons a l=>rfl

theorem dM (a:Option Addr) (len cap:Nat) (zs:List ByteArray) (most:Int) (w:World) (hr:av w a len cap zs):
  Calls Tryz.prog 209 #[.slice a len cap,.int .i64 most] w (bW (dv zs most) w):=by
 have HR:Hid (av w a len cap zs):=hr;have hlc:=xp hr.2.1 hr.2.2.1;have hzl:=hr.1;clear hr;by_cases hm:most<(len:Int)
 ·go_enter Tryz.func209,Tryz.ntmps209;go_wp2;go_ret;exact⟨false,rfl,⟨fun h=>bM,fun h=>absurd h.1 af⟩,rfl⟩
 go_enter Tryz.func209,Tryz.ntmps209;go_wp2;go_loop [5,14] (fun p i=> ∃(k:Nat) (y:ByteArray),k<=len/\p=.string y/\i=.int .i64 k/\Hid (k=0->y=⟨#[]⟩)/\Hid (0<k->zs[k - 1]?=some y)/\Hid (dU (zs.take k))) (fun _ i=>len - (intOf i).toNat);case atStart=>exact⟨0,_,by omega,rfl,rfl,fun _=>rfl,fun h=>absurd h af,fun i x h=>by simp at h⟩
 case round=>
  obtain⟨k,y,hk,rfl,rfl,H0,H1,HE⟩:=hrel;by_cases hlt:k<len
  ·obtain⟨b,o,x,rfl,hb,hx,hc,hsz⟩:=HR.at hlt;by_cases hn:bc x
   ·have HY:Hid (∀w,Calls Tryz.prog 207 #[.string x] w fun e w'=>e=.returned (.bool true)/\w'=w):=fun w=>(aV x w hsz).mono fun _ _ h=>h.yes hn;have htri:=eg y.toList x.toList;cases hless:xn y.toList x.toList
    ·rw[hless] at htri;go_wp2_with (go_at_call 207;refine (HY.out _).mono ?_;rintro e w1 ⟨rfl,rfl⟩);go_ret;refine⟨false,rfl,⟨fun h=>bM,fun h=>?_⟩,rfl⟩;by_cases hk0:0<k
     ·exact absurd ((h.2 k x hx).2 y hk0 (H1.out hk0)) (by rw[hless];decide)
     ·have:=H0.out af;subst this;rw[kX hn.1] at hless;cases hless
    ·rw[hless] at htri;go_wp2_with (go_at_call 207;refine (HY.out _).mono ?_;rintro e w1 ⟨rfl,rfl⟩);refine⟨⟨k+1,x,by omega,rfl,by go_num,fun h=>absurd h af,fun _=>hx,HE.step hx hn (fun y' h0 hy'=>?_)⟩,by simp[intOf];omega⟩;rw[H1.out h0] at hy';obtain rfl:=xh hy';exact hless
   ·have HY:Hid (∀w,Calls Tryz.prog 207 #[.string x] w fun e w'=>e=.returned (.bool false)/\w'=w):=fun w=>(aV x w hsz).mono fun _ _ h=>h.no hn;go_wp2_with (go_at_call 207;refine (HY.out _).mono ?_;rintro e w1 ⟨rfl,rfl⟩);go_ret;exact⟨false,rfl,⟨fun h=>bM,fun h=>absurd (h.2 k x hx).1 hn⟩,rfl⟩
  ·obtain rfl:k=len:=af
   have hR:=HE.out;rw[xw af] at hR;go_wp2;go_ret;exact⟨true,rfl,⟨fun _=>⟨by omega,hR⟩,fun _=>rfl⟩,rfl⟩

def cW (s:ByteArray):Prop:=s=⟨#[]⟩\/bc s
def Inn (n a b:Int):Prop:=a<=n/\n<=b

theorem jj (n a b:Int) (w:World):
  Calls Tryz.prog 111 #[.int .i64 n,.int .i64 a,.int .i64 b] w (bW (Inn n a b) w):=by
 go_enter Tryz.func111,Tryz.ntmps111;go_wp2;all_goals (go_ret;exact⟨_,rfl,by unfold Inn;simp;omega,rfl⟩)

theorem bC (n a b:Int) (w:World):
  Calls Tryz.prog 77 #[.int .i64 n,.int .i64 a,.int .i64 b] w (bW (Inn n a b) w):=by
 go_enter Tryz.func77,Tryz.ntmps77;go_wp2;all_goals (go_ret;exact⟨_,rfl,by unfold Inn;simp;omega,rfl⟩)

theorem kY (n:Int) (w:World):
  Calls Tryz.prog 165 #[.int .i64 n] w (bW (Inn n 0 1000000) w):=by
 go_enter Tryz.func165,Tryz.ntmps165;exact qm

theorem ey (n:Int) (w:World):
  Calls Tryz.prog 168 #[.int .i64 n] w (bW (Inn n 1 1048576) w):=by
 go_enter Tryz.func168,Tryz.ntmps168;exact qm

theorem iK (n:Int) (w:World):
  Calls Tryz.prog 58 #[.int .i64 n] w (bW (Inn n 0 1000000) w):=by
 go_enter Tryz.func58,Tryz.ntmps58;exact qm

theorem aa {p:Prop} (h:p):Hid p:=h
theorem bo {s:ByteArray} (h:¬s=⟨#[]⟩):s.toList.isEmpty=false:=by
 have:=bL h;rw[yY] at this ⊢;cases e:s.data.toList with
 | nil=>exact absurd (by cases s;simp at e;rw[e]) h
 | cons a l=>rfl
theorem nZ:(⟨#[]⟩:ByteArray).toList.isEmpty=true:=by rw[yY];rfl
theorem cm {w w1:World} {vs:Array Value} {T:TypeId} (hb:Below (w.alloc (.cells vs T)).heap.size (w.alloc (.cells vs T)) w1):
  w1.heap[w.heap.size]?=some (.cells vs T (0,0))/\Below w.heap.size w w1/\w.heap.size<w1.heap.size:=by
 have hs:(w.alloc (.cells vs T)).heap.size=w.heap.size+1:=aT
 have h1:=hb.size;refine⟨?_,?_,by omega⟩
 ·rw[hb.block _ af];show (w.heap.push _)[w.heap.size]?=_;simp
 ·exact ((xj w.heap.size w).alloc (xk _) _).trans (hb.mono af)
theorem fF {w w1:World} {vs:Array Value} {T:TypeId} (hb:Below (w.alloc (.cells vs T)).drew.heap.size (w.alloc (.cells vs T)).drew w1):
  w1.heap[w.heap.size]?=some (.cells vs T (0,0))/\Below w.heap.size w w1/\w.heap.size<w1.heap.size:=cm ⟨hb.os,hb.tape,hb.output,hb.size,hb.block⟩
theorem aD {w:World} {b:Nat} {vs:Array Value} {T:TypeId} {f:Nat×Nat} (h:w.heap[b]?=some (.cells vs T f)) (i:Nat):w.cell? ⟨b,i,none⟩=vs[i]?:=by simp[World.cell?,h]
theorem ck0 {w:World} {b:Nat} {T:TypeId} {f:Nat×Nat} {v0:Value} {r:List Value} (h:w.heap[b]?=some (.cells (v0 ::r).toArray T f)):w.cell? ⟨b,0,none⟩=some v0:=aD h 0
theorem ck1 {w:World} {b:Nat} {T:TypeId} {f:Nat×Nat} {v0 v1:Value} {r:List Value} (h:w.heap[b]?=some (.cells (v0::v1 ::r).toArray T f)):w.cell? ⟨b,1,none⟩=some v1:=aD h 1
theorem ck2 {w:World} {b:Nat} {T:TypeId} {f:Nat×Nat} {v0 v1 v2:Value} {r:List Value} (h:w.heap[b]?=some (.cells (v0::v1::v2 ::r).toArray T f)):w.cell? ⟨b,2,none⟩=some v2:=aD h 2
theorem ck3 {w:World} {b:Nat} {T:TypeId} {f:Nat×Nat} {v0 v1 v2 v3:Value} {r:List Value} (h:w.heap[b]?=some (.cells (v0::v1::v2::v3 ::r).toArray T f)):w.cell? ⟨b,3,none⟩=some v3:=aD h 3
theorem ck4 {w:World} {b:Nat} {T:TypeId} {f:Nat×Nat} {v0 v1 v2 v3 v4:Value} {r:List Value} (h:w.heap[b]?=some (.cells (v0::v1::v2::v3::v4 ::r).toArray T f)):w.cell? ⟨b,4,none⟩=some v4:=aD h 4
theorem ck5 {w:World} {b:Nat} {T:TypeId} {f:Nat×Nat} {v0 v1 v2 v3 v4 v5:Value} {r:List Value} (h:w.heap[b]?=some (.cells (v0::v1::v2::v3::v4::v5 ::r).toArray T f)):w.cell? ⟨b,5,none⟩=some v5:=aD h 5
theorem ck6 {w:World} {b:Nat} {T:TypeId} {f:Nat×Nat} {v0 v1 v2 v3 v4 v5 v6:Value} {r:List Value} (h:w.heap[b]?=some (.cells (v0::v1::v2::v3::v4::v5::v6 ::r).toArray T f)):w.cell? ⟨b,6,none⟩=some v6:=aD h 6
theorem ck7 {w:World} {b:Nat} {T:TypeId} {f:Nat×Nat} {v0 v1 v2 v3 v4 v5 v6 v7:Value} {r:List Value} (h:w.heap[b]?=some (.cells (v0::v1::v2::v3::v4::v5::v6::v7 ::r).toArray T f)):w.cell? ⟨b,7,none⟩=some v7:=aD h 7
theorem al (w:World) (o:Obj):Below w.heap.size w (w.alloc o):=(xj _ _).alloc (xk _) o

theorem dd (s:ByteArray) (w:World) (hs:s.size<=9223372036854775807):
  Calls Tryz.prog 167 #[.string s] w (bW (cW s) w):=by
 by_cases h0:s=⟨#[]⟩
 ·subst h0;go_enter Tryz.func167,Tryz.ntmps167;go_wp2;go_ret;exact⟨_,rfl,by unfold cW;simp,rfl⟩
 ·have hq:=bo h0;go_enter Tryz.func167,Tryz.ntmps167;go_wp2_with (go_at_call 164;refine (aW _ _ hs).mono ?_;rintro e w1 ⟨r,rfl,hr,rfl⟩);go_ret;exact⟨r,rfl,by unfold cW;simp[h0,hr],rfl⟩

theorem cI (s:ByteArray) (w:World) (hs:s.size<=9223372036854775807):
  Calls Tryz.prog 208 #[.string s] w (bW (cW s) w):=by
 by_cases h0:s=⟨#[]⟩
 ·subst h0;go_enter Tryz.func208,Tryz.ntmps208;go_wp2;go_ret;exact⟨_,rfl,by unfold cW;simp,rfl⟩
 ·have hq:=bo h0;go_enter Tryz.func208,Tryz.ntmps208;go_wp2_with (go_at_call 207;refine (aV _ _ hs).mono ?_;rintro e w1 ⟨r,rfl,hr,rfl⟩);go_ret;exact⟨r,rfl,by unfold cW;simp[h0,hr],rfl⟩

def mW (n z:ByteArray) (c s u:Int) (zs:List ByteArray):Prop:=bc n/\bc z/\Inn c 0 1000000/\Inn s 0 8/\Inn u 0 1000000/\dv zs 8
theorem et (n z:ByteArray) (c s u:Int) (d:Bool) (a:Option Addr) (len cap:Nat) (zs:List ByteArray) (w:World) (hn:n.size<=9223372036854775807) (hz:z.size<=9223372036854775807) (hr:av w a len cap zs):
  Calls Tryz.prog 112 #[.agg #[.string n,.string z,.int .i64 c,.int .i64 s,.int .i64 u,.bool d,.slice a len cap]] w (aq (mW n z c s u zs) w):=by
 have HR:Hid (av w a len cap zs):=hr;clear hr;go_enter Tryz.func112,Tryz.ntmps112;go_wp2_with fail;refine (aW n _ hn).mono ?_;rintro e w1 ⟨r,rfl,hr,rfl⟩;by_cases hq:r=true;case neg=>
  exact ed
 have h0:=aa (hr.1 hq);subst hq;clear hr;go_wp2_with fail;refine (aW z _ hz).mono ?_;rintro e w1 ⟨r,rfl,hr,rfl⟩;by_cases hq:r=true;case neg=>
  exact fh
 have h1:=aa (hr.1 hq);subst hq;clear hr;go_wp2_with fail;refine (kY c _).mono ?_;rintro e w1 ⟨r,rfl,hr,rfl⟩;by_cases hq:r=true;case neg=>
  exact fi
 have h2:=aa (hr.1 hq);subst hq;clear hr;go_wp2_with fail;refine (jj s 0 8 _).mono ?_;rintro e w1 ⟨r,rfl,hr,rfl⟩;by_cases hq:r=true;case neg=>
  exact iF
 have h3:=aa (hr.1 hq);subst hq;clear hr;go_wp2_with fail;refine (iK u _).mono ?_;rintro e w1 ⟨r,rfl,hr,rfl⟩;by_cases hq:r=true;case neg=>
  exact kM
 have h4:=aa (hr.1 hq);subst hq;clear hr;go_wp2_with fail;refine (dH a len cap zs 8 _ (HR.below (al _ _))).mono ?_;rintro e w1 ⟨r,rfl,hr,hb⟩;go_wp2_with fail;go_ret;exact⟨r,rfl,⟨fun h=>⟨h0.out,h1.out,h2.out,h3.out,h4.out,hr.1 h⟩,fun h=>hr.2 h.2.2.2.2.2⟩,(cm hb).2.1⟩

theorem oP (n z:ByteArray) (c s u:Int) (d:Bool) (a:Option Addr) (len cap:Nat) (zs:List ByteArray) (w:World) (hn:n.size<=9223372036854775807) (hz:z.size<=9223372036854775807) (hr:av w a len cap zs):
  Calls Tryz.prog 215 #[.agg #[.string n,.string z,.int .i64 c,.int .i64 s,.int .i64 u,.bool d,.slice a len cap]] w (aq (mW n z c s u zs) w):=by
 have HR:Hid (av w a len cap zs):=hr;clear hr;go_enter Tryz.func215,Tryz.ntmps215;go_wp2_with fail;refine (aV n _ hn).mono ?_;rintro e w1 ⟨r,rfl,hr,rfl⟩;by_cases hq:r=true;case neg=>
  exact ed
 have h0:=aa (hr.1 hq);subst hq;clear hr;go_wp2_with fail;refine (aV z _ hz).mono ?_;rintro e w1 ⟨r,rfl,hr,rfl⟩;by_cases hq:r=true;case neg=>
  exact fh
 have h1:=aa (hr.1 hq);subst hq;clear hr;go_wp2_with fail;refine (bC c 0 1000000 _).mono ?_;rintro e w1 ⟨r,rfl,hr,rfl⟩;by_cases hq:r=true;case neg=>
  exact fi
 have h2:=aa (hr.1 hq);subst hq;clear hr;go_wp2_with fail;refine (bC s 0 8 _).mono ?_;rintro e w1 ⟨r,rfl,hr,rfl⟩;by_cases hq:r=true;case neg=>
  exact iF
 have h3:=aa (hr.1 hq);subst hq;clear hr;go_wp2_with fail;refine (bC u 0 1000000 _).mono ?_;rintro e w1 ⟨r,rfl,hr,rfl⟩;by_cases hq:r=true;case neg=>
  exact kM
 have h4:=aa (hr.1 hq);subst hq;clear hr;go_wp2_with fail;refine (dM a len cap zs 8 _ (HR.below (al _ _))).mono ?_;rintro e w1 ⟨r,rfl,hr,rfl⟩;go_wp2_with fail;go_ret;exact⟨r,rfl,⟨fun h=>⟨h0.out,h1.out,h2.out,h3.out,h4.out,hr.1 h⟩,fun h=>hr.2 h.2.2.2.2.2⟩,al _ _⟩

def jF (n z:ByteArray):Prop:=bc n/\cW z

theorem dI (n z:ByteArray) (x y:Bool) (w:World) (hn:n.size<=9223372036854775807) (hz:z.size<=9223372036854775807):
  Calls Tryz.prog 113 #[.agg #[.string n,.bool x,.bool y,.string z]] w (aq (jF n z) w):=by
 go_enter Tryz.func113,Tryz.ntmps113;go_wp2_with fail;refine (aW n _ hn).mono ?_;rintro e w1 ⟨r,rfl,hr,rfl⟩;by_cases hq:r=true;case neg=>
  exact ed
 have h0:=aa (hr.1 hq);subst hq;clear hr;go_wp2_with fail;refine (dd z _ hz).mono ?_;exact qL

theorem mH (n z:ByteArray) (x y:Bool) (w:World) (hn:n.size<=9223372036854775807) (hz:z.size<=9223372036854775807):
  Calls Tryz.prog 222 #[.agg #[.string n,.bool x,.bool y,.string z]] w (aq (jF n z) w):=by
 go_enter Tryz.func222,Tryz.ntmps222;go_wp2_with fail;refine (aV n _ hn).mono ?_;rintro e w1 ⟨r,rfl,hr,rfl⟩;by_cases hq:r=true;case neg=>
  exact ed
 have h0:=aa (hr.1 hq);subst hq;clear hr;go_wp2_with fail;refine (cI z _ hz).mono ?_;exact qL

def jG (n:ByteArray) (z:Int) (k v:ByteArray):Prop:=bc n/\Inn z 1 1048576/\bc k/\cW v

theorem dJ (n:ByteArray) (z:Int) (k:ByteArray) (x:Bool) (v:ByteArray) (w:World) (hn:n.size<=9223372036854775807) (hk:k.size<=9223372036854775807) (hv:v.size<=9223372036854775807):
  Calls Tryz.prog 115 #[.agg #[.string n,.int .i64 z,.string k,.bool x,.string v]] w (aq (jG n z k v) w):=by
 go_enter Tryz.func115,Tryz.ntmps115;go_wp2_with fail;refine (aW n _ hn).mono ?_;rintro e w1 ⟨r,rfl,hr,rfl⟩;by_cases hq:r=true;case neg=>
  exact ed
 have h0:=aa (hr.1 hq);subst hq;clear hr;go_wp2_with fail;refine (ey z _).mono ?_;rintro e w1 ⟨r,rfl,hr,rfl⟩;by_cases hq:r=true;case neg=>
  exact fh
 have h1:=aa (hr.1 hq);subst hq;clear hr;go_wp2_with fail;refine (aW k _ hk).mono ?_;rintro e w1 ⟨r,rfl,hr,rfl⟩;by_cases hq:r=true;case neg=>
  exact fi
 have h2:=aa (hr.1 hq);subst hq;clear hr;go_wp2_with fail;refine (dd v _ hv).mono ?_;exact qQ

theorem mI (n:ByteArray) (z:Int) (k:ByteArray) (x:Bool) (v:ByteArray) (w:World) (hn:n.size<=9223372036854775807) (hk:k.size<=9223372036854775807) (hv:v.size<=9223372036854775807):
  Calls Tryz.prog 225 #[.agg #[.string n,.int .i64 z,.string k,.bool x,.string v]] w (aq (jG n z k v) w):=by
 go_enter Tryz.func225,Tryz.ntmps225;go_wp2_with fail;refine (aV n _ hn).mono ?_;rintro e w1 ⟨r,rfl,hr,rfl⟩;by_cases hq:r=true;case neg=>
  exact ed
 have h0:=aa (hr.1 hq);subst hq;clear hr;go_wp2_with fail;refine (bC z 1 1048576 _).mono ?_;rintro e w1 ⟨r,rfl,hr,rfl⟩;by_cases hq:r=true;case neg=>
  exact fh
 have h1:=aa (hr.1 hq);subst hq;clear hr;go_wp2_with fail;refine (aV k _ hk).mono ?_;rintro e w1 ⟨r,rfl,hr,rfl⟩;by_cases hq:r=true;case neg=>
  exact fi
 have h2:=aa (hr.1 hq);subst hq;clear hr;go_wp2_with fail;refine (cI v _ hv).mono ?_;exact qQ

def cN (d:ByteArray) (p:Int):Prop:=(p=0/\d=⟨#[]⟩)\/((p=1\/p=2)/\bc d)
def sA (n:ByteArray) (c:Int) (z:ByteArray) (zs:List ByteArray) (d:ByteArray) (p:Int):Prop:=bc n/\Inn c 0 1000000/\cW z/\dv zs 3/\cN d p
theorem dG (d:ByteArray):cN d 0↔d=⟨#[]⟩:=by unfold cN;simp
theorem eY {p:Int} (d:ByteArray) (h:p=1\/p=2):cN d p↔bc d:=by
 unfold cN;constructor
 ·rintro (⟨h1,_⟩|⟨_,h1⟩)
  ·omega
  ·exact h1
 ·exact fun h1=>Or.inr ⟨h,h1⟩
theorem jU {p:Int} {d:ByteArray} (h:p<0\/2<p):¬cN d p:=by
 unfold cN;rintro (⟨h1,_⟩|⟨h1,_⟩) <;> omega
theorem jl (s:ByteArray):s.toList.isEmpty=true↔s=⟨#[]⟩:=by
 constructor
 ·intro h;by_cases h0:s=⟨#[]⟩
  ·exact h0
  ·rw[bo h0] at h;cases h
 ·rintro rfl;exact nZ

theorem mx (n:ByteArray) (c:Int) (z:ByteArray) (a:Option Addr) (len cap:Nat) (d:ByteArray) (p:Int) (w:World) (hd:d.size<=9223372036854775807):
  Calls Tryz.prog 219 #[.agg #[.string n,.int .i64 c,.string z,.slice a len cap,.string d,.int .i64 p]] w (aq (cN d p) w):=by
 by_cases h0:p=0
 ·subst h0;go_enter Tryz.func219,Tryz.ntmps219;go_wp2;go_ret;exact⟨_,rfl,by rw[dG,jl],al _ _⟩
 have hq0:(p==0)=false:=by simp[h0]
 by_cases h1:p=1
 ·subst h1;go_enter Tryz.func219,Tryz.ntmps219;go_wp2_with (go_at_call 207;refine (aV _ _ hd).mono ?_;rintro e w1 ⟨r,rfl,hr,rfl⟩);go_ret;exact⟨r,rfl,by rw[eY d (Or.inl rfl),hr],al _ _⟩
 have hq1:(p==1)=false:=by simp[h1]
 by_cases h2:p=2
 ·subst h2;go_enter Tryz.func219,Tryz.ntmps219;go_wp2_with (go_at_call 207;refine (aV _ _ hd).mono ?_;rintro e w1 ⟨r,rfl,hr,rfl⟩);go_ret;exact⟨r,rfl,by rw[eY d (Or.inr rfl),hr],al _ _⟩
 have hq2:(p==2)=false:=by simp[h2]
 go_enter Tryz.func219,Tryz.ntmps219;go_wp2;go_ret;exact⟨false,rfl,⟨fun h=>bM,fun h=>absurd h (jU af)⟩,al _ _⟩

theorem sf (n:ByteArray) (c:Int) (z:ByteArray) (a:Option Addr) (len cap:Nat) (zs:List ByteArray) (d:ByteArray) (p:Int) (w:World) (hn:n.size<=9223372036854775807) (hz:z.size<=9223372036854775807) (hd:d.size<=9223372036854775807) (hr:av w a len cap zs):
  Calls Tryz.prog 218 #[.agg #[.string n,.int .i64 c,.string z,.slice a len cap,.string d,.int .i64 p]] w (aq (sA n c z zs d p) w):=by
 have HR:Hid (av w a len cap zs):=hr;clear hr;go_enter Tryz.func218,Tryz.ntmps218;go_wp2_with fail;refine (aV n _ hn).mono ?_;rintro e w1 ⟨r,rfl,hr,rfl⟩;by_cases hq:r=true;case neg=>
  exact ed
 have h0:=aa (hr.1 hq);subst hq;clear hr;go_wp2_with fail;refine (bC c 0 1000000 _).mono ?_;rintro e w1 ⟨r,rfl,hr,rfl⟩;by_cases hq:r=true;case neg=>
  exact fh
 have h1:=aa (hr.1 hq);subst hq;clear hr;go_wp2_with fail;refine (cI z _ hz).mono ?_;rintro e w1 ⟨r,rfl,hr,rfl⟩;by_cases hq:r=true;case neg=>
  exact fi
 have h2:=aa (hr.1 hq);subst hq;clear hr;go_wp2_with fail;refine (dM a len cap zs 3 _ (HR.below (al _ _))).mono ?_;rintro e w1 ⟨r,rfl,hr,rfl⟩;by_cases hq:r=true;case neg=>
  exact iF
 have h3:=aa (hr.1 hq);subst hq;clear hr;go_wp2_with fail;refine (mx n c z a len cap d p _ hd).mono ?_;rintro e w1 ⟨r,rfl,hr,hb⟩;go_wp2_with fail;go_ret;exact⟨r,rfl,⟨fun h=>⟨h0.out,h1.out,h2.out,h3.out,hr.1 h⟩,fun h=>hr.2 h.2.2.2.2⟩,(cm hb).2.1⟩

theorem eZ (n:ByteArray) (c:Int) (z:ByteArray) (a:Option Addr) (len cap:Nat) (zs:List ByteArray) (d:ByteArray) (p:Int) (w:World) (hn:n.size<=9223372036854775807) (hz:z.size<=9223372036854775807) (hd:d.size<=9223372036854775807) (hr:av w a len cap zs):
  Calls Tryz.prog 116 #[.agg #[.string n,.int .i64 c,.string z,.slice a len cap,.string d,.int .i64 p]] w (aq (sA n c z zs d p) w):=by
 have HR:Hid (av w a len cap zs):=hr;clear hr;go_enter Tryz.func116,Tryz.ntmps116;go_wp2_with fail;refine (aW n _ hn).mono ?_;rintro e w1 ⟨r,rfl,hr,rfl⟩;by_cases hq:r=true;case neg=>
  exact ed
 have h0:=aa (hr.1 hq);subst hq;clear hr;go_wp2_with fail;refine (kY c _).mono ?_;rintro e w1 ⟨r,rfl,hr,rfl⟩;by_cases hq:r=true;case neg=>
  exact fh
 have h1:=aa (hr.1 hq);subst hq;clear hr;go_wp2_with fail;refine (dd z _ hz).mono ?_;rintro e w1 ⟨r,rfl,hr,rfl⟩;by_cases hq:r=true;case neg=>
  exact fi
 have h2:=aa (hr.1 hq);subst hq;clear hr;go_wp2_with fail;refine (dH a len cap zs 3 _ (HR.below (al _ _))).mono ?_;rintro e w1 ⟨r,rfl,hr,hb⟩;obtain⟨hsl,hb1,-⟩:=cm hb;have HB:Hid (Below w.heap.size w w1):=hb1;by_cases hq:r=true;case neg=>
  have HN:=aa (fun h=>hq (hr.2 h));clear hsl hb hb1 hr;go_wp2_with fail;go_ret;exact⟨false,rfl,⟨fun h=>bM,fun h=>(HN.out h.2.2.2.1).elim⟩,HB.out⟩
 have h3:=aa (hr.1 hq);subst hq;have hc4:=ck4 hsl;have hc5:=ck5 hsl;clear hr hsl hb hb1;go_wp2_with fail;refine (jj p 0 2 _).mono ?_;rintro e w2 ⟨r,rfl,hr,rfl⟩;by_cases hq:r=true;case neg=>
  have HN:=aa (fun h=>hq (hr.2 h));clear hr;go_wp2_with fail;go_ret;exact⟨false,rfl,⟨fun h=>bM,fun h=>absurd h.2.2.2.2 (jU (by have h9:¬(0<=p/\p<=2):=HN.out;omega))⟩,HB.out⟩
 have h4:=hr.1 hq;subst hq;clear hr;by_cases hp:p=0
 ·subst hp;go_wp2_with fail;go_ret;exact⟨_,rfl,⟨fun h=>⟨h0.out,h1.out,h2.out,h3.out,(dG d).2 ((jl d).1 h)⟩,fun h=>(jl d).2 ((dG d).1 h.2.2.2.2)⟩,HB.out⟩
 have hq:(p==0)=false:=by simp[hp]
 have hp2:p=1\/p=2:=by unfold Inn at h4;omega
 go_wp2_with fail;refine (aW d _ hd).mono ?_;rintro e w2 ⟨r,rfl,hr,rfl⟩;go_wp2_with fail;go_ret;exact⟨r,rfl,⟨fun h=>⟨h0.out,h1.out,h2.out,h3.out,(eY d hp2).2 (hr.1 h)⟩,fun h=>hr.2 ((eY d hp2).1 h.2.2.2.2)⟩,HB.out⟩

def sz (n:ByteArray) (c:Int) (z k:ByteArray) (x:Bool) (m:ByteArray) (y:Bool) (zs:List ByteArray):Prop:=
 bc n/\Inn c 1 1048576/\bc z/\bc k/\cW m/\(y=true->m=⟨#[]⟩)/\dv zs (if x=true then 1 else 6)

theorem hE (n:ByteArray) (c:Int) (z k:ByteArray) (x:Bool) (m:ByteArray) (y:Bool) (a:Option Addr) (len cap:Nat) (w:World):
  Calls Tryz.prog 210 #[.agg #[.string n,.int .i64 c,.string z,.string k,.bool x,.string m,.bool y,.slice a len cap]] w fun e w'=>e=.returned (.int .i64 (if x=true then 1 else 6))/\Below w.heap.size w w':=by
 cases x;all_goals (
  go_enter Tryz.func210,Tryz.ntmps210
  go_wp2
  go_ret
  exact⟨rfl,al _ _⟩)

theorem dD {zs:List ByteArray} {x:Bool} (h:dv zs (if x=true then 1 else 6)):dv zs 6:=by
 refine⟨?_,h.2⟩;have:=h.1;split at this <;> omega

theorem eX (n:ByteArray) (c:Int) (z k:ByteArray) (x:Bool) (m:ByteArray) (y:Bool) (a:Option Addr) (len cap:Nat) (zs:List ByteArray) (w:World) (hn:n.size<=9223372036854775807) (hz:z.size<=9223372036854775807) (hk:k.size<=9223372036854775807) (hm:m.size<=9223372036854775807) (hr:av w a len cap zs):
  Calls Tryz.prog 114 #[.agg #[.string n,.int .i64 c,.string z,.string k,.bool x,.string m,.bool y,.slice a len cap]] w (aq (sz n c z k x m y zs) w):=by
 have HR:Hid (av w a len cap zs):=hr;have hzl:=hr.1;have hlc:=xp hr.2.1 hr.2.2.1;clear hr;cases y
 ·have HY:Hid (false=true->m=⟨#[]⟩):=fun h=>bM;go_enter Tryz.func114,Tryz.ntmps114;go_wp2_with fail;refine (aW n _ hn).mono ?_;rintro e w1 ⟨r,rfl,hr,rfl⟩;by_cases hq:r=true;case neg=>
   exact ed
  have h0:=aa (hr.1 hq);subst hq;clear hr;go_wp2_with fail;refine (ey c _).mono ?_;rintro e w1 ⟨r,rfl,hr,rfl⟩;by_cases hq:r=true;case neg=>
   exact fh
  have h1:=aa (hr.1 hq);subst hq;clear hr;go_wp2_with fail;refine (aW z _ hz).mono ?_;rintro e w1 ⟨r,rfl,hr,rfl⟩;by_cases hq:r=true;case neg=>
   exact fi
  have h2:=aa (hr.1 hq);subst hq;clear hr;go_wp2_with fail;refine (aW k _ hk).mono ?_;rintro e w1 ⟨r,rfl,hr,rfl⟩;by_cases hq:r=true;case neg=>
   exact iF
  have h3:=aa (hr.1 hq);subst hq;clear hr;go_wp2_with fail;refine (dd _ _ hm).mono ?_;rintro e w1 ⟨r,rfl,hr,rfl⟩;by_cases hq:r=true;case neg=>
   exact kM
  have h4:=aa (hr.1 hq);subst hq;clear hr;go_wp2_with fail;refine (dH a len cap zs 6 _ (HR.below (al _ _))).mono ?_;rintro e w1 ⟨r,rfl,hr,hb⟩;obtain⟨hsl,hb1,-⟩:=cm hb;have HB:Hid (Below w.heap.size w w1):=hb1;by_cases hq:r=true;case neg=>
   exact rN
  have h6:=aa (hr.1 hq);subst hq;have hc4:=ck4 hsl;have hc7:=ck7 hsl;clear hr hsl hb hb1;cases x
  ·go_wp2_with fail;go_ret;exact⟨true,rfl,⟨fun _=>⟨h0.out,h1.out,h2.out,h3.out,h4.out,HY.out,by simpa using h6.out⟩,fun _=>rfl⟩,HB.out⟩
  ·go_wp2_with fail;go_ret;refine⟨_,rfl,⟨fun h=>⟨h0.out,h1.out,h2.out,h3.out,h4.out,HY.out,?_,h6.2⟩,fun h=>?_⟩,HB.out⟩
   ·simp at h ⊢;omega
   ·have:=h.2.2.2.2.2.2.1;simp at this ⊢;omega
 by_cases hm0:m=⟨#[]⟩
 ·subst hm0;have HY:Hid True:=trivial;go_enter Tryz.func114,Tryz.ntmps114;go_wp2_with fail;refine (aW n _ hn).mono ?_;rintro e w1 ⟨r,rfl,hr,rfl⟩;by_cases hq:r=true;case neg=>
   exact ed
  have h0:=aa (hr.1 hq);subst hq;clear hr;go_wp2_with fail;refine (ey c _).mono ?_;rintro e w1 ⟨r,rfl,hr,rfl⟩;by_cases hq:r=true;case neg=>
   exact fh
  have h1:=aa (hr.1 hq);subst hq;clear hr;go_wp2_with fail;refine (aW z _ hz).mono ?_;rintro e w1 ⟨r,rfl,hr,rfl⟩;by_cases hq:r=true;case neg=>
   exact fi
  have h2:=aa (hr.1 hq);subst hq;clear hr;go_wp2_with fail;refine (aW k _ hk).mono ?_;rintro e w1 ⟨r,rfl,hr,rfl⟩;by_cases hq:r=true;case neg=>
   exact iF
  have h3:=aa (hr.1 hq);subst hq;clear hr;go_wp2_with fail;refine (dd _ _ hm).mono ?_;rintro e w1 ⟨r,rfl,hr,rfl⟩;by_cases hq:r=true;case neg=>
   exact kM
  have h4:=aa (hr.1 hq);subst hq;clear hr;go_wp2_with fail;refine (dH a len cap zs 6 _ (HR.below (al _ _))).mono ?_;rintro e w1 ⟨r,rfl,hr,hb⟩;obtain⟨hsl,hb1,-⟩:=cm hb;have HB:Hid (Below w.heap.size w w1):=hb1;by_cases hq:r=true;case neg=>
   exact rN
  have h6:=aa (hr.1 hq);subst hq;have hc4:=ck4 hsl;have hc7:=ck7 hsl;clear hr hsl hb hb1;cases x
  ·go_wp2_with fail;go_ret;exact⟨true,rfl,⟨fun _=>⟨h0.out,h1.out,h2.out,h3.out,h4.out,(fun _=>rfl),by simpa using h6.out⟩,fun _=>rfl⟩,HB.out⟩
  ·go_wp2_with fail;go_ret;refine⟨_,rfl,⟨fun h=>⟨h0.out,h1.out,h2.out,h3.out,h4.out,(fun _=>rfl),?_,h6.2⟩,fun h=>?_⟩,HB.out⟩
   ·simp at h ⊢;omega
   ·have:=h.2.2.2.2.2.2.1;simp at this ⊢;omega
 have hq9:=bo hm0;go_enter Tryz.func114,Tryz.ntmps114;go_wp2_with fail;refine (aW n _ hn).mono ?_;rintro e w1 ⟨r,rfl,hr,rfl⟩;by_cases hq:r=true;case neg=>
  exact ed
 have h0:=aa (hr.1 hq);subst hq;clear hr;go_wp2_with fail;refine (ey c _).mono ?_;rintro e w1 ⟨r,rfl,hr,rfl⟩;by_cases hq:r=true;case neg=>
  exact fh
 have h1:=aa (hr.1 hq);subst hq;clear hr;go_wp2_with fail;refine (aW z _ hz).mono ?_;rintro e w1 ⟨r,rfl,hr,rfl⟩;by_cases hq:r=true;case neg=>
  exact fi
 have h2:=aa (hr.1 hq);subst hq;clear hr;go_wp2_with fail;refine (aW k _ hk).mono ?_;rintro e w1 ⟨r,rfl,hr,rfl⟩;by_cases hq:r=true;case neg=>
  exact iF
 have h3:=aa (hr.1 hq);subst hq;clear hr;go_wp2_with fail;refine (dd _ _ hm).mono ?_;rintro e w1 ⟨r,rfl,hr,rfl⟩;by_cases hq:r=true;case neg=>
  exact kM
 have h4:=aa (hr.1 hq);subst hq;clear hr;exact qG

theorem aw {w:World} {b:Nat} {vs:Array Value} {T:TypeId} (h:w.heap[b]?=some (.cells vs T (0,0))) (i:Nat):w.frozen? ⟨b,i,none⟩=false:=by simp[World.frozen?,h]
theorem aL {w1:World} {b i k:Nat} {v:Value} {o:Option Obj} (hk:k≠b) (h:w1.heap[k]?=o):(w1.setCell ⟨b,i,none⟩ v).heap[k]?=o:=by rw[xi _ _ _ _ hk];exact h
theorem ah {w w1:World} {B b i:Nat} {v:Value} (hB:B<=b) (h:Below B w w1):Below B w (w1.setCell ⟨b,i,none⟩ v):=h.setCell hB v
theorem ae {w:World} {b:Nat} {o:Obj} (h:w.heap[b]?=some o):b<w.heap.size:=by
 rcases Nat.lt_or_ge b w.heap.size with h1|h1
 ·exact h1
 ·rw[Array.getElem?_eq_none h1] at h;cases h
theorem upK {w w':World} {k:Nat} {o:Obj} (h:Hid (w.heap[k]?=some o)) (hb:Below w.heap.size w w'):Hid (w'.heap[k]?=some o):=(hb.block _ (ae h)).trans h
theorem upB {w w1 w2:World} (h:Hid (Below w.heap.size w w1)) (hb:Below w1.heap.size w1 w2):Hid (Below w.heap.size w w2):=Below.trans h (hb.mono (Below.size h))
theorem sb1 {w w1:World} {i:Nat} {v:Value} (h:Below w.heap.size w w1):Below w.heap.size w (w1.setCell ⟨w.heap.size+1,i,none⟩ v):=ah (by omega) h
theorem sb2 {w w1:World} {i:Nat} {v:Value} (h:Below w.heap.size w w1):Below w.heap.size w (w1.setCell ⟨w.heap.size+1+1,i,none⟩ v):=ah (by omega) h
theorem sb3 {w w1:World} {i:Nat} {v:Value} (h:Below w.heap.size w w1):Below w.heap.size w (w1.setCell ⟨w.heap.size+1+1+1,i,none⟩ v):=ah (by omega) h
theorem cL (w:World) (o p:Obj):((w.alloc o).alloc p).heap[w.heap.size]?=some o:=by
 rw[xM _ _ _ aT];exact xt
theorem bV (w:World) (o p:Obj):((w.alloc o).alloc p).heap[w.heap.size+1]?=some p:=by
 have h:w.heap.size+1=(w.alloc o).heap.size:=aT
 rw[h];exact xt
theorem gA (w:World) (o p q:Obj):(((w.alloc o).alloc p).alloc q).heap[w.heap.size]?=some o:=by
 rw[xM _ _ _ bX,xM _ _ _ aT];show (w.heap.push _)[w.heap.size]?=_;simp
theorem dO (w:World) (o p q:Obj):(((w.alloc o).alloc p).alloc q).heap[w.heap.size+1]?=some p:=by
 rw[xM _ _ _ aT];have h:w.heap.size+1=(w.alloc o).heap.size:=aT
 rw[h];show ((w.alloc o).heap.push _)[(w.alloc o).heap.size]?=_;exact xt
theorem dN (w:World) (o p q:Obj):(((w.alloc o).alloc p).alloc q).heap[w.heap.size+1+1]?=some q:=by
 have h:w.heap.size+1+1=((w.alloc o).alloc p).heap.size:=aT
 rw[h];show (((w.alloc o).alloc p).heap.push _)[((w.alloc o).alloc p).heap.size]?=_;exact xt
def SzB (left:Int) (p:Prop) (w:World) (e:Ending) (w':World):Prop:=∃r:Int,e=.returned (.int .i64 r)/\(r= -1\/(0<=r/\r<=left/\p))/\Below w.heap.size w w'
theorem aM (w:World) (o p:Obj):Below w.heap.size w ((w.alloc o).alloc p):=(al w o).alloc (by simp) p
theorem bS (w:World) (o p q:Obj):Below w.heap.size w (((w.alloc o).alloc p).alloc q):=(aM w o p).alloc (by simp;omega) q
theorem a_ {a b:ByteArray} (h:a=b):(a.toList==b.toList)=true:=by rw[h];simp

theorem jQ (n:ByteArray) (x:Bool) (y:Bool) (z:ByteArray) (left:Int) (w:World) (hn:n.size<=9223372036854775807) (hz:z.size<=9223372036854775807) (h0:0<=left) (h1:left<=1048576):
  Calls Tryz.prog 54 #[.agg #[.string n,.bool x,.bool y,.string z],.int .i64 left] w (SzB left True w):=by
 by_cases h9n:left<(n.size:Int)
 ·go_enter Tryz.func54,Tryz.ntmps54;go_wp2;go_ret;exact⟨-1,rfl,.inl rfl,al _ _⟩
 by_cases h9z:left<(n.size:Int)+(z.size:Int)
 ·go_enter Tryz.func54,Tryz.ntmps54;go_wp2;go_ret;exact⟨-1,rfl,.inl rfl,al _ _⟩
 go_enter Tryz.func54,Tryz.ntmps54;go_wp2;go_ret;exact⟨_,rfl,.inr ⟨by omega,by omega,trivial⟩,al _ _⟩

theorem jO (n:ByteArray) (x:Bool) (y:Bool) (z:ByteArray) (w:World):
  Calls Tryz.prog 73 #[.agg #[.string n,.bool x,.bool y,.string z]] w fun e w'=>e=.returned (.agg #[.string n,.bool x,.bool y,.string z])/\Below w.heap.size w w':=by
 go_enter Tryz.func73,Tryz.ntmps73;go_wp2;exact bodyPost_ret (v:=.agg #[.string n,.bool x,.bool y,.string z]) (by simp[results,Tryz.results73,go_sem]) rfl ⟨rfl,bS _ _ _ _⟩

theorem jR (n:ByteArray) (z:Int) (k:ByteArray) (x:Bool) (v:ByteArray) (left:Int) (w:World) (hn:n.size<=9223372036854775807) (hk:k.size<=9223372036854775807) (hv:v.size<=9223372036854775807) (h0:0<=left) (h1:left<=1048576):
  Calls Tryz.prog 56 #[.agg #[.string n,.int .i64 z,.string k,.bool x,.string v],.int .i64 left] w (SzB left True w):=by
 by_cases h9n:left<(n.size:Int)
 ·exact lX
 by_cases h9k:left<(n.size:Int)+(k.size:Int)
 ·exact lX
 by_cases h9v:left<(n.size:Int)+(k.size:Int)+(v.size:Int)
 ·exact lX
 go_enter Tryz.func56,Tryz.ntmps56;go_wp2;go_ret;exact⟨_,rfl,.inr ⟨by omega,by omega,trivial⟩,al _ _⟩

theorem jP (n:ByteArray) (z:Int) (k:ByteArray) (x:Bool) (v:ByteArray) (w:World):
  Calls Tryz.prog 75 #[.agg #[.string n,.int .i64 z,.string k,.bool x,.string v]] w fun e w'=>e=.returned (.agg #[.string n,.int .i64 z,.string k,.bool x,.string v])/\Below w.heap.size w w':=by
 go_enter Tryz.func75,Tryz.ntmps75;go_wp2;exact bodyPost_ret (v:=.agg #[.string n,.int .i64 z,.string k,.bool x,.string v]) (by simp[results,Tryz.results75,go_sem]) rfl ⟨rfl,bS _ _ _ _⟩

theorem lC (n:ByteArray) (z:ByteArray) (c:Int) (s:Int) (u:Int) (d:Bool) (a:Option Addr) (len cap:Nat) (zs:List ByteArray) (left:Int) (w:World) (hn:n.size<=9223372036854775807) (hz:z.size<=9223372036854775807) (hr:av w a len cap zs) (h0:0<=left) (h1:left<=1048576):
  Calls Tryz.prog 53 #[.agg #[.string n,.string z,.int .i64 c,.int .i64 s,.int .i64 u,.bool d,.slice a len cap],.int .i64 left] w (SzB left (len<=1048576) w):=by
 have HR:Hid (av w a len cap zs):=hr;clear hr;by_cases h9n:left<(n.size:Int)
 ·go_enter Tryz.func53,Tryz.ntmps53;go_wp2;go_ret;exact⟨-1,rfl,.inl rfl,al _ _⟩
 by_cases h9z:left<(n.size:Int)+(z.size:Int)
 ·go_enter Tryz.func53,Tryz.ntmps53;go_wp2;go_ret;exact⟨-1,rfl,.inl rfl,al _ _⟩
 go_enter Tryz.func53,Tryz.ntmps53;exact uN

theorem lB (n:ByteArray) (z:ByteArray) (c:Int) (s:Int) (u:Int) (d:Bool) (a:Option Addr) (len cap:Nat) (zs:List ByteArray) (w:World) (hr:av w a len cap zs) (hl:len<=1048576):
  Calls Tryz.prog 72 #[.agg #[.string n,.string z,.int .i64 c,.int .i64 s,.int .i64 u,.bool d,.slice a len cap]] w fun e w'=>e=.returned (.agg #[.string n,.string z,.int .i64 c,.int .i64 s,.int .i64 u,.bool d,.slice (some ⟨w.heap.size+1+1+1,0,none⟩) len len])/\w'.heap[w.heap.size+1+1+1]?=some (.cells (zs.map xo).toArray 9 (0,0))/\Below w.heap.size w w':=by
 have HR:Hid (av w a len cap zs):=hr;clear hr;go_enter Tryz.func72,Tryz.ntmps72;go_wp2_with fail;refine (iW a len cap zs _ (HR.below (bS _ _ _ _)) hl).mono ?_;rintro e w1 ⟨rfl,hG,hb⟩;have hsz:(((w.alloc (.cells #[.string n,.string z,.int .i64 c,.int .i64 s,.int .i64 u,.bool d,.slice a len cap] 90)).alloc (.cells #[.string ⟨#[]⟩,.string ⟨#[]⟩,.int .i64 0,.int .i64 0,.int .i64 0,.bool false,.slice none 0 0] 103)).alloc (.cells #[.string n,.string z,.int .i64 c,.int .i64 s,.int .i64 u,.bool d,.slice none 0 0] 103)).heap.size=w.heap.size+1+1+1:=aT
 rw[hsz] at hG hb ⊢;have g1:w1.heap[w.heap.size+1]?=some (.cells #[.string ⟨#[]⟩,.string ⟨#[]⟩,.int .i64 0,.int .i64 0,.int .i64 0,.bool false,.slice none 0 0] 103 (0,0)):=by rw[hb.block _ af];exact dO _ _ _ _
 have g2:w1.heap[w.heap.size+1+1]?=some (.cells #[.string n,.string z,.int .i64 c,.int .i64 s,.int .i64 u,.bool d,.slice none 0 0] 103 (0,0)):=by rw[hb.block _ af];exact dN _ _ _ _
 obtain⟨HG,HB,c20,c10,f10,c21,c11,f11,c22,c12,f12,c23,c13,f13,c24,c14,f14,c25,c15,f15,c26⟩:=tL;have f26:=aw g2 6;have c16:=ck6 g1;have f16:=aw g1 6;clear g1 g2 hG hb hsz;go_wp2;refine bodyPost_ret (v:=.agg #[.string n,.string z,.int .i64 c,.int .i64 s,.int .i64 u,.bool d,.slice (some ⟨w.heap.size+1+1+1,0,none⟩) len len]) (by simp[results,Tryz.results72,go_sem, *]) rfl ⟨rfl,?_,?_⟩
 ·exact aL af (aL af (aL af (aL af (aL af (aL af (aL af (aL af (HG.out))))))))
 ·exact ah af (ah af (ah af (ah af (ah af (ah af (ah af (ah af (HB.out))))))))

theorem mU (n:ByteArray) (z:ByteArray) (c:Int) (s:Int) (u:Int) (d:Bool) (a:Option Addr) (len cap:Nat) (zs:List ByteArray) (a':Option Addr) (len' cap':Nat) (w:World) (hr:av w a len cap zs) (hr':av w a' len' cap' zs):
  Calls Tryz.prog 98 #[.agg #[.string n,.string z,.int .i64 c,.int .i64 s,.int .i64 u,.bool d,.slice a len cap],.agg #[.string n,.string z,.int .i64 c,.int .i64 s,.int .i64 u,.bool d,.slice a' len' cap']] w fun e w'=>e=.returned (.bool true)/\Below w.heap.size w w':=by
 have HR:Hid (av w a len cap zs):=hr;have HR':Hid (av w a' len' cap' zs):=hr';clear hr hr';go_enter Tryz.func98,Tryz.ntmps98;exact uQ

theorem iX (n:ByteArray) (c:Int) (z:ByteArray) (k:ByteArray) (x:Bool) (m:ByteArray) (y:Bool) (a:Option Addr) (len cap:Nat) (zs:List ByteArray) (left:Int) (w:World) (hn:n.size<=9223372036854775807) (hz:z.size<=9223372036854775807) (hk:k.size<=9223372036854775807) (hm:m.size<=9223372036854775807) (hr:av w a len cap zs) (h0:0<=left) (h1:left<=1048576):
  Calls Tryz.prog 55 #[.agg #[.string n,.int .i64 c,.string z,.string k,.bool x,.string m,.bool y,.slice a len cap],.int .i64 left] w (SzB left (len<=1048576) w):=by
 have HR:Hid (av w a len cap zs):=hr;clear hr;by_cases h9n:left<(n.size:Int)
 ·exact ja
 by_cases h9z:left<(n.size:Int)+(z.size:Int)
 ·exact ja
 by_cases h9k:left<(n.size:Int)+(z.size:Int)+(k.size:Int)
 ·exact ja
 by_cases h9m:left<(n.size:Int)+(z.size:Int)+(k.size:Int)+(m.size:Int)
 ·exact ja
 go_enter Tryz.func55,Tryz.ntmps55;exact uN

theorem iV (n:ByteArray) (c:Int) (z:ByteArray) (k:ByteArray) (x:Bool) (m:ByteArray) (y:Bool) (a:Option Addr) (len cap:Nat) (zs:List ByteArray) (w:World) (hr:av w a len cap zs) (hl:len<=1048576):
  Calls Tryz.prog 74 #[.agg #[.string n,.int .i64 c,.string z,.string k,.bool x,.string m,.bool y,.slice a len cap]] w fun e w'=>e=.returned (.agg #[.string n,.int .i64 c,.string z,.string k,.bool x,.string m,.bool y,.slice (some ⟨w.heap.size+1+1+1,0,none⟩) len len])/\w'.heap[w.heap.size+1+1+1]?=some (.cells (zs.map xo).toArray 9 (0,0))/\Below w.heap.size w w':=by
 have HR:Hid (av w a len cap zs):=hr;clear hr;go_enter Tryz.func74,Tryz.ntmps74;go_wp2_with fail;refine (iW a len cap zs _ (HR.below (bS _ _ _ _)) hl).mono ?_;rintro e w1 ⟨rfl,hG,hb⟩;have hsz:(((w.alloc (.cells #[.string n,.int .i64 c,.string z,.string k,.bool x,.string m,.bool y,.slice a len cap] 95)).alloc (.cells #[.string ⟨#[]⟩,.int .i64 0,.string ⟨#[]⟩,.string ⟨#[]⟩,.bool false,.string ⟨#[]⟩,.bool false,.slice none 0 0] 62)).alloc (.cells #[.string n,.int .i64 c,.string z,.string k,.bool x,.string m,.bool y,.slice none 0 0] 62)).heap.size=w.heap.size+1+1+1:=aT
 rw[hsz] at hG hb ⊢;have g1:w1.heap[w.heap.size+1]?=some (.cells #[.string ⟨#[]⟩,.int .i64 0,.string ⟨#[]⟩,.string ⟨#[]⟩,.bool false,.string ⟨#[]⟩,.bool false,.slice none 0 0] 62 (0,0)):=by rw[hb.block _ af];exact dO _ _ _ _
 have g2:w1.heap[w.heap.size+1+1]?=some (.cells #[.string n,.int .i64 c,.string z,.string k,.bool x,.string m,.bool y,.slice none 0 0] 62 (0,0)):=by rw[hb.block _ af];exact dN _ _ _ _
 obtain⟨HG,HB,c20,c10,f10,c21,c11,f11,c22,c12,f12,c23,c13,f13,c24,c14,f14,c25,c15,f15,c26⟩:=tL;have c16:=ck6 g1;have f16:=aw g1 6;have c27:=ck7 g2;have f27:=aw g2 7;have c17:=ck7 g1;have f17:=aw g1 7;clear g1 g2 hG hb hsz;go_wp2;refine bodyPost_ret (v:=.agg #[.string n,.int .i64 c,.string z,.string k,.bool x,.string m,.bool y,.slice (some ⟨w.heap.size+1+1+1,0,none⟩) len len]) (by simp[results,Tryz.results74,go_sem, *]) rfl ⟨rfl,?_,?_⟩
 ·exact ur
 ·exact uq

theorem jy (n:ByteArray) (c:Int) (z:ByteArray) (k:ByteArray) (x:Bool) (m:ByteArray) (y:Bool) (a:Option Addr) (len cap:Nat) (zs:List ByteArray) (a':Option Addr) (len' cap':Nat) (w:World) (hr:av w a len cap zs) (hr':av w a' len' cap' zs):
  Calls Tryz.prog 100 #[.agg #[.string n,.int .i64 c,.string z,.string k,.bool x,.string m,.bool y,.slice a len cap],.agg #[.string n,.int .i64 c,.string z,.string k,.bool x,.string m,.bool y,.slice a' len' cap']] w fun e w'=>e=.returned (.bool true)/\Below w.heap.size w w':=by
 have HR:Hid (av w a len cap zs):=hr;have HR':Hid (av w a' len' cap' zs):=hr';clear hr hr';go_enter Tryz.func100,Tryz.ntmps100;exact uQ

theorem ov (n:ByteArray) (c:Int) (z:ByteArray) (a:Option Addr) (len cap:Nat) (zs:List ByteArray) (d:ByteArray) (p:Int) (left:Int) (w:World) (hn:n.size<=9223372036854775807) (hz:z.size<=9223372036854775807) (hd:d.size<=9223372036854775807) (hr:av w a len cap zs) (h0:0<=left) (h1:left<=1048576):
  Calls Tryz.prog 57 #[.agg #[.string n,.int .i64 c,.string z,.slice a len cap,.string d,.int .i64 p],.int .i64 left] w (SzB left (len<=1048576) w):=by
 have HR:Hid (av w a len cap zs):=hr;clear hr;by_cases h9n:left<(n.size:Int)
 ·go_enter Tryz.func57,Tryz.ntmps57;go_wp2;go_ret;exact⟨-1,rfl,.inl rfl,al _ _⟩
 by_cases h9z:left<(n.size:Int)+(z.size:Int)
 ·go_enter Tryz.func57,Tryz.ntmps57;go_wp2;go_ret;exact⟨-1,rfl,.inl rfl,al _ _⟩
 go_enter Tryz.func57,Tryz.ntmps57;go_wp2_with fail;refine (nf a len cap zs _ _ (HR.below (al _ _)) af af).mono ?_;rintro e w1 ⟨r,rfl,hr,rfl⟩;rcases hr with rfl|⟨hr0,hr1,hr2⟩
 ·go_wp2;go_ret;exact⟨-1,rfl,.inl rfl,al _ _⟩
 by_cases h9d:r<(d.size:Int)
 ·go_wp2;go_ret;exact⟨-1,rfl,.inl rfl,al _ _⟩
 go_wp2;go_ret;exact⟨_,rfl,.inr ⟨by omega,by omega,by omega⟩,al _ _⟩

theorem ot (n:ByteArray) (c:Int) (z:ByteArray) (a:Option Addr) (len cap:Nat) (zs:List ByteArray) (d:ByteArray) (p:Int) (w:World) (hr:av w a len cap zs) (hl:len<=1048576):
  Calls Tryz.prog 76 #[.agg #[.string n,.int .i64 c,.string z,.slice a len cap,.string d,.int .i64 p]] w fun e w'=>e=.returned (.agg #[.string n,.int .i64 c,.string z,.slice (some ⟨w.heap.size+1+1+1,0,none⟩) len len,.string d,.int .i64 p])/\w'.heap[w.heap.size+1+1+1]?=some (.cells (zs.map xo).toArray 9 (0,0))/\Below w.heap.size w w':=by
 have HR:Hid (av w a len cap zs):=hr;clear hr;go_enter Tryz.func76,Tryz.ntmps76;go_wp2_with fail;refine (iW a len cap zs _ (HR.below (bS _ _ _ _)) hl).mono ?_;rintro e w1 ⟨rfl,hG,hb⟩;have hsz:(((w.alloc (.cells #[.string n,.int .i64 c,.string z,.slice a len cap,.string d,.int .i64 p] 101)).alloc (.cells #[.string ⟨#[]⟩,.int .i64 0,.string ⟨#[]⟩,.slice none 0 0,.string ⟨#[]⟩,.int .i64 0] 105)).alloc (.cells #[.string n,.int .i64 c,.string z,.slice none 0 0,.string ⟨#[]⟩,.int .i64 0] 105)).heap.size=w.heap.size+1+1+1:=aT
 rw[hsz] at hG hb ⊢;have g0:w1.heap[w.heap.size]?=some (.cells #[.string n,.int .i64 c,.string z,.slice a len cap,.string d,.int .i64 p] 101 (0,0)):=by rw[hb.block _ af];exact gA _ _ _ _
 have g1:w1.heap[w.heap.size+1]?=some (.cells #[.string ⟨#[]⟩,.int .i64 0,.string ⟨#[]⟩,.slice none 0 0,.string ⟨#[]⟩,.int .i64 0] 105 (0,0)):=by rw[hb.block _ af];exact dO _ _ _ _
 have g2:w1.heap[w.heap.size+1+1]?=some (.cells #[.string n,.int .i64 c,.string z,.slice none 0 0,.string ⟨#[]⟩,.int .i64 0] 105 (0,0)):=by rw[hb.block _ af];exact dN _ _ _ _
 have HG:=aa hG;have HB:Hid (Below w.heap.size w w1):=(bS _ _ _ _).trans (hb.mono af);have c04:=ck4 g0;have c05:=ck5 g0;have c20:=ck0 g2;have c10:=ck0 g1;have f10:=aw g1 0;have c21:=ck1 g2;have c11:=ck1 g1;have f11:=aw g1 1;have c22:=ck2 g2;have c12:=ck2 g1;have f12:=aw g1 2;have c23:=ck3 g2;have f23:=aw g2 3;have c13:=ck3 g1;have f13:=aw g1 3;have c24:=ck4 g2;have f24:=aw g2 4;have c14:=ck4 g1;have f14:=aw g1 4;have c25:=ck5 g2;have f25:=aw g2 5;have c15:=ck5 g1;have f15:=aw g1 5;clear g0 g1 g2 hG hb hsz;go_wp2;refine bodyPost_ret (v:=.agg #[.string n,.int .i64 c,.string z,.slice (some ⟨w.heap.size+1+1+1,0,none⟩) len len,.string d,.int .i64 p]) (by simp[results,Tryz.results76,go_sem, *]) rfl ⟨rfl,?_,?_⟩
 ·exact ur
 ·exact uq

theorem oZ (n:ByteArray) (c:Int) (z:ByteArray) (a:Option Addr) (len cap:Nat) (zs:List ByteArray) (d:ByteArray) (p:Int) (a':Option Addr) (len' cap':Nat) (w:World) (hr:av w a len cap zs) (hr':av w a' len' cap' zs):
  Calls Tryz.prog 102 #[.agg #[.string n,.int .i64 c,.string z,.slice a len cap,.string d,.int .i64 p],.agg #[.string n,.int .i64 c,.string z,.slice a' len' cap',.string d,.int .i64 p]] w fun e w'=>e=.returned (.bool true)/\Below w.heap.size w w':=by
 have HR:Hid (av w a len cap zs):=hr;have HR':Hid (av w a' len' cap' zs):=hr';clear hr hr';go_enter Tryz.func102,Tryz.ntmps102;go_wp2_with fail;refine (n_ a a' len len' cap cap' zs zs _ (HR.below (aM _ _ _)) (HR'.below (aM _ _ _))).mono ?_;rintro e w1 ⟨r,rfl,hr,hb⟩;obtain rfl:r=true:=hr.2 rfl;clear hr;have HB:Hid (Below w.heap.size w w1):=(aM _ _ _).trans (hb.mono bX);have g0:=(hb.block w.heap.size bX).trans (cL _ _ _);have g1:=(hb.block (w.heap.size+1) aT).trans (bV _ _ _);have c04:=ck4 g0;have c05:=ck5 g0;have c14:=ck4 g1;have c15:=ck5 g1;clear g0 g1 hb;go_wp2_with fail;go_ret;exact⟨rfl,HB.out⟩

theorem cs1 {w:World} {b:Nat} {T:TypeId} {v0:Value} (h:w.heap[b]?=some (.cells #[v0] T (0,0))):w.cell? ⟨b,0,none⟩=some v0:=aD h 0
theorem cs2 {w:World} {b:Nat} {T:TypeId} {v0 v1:Value} (h:w.heap[b]?=some (.cells #[v0,v1] T (0,0))):w.cell? ⟨b,0,none⟩=some v0/\w.cell? ⟨b,1,none⟩=some v1:=⟨aD h 0,aD h 1⟩
theorem cs5 {w:World} {b:Nat} {T:TypeId} {v0 v1 v2 v3 v4:Value} (h:w.heap[b]?=some (.cells #[v0,v1,v2,v3,v4] T (0,0))):w.cell? ⟨b,0,none⟩=some v0/\w.cell? ⟨b,1,none⟩=some v1/\w.cell? ⟨b,2,none⟩=some v2/\w.cell? ⟨b,3,none⟩=some v3/\w.cell? ⟨b,4,none⟩=some v4:=⟨aD h 0,aD h 1,aD h 2,aD h 3,aD h 4⟩
theorem cs6 {w:World} {b:Nat} {T:TypeId} {v0 v1 v2 v3 v4 v5:Value} (h:w.heap[b]?=some (.cells #[v0,v1,v2,v3,v4,v5] T (0,0))):w.cell? ⟨b,0,none⟩=some v0/\w.cell? ⟨b,1,none⟩=some v1/\w.cell? ⟨b,2,none⟩=some v2/\w.cell? ⟨b,3,none⟩=some v3/\w.cell? ⟨b,4,none⟩=some v4/\w.cell? ⟨b,5,none⟩=some v5:=⟨aD h 0,aD h 1,aD h 2,aD h 3,aD h 4,aD h 5⟩
theorem cs7 {w:World} {b:Nat} {T:TypeId} {v0 v1 v2 v3 v4 v5 v6:Value} (h:w.heap[b]?=some (.cells #[v0,v1,v2,v3,v4,v5,v6] T (0,0))):w.cell? ⟨b,0,none⟩=some v0/\w.cell? ⟨b,1,none⟩=some v1/\w.cell? ⟨b,2,none⟩=some v2/\w.cell? ⟨b,3,none⟩=some v3/\w.cell? ⟨b,4,none⟩=some v4/\w.cell? ⟨b,5,none⟩=some v5/\w.cell? ⟨b,6,none⟩=some v6:=⟨aD h 0,aD h 1,aD h 2,aD h 3,aD h 4,aD h 5,aD h 6⟩
theorem cs8 {w:World} {b:Nat} {T:TypeId} {v0 v1 v2 v3 v4 v5 v6 v7:Value} (h:w.heap[b]?=some (.cells #[v0,v1,v2,v3,v4,v5,v6,v7] T (0,0))):w.cell? ⟨b,0,none⟩=some v0/\w.cell? ⟨b,1,none⟩=some v1/\w.cell? ⟨b,2,none⟩=some v2/\w.cell? ⟨b,3,none⟩=some v3/\w.cell? ⟨b,4,none⟩=some v4/\w.cell? ⟨b,5,none⟩=some v5/\w.cell? ⟨b,6,none⟩=some v6/\w.cell? ⟨b,7,none⟩=some v7:=⟨aD h 0,aD h 1,aD h 2,aD h 3,aD h 4,aD h 5,aD h 6,aD h 7⟩
theorem cB (w:World) (o:Obj):(w.alloc o).heap.size=w.heap.size+1:=by simp
theorem aH {w w':World} {o:Obj} (h:Below (w.alloc o).heap.size (w.alloc o) w'):w'.heap[w.heap.size]?=some o/\Below w.heap.size w w':=by
 rw[cB] at h;exact⟨(h.block _ (Nat.lt_succ_self _)).trans (heap_alloc_new w o),(al w o).trans (h.mono (xC _))⟩
theorem de {w w':World} {o p:Obj} (h:Below ((w.alloc o).alloc p).heap.size ((w.alloc o).alloc p) w'):w'.heap[w.heap.size]?=some o/\w'.heap[w.heap.size+1]?=some p/\Below w.heap.size w w':=by
 obtain⟨h1,h2⟩:=aH h;rw[cB] at h1;obtain⟨h3,h4⟩:=aH h2;exact⟨h3,h1,h4⟩
theorem pK {w w':World} {o p q:Obj} (h:Below (((w.alloc o).alloc p).alloc q).heap.size (((w.alloc o).alloc p).alloc q) w'):w'.heap[w.heap.size]?=some o/\w'.heap[w.heap.size+1]?=some p/\w'.heap[w.heap.size+1+1]?=some q/\Below w.heap.size w w':=by
 obtain⟨h1,h2⟩:=aH h;rw[cB,cB] at h1;obtain⟨h3,h4,h5⟩:=de h2;exact⟨h3,h4,h1,h5⟩

def Wd (W:World):Type:={ x:World // Below W.heap.size W x }
def Wd.w {W:World} (i:Wd W):World:=i.1
theorem Wd.b {W:World} (i:Wd W):Below W.heap.size W i.w:=i.2
theorem Wd.ne (W:World):Nonempty (Wd W):=⟨⟨W,xj _ _⟩⟩
theorem Wd.cell {W:World} (i:Wd W) {b o:Nat} (h:b<W.heap.size):i.w.cell? ⟨b,o,none⟩=W.cell? ⟨b,o,none⟩:=ai i.b h
theorem Wd.slot {W:World} (i:Wd W) {b o:Nat} {vs:Array Value} {T:TypeId} {f:Nat×Nat} {v:Value} (h:W.heap[b]?=some (.cells vs T f)) (hv:vs[o]?=some v):i.w.cell? ⟨b,o,none⟩=some v:=by
 have hb:b<W.heap.size:=by
  rcases Nat.lt_or_ge b W.heap.size with h1|h1
  ·exact h1
  ·rw[Array.getElem?_eq_none h1] at h;cases h
 rw[i.cell hb,aD h,hv]

theorem sl1 {W:World} {b:Nat} {T:TypeId} {v0:Value} {r:List Value} (h:Hid (W.heap[b]?=some (.cells (v0 ::r).toArray T (0,0)))):(∀q:Wd W,q.w.cell? ⟨b,0,none⟩=some v0):=fun q=>q.slot h rfl
theorem sl2 {W:World} {b:Nat} {T:TypeId} {v0 v1:Value} {r:List Value} (h:Hid (W.heap[b]?=some (.cells (v0 ::v1 ::r).toArray T (0,0)))):(∀q:Wd W,q.w.cell? ⟨b,0,none⟩=some v0)/\(∀q:Wd W,q.w.cell? ⟨b,1,none⟩=some v1):=⟨fun q=>q.slot h rfl,fun q=>q.slot h rfl⟩
theorem sl3 {W:World} {b:Nat} {T:TypeId} {v0 v1 v2:Value} {r:List Value} (h:Hid (W.heap[b]?=some (.cells (v0 ::v1 ::v2 ::r).toArray T (0,0)))):(∀q:Wd W,q.w.cell? ⟨b,0,none⟩=some v0)/\(∀q:Wd W,q.w.cell? ⟨b,1,none⟩=some v1)/\(∀q:Wd W,q.w.cell? ⟨b,2,none⟩=some v2):=⟨fun q=>q.slot h rfl,fun q=>q.slot h rfl,fun q=>q.slot h rfl⟩
theorem sl4 {W:World} {b:Nat} {T:TypeId} {v0 v1 v2 v3:Value} {r:List Value} (h:Hid (W.heap[b]?=some (.cells (v0 ::v1 ::v2 ::v3 ::r).toArray T (0,0)))):(∀q:Wd W,q.w.cell? ⟨b,0,none⟩=some v0)/\(∀q:Wd W,q.w.cell? ⟨b,1,none⟩=some v1)/\(∀q:Wd W,q.w.cell? ⟨b,2,none⟩=some v2)/\(∀q:Wd W,q.w.cell? ⟨b,3,none⟩=some v3):=⟨fun q=>q.slot h rfl,fun q=>q.slot h rfl,fun q=>q.slot h rfl,fun q=>q.slot h rfl⟩
theorem sl5 {W:World} {b:Nat} {T:TypeId} {v0 v1 v2 v3 v4:Value} {r:List Value} (h:Hid (W.heap[b]?=some (.cells (v0 ::v1 ::v2 ::v3 ::v4 ::r).toArray T (0,0)))):(∀q:Wd W,q.w.cell? ⟨b,0,none⟩=some v0)/\(∀q:Wd W,q.w.cell? ⟨b,1,none⟩=some v1)/\(∀q:Wd W,q.w.cell? ⟨b,2,none⟩=some v2)/\(∀q:Wd W,q.w.cell? ⟨b,3,none⟩=some v3)/\(∀q:Wd W,q.w.cell? ⟨b,4,none⟩=some v4):=⟨fun q=>q.slot h rfl,fun q=>q.slot h rfl,fun q=>q.slot h rfl,fun q=>q.slot h rfl,fun q=>q.slot h rfl⟩
theorem sl6 {W:World} {b:Nat} {T:TypeId} {v0 v1 v2 v3 v4 v5:Value} {r:List Value} (h:Hid (W.heap[b]?=some (.cells (v0 ::v1 ::v2 ::v3 ::v4 ::v5 ::r).toArray T (0,0)))):(∀q:Wd W,q.w.cell? ⟨b,0,none⟩=some v0)/\(∀q:Wd W,q.w.cell? ⟨b,1,none⟩=some v1)/\(∀q:Wd W,q.w.cell? ⟨b,2,none⟩=some v2)/\(∀q:Wd W,q.w.cell? ⟨b,3,none⟩=some v3)/\(∀q:Wd W,q.w.cell? ⟨b,4,none⟩=some v4)/\(∀q:Wd W,q.w.cell? ⟨b,5,none⟩=some v5):=⟨fun q=>q.slot h rfl,fun q=>q.slot h rfl,fun q=>q.slot h rfl,fun q=>q.slot h rfl,fun q=>q.slot h rfl,fun q=>q.slot h rfl⟩
theorem sl7 {W:World} {b:Nat} {T:TypeId} {v0 v1 v2 v3 v4 v5 v6:Value} {r:List Value} (h:Hid (W.heap[b]?=some (.cells (v0 ::v1 ::v2 ::v3 ::v4 ::v5 ::v6 ::r).toArray T (0,0)))):(∀q:Wd W,q.w.cell? ⟨b,0,none⟩=some v0)/\(∀q:Wd W,q.w.cell? ⟨b,1,none⟩=some v1)/\(∀q:Wd W,q.w.cell? ⟨b,2,none⟩=some v2)/\(∀q:Wd W,q.w.cell? ⟨b,3,none⟩=some v3)/\(∀q:Wd W,q.w.cell? ⟨b,4,none⟩=some v4)/\(∀q:Wd W,q.w.cell? ⟨b,5,none⟩=some v5)/\(∀q:Wd W,q.w.cell? ⟨b,6,none⟩=some v6):=⟨fun q=>q.slot h rfl,fun q=>q.slot h rfl,fun q=>q.slot h rfl,fun q=>q.slot h rfl,fun q=>q.slot h rfl,fun q=>q.slot h rfl,fun q=>q.slot h rfl⟩
theorem sl8 {W:World} {b:Nat} {T:TypeId} {v0 v1 v2 v3 v4 v5 v6 v7:Value} {r:List Value} (h:Hid (W.heap[b]?=some (.cells (v0 ::v1 ::v2 ::v3 ::v4 ::v5 ::v6 ::v7 ::r).toArray T (0,0)))):(∀q:Wd W,q.w.cell? ⟨b,0,none⟩=some v0)/\(∀q:Wd W,q.w.cell? ⟨b,1,none⟩=some v1)/\(∀q:Wd W,q.w.cell? ⟨b,2,none⟩=some v2)/\(∀q:Wd W,q.w.cell? ⟨b,3,none⟩=some v3)/\(∀q:Wd W,q.w.cell? ⟨b,4,none⟩=some v4)/\(∀q:Wd W,q.w.cell? ⟨b,5,none⟩=some v5)/\(∀q:Wd W,q.w.cell? ⟨b,6,none⟩=some v6)/\(∀q:Wd W,q.w.cell? ⟨b,7,none⟩=some v7):=⟨fun q=>q.slot h rfl,fun q=>q.slot h rfl,fun q=>q.slot h rfl,fun q=>q.slot h rfl,fun q=>q.slot h rfl,fun q=>q.slot h rfl,fun q=>q.slot h rfl,fun q=>q.slot h rfl⟩
theorem ag {P:Program} {id:Nat} {Q:Exit->Act->World->Prop} {a:Act} {w:World} {l:List Oper} (hm:P.follows .mixedOrders=true) (hB:Region.lexB .any l.toArray=true)
  (h:wpQuiet P l.toArray (fun w'=> ∃i:Wd w,w'=i.w) (fun a'=> ∀w',(∃i:Wd w,w'=i.w)->Q .normal a' w') l a):(Code.region id l.toArray true).wp P Q a w:=
 wp_region_quiet (C:=fun w'=> ∃i:Wd w,w'=i.w) hm hB ⟨⟨_,(xj w.heap.size w).drew⟩,rfl⟩ (by simpa using h)

theorem Calls.wide {P:Program} {f:FuncId} {args:Array Value} {W:World} {i:Wd W} {v:Value} (h:Calls P f args i.w fun e w'=>e=.returned v/\Below i.w.heap.size i.w w'):Calls P f args i.w fun e w''=>e=.returned v/\∃j:Wd W,w''=j.w:=
 h.mono fun _ w' ⟨he,hb⟩=>⟨he,⟨w',i.b.trans (hb.mono i.b.size)⟩,rfl⟩
namespace Mk

def ie (u n:Nat) (r:ByteArray):Prop:=n<=u/\(if n=0 then [] else yE n)++r.data.toList=yE u

def dgB (n:Nat):UInt8:=UInt8.ofNat (48+n % 10)
theorem ie.len {u n:Nat} {r:ByteArray} (h:ie u n r) (h1:u<=9223372036854775807):r.size<=19:=by
 have h2:=congrArg List.length h.2;have h3:=oa (u:=u) (k:=18) af;rw[xO] at h2;rw[Lib.size_eq];omega
theorem ie.step {u n:Nat} {r:ByteArray} (h:ie u n r) (hn:¬n=0):ie u (n / 10) (⟨#[dgB n]⟩++r):=by
 obtain⟨h1,h2⟩:=h;refine⟨by omega,?_⟩;rw[if_neg hn] at h2;rw[<-h2,<-sw n af];simp[dgB]

theorem sx (w:World) (n:Nat):(convert 176 9 (.slice (some ⟨w.heap.size,0,none⟩) 1 1)).run Tryz.prog (w.alloc (.cells #[.int .u8 (48+(n:Int) % 10)] 5))=.ok (.string ⟨#[dgB n]⟩) (w.alloc (.cells #[.int .u8 (48+(n:Int) % 10)] 5)):=
 run_convert_bytes_back (P:=Tryz.prog) _ 176 9 5 ⟨w.heap.size,0,none⟩ 1 [UInt8.ofNat (48+n % 10)] Tryz.underlying176 Tryz.underlying5 Tryz.underlying9 (fun j hj=>by
  simp at hj;subst hj;simp[Addr.add];have:=o7 (k:=n % 10) af;omega)

def aX (u:Nat):ByteArray:=⟨#[109]⟩++⟨(yE u).toArray⟩

theorem fo (u:Nat) (w:World) (h0:0<u) (h1:u<=1152921504606846976):
  Calls Tryz.prog 103 #[.int .i64 u] w fun e w'=>e=.returned (.string (aX u))/\Below w.heap.size w w':=by
 go_enter Tryz.func103,Tryz.ntmps103;go_wp2;go_loopw [0,3] (fun vn vr wr=> ∃(n:Nat) (r:ByteArray),vn=.int .i64 n/\vr=.string r/\ie u n r/\Below w.heap.size w wr) (fun vn _ _=>(intOf vn).toNat);case atStart=>exact⟨u,_,rfl,rfl,⟨xk _,by rw[if_neg af];simp⟩,xj _ _⟩
 case round=>
  obtain⟨n,r,rfl,rfl,hd,hb⟩:=hrel;have hle:=xp hd.1 h1;have hr:=hd.len af;have hr2:(⟨#[dgB n]⟩:ByteArray).size+r.size<=9223372036854775807:=by rw[show (⟨#[dgB n]⟩:ByteArray).size=1 from rfl];omega
  have HD:Hid (ie u n r):=hd;clear hd h1;by_cases hn:n=0
  ·have hn1:¬(0:Int)<n:=af
   have hr3:(⟨#[109]⟩:ByteArray).size+r.size<=9223372036854775807:=by rw[show (⟨#[109]⟩:ByteArray).size=1 from rfl];omega
   go_wp2;go_ret;refine⟨?_,hb⟩;have:=HD.2;rw[if_pos hn] at this;unfold aX;rw[<-this];rfl
  ·have hn1:(0:Int)<n:=af
   have hcv:=sx wr n;have hmd:(0:Int)<=(n:Int) % 10:=af
   go_wp2;go_roundw;case rel=>
    refine⟨n / 10,_,by go_num,rfl,HD.step hn,?_⟩;exact hb.alloc (by have:=hb.size;omega) _
   case measure=>simp[intOf];omega

structure Kept (g:Nat) (w w':World):Prop where
 os:w'.os=w.os
 tape:w'.tape=w.tape
 output:w'.output=w.output
 size:w.heap.size<=w'.heap.size
 block:∀k,k<w.heap.size->¬k=g->w'.heap[k]?=w.heap[k]?
theorem Kept.bh {g:Nat} {w w':World} (h:Below w.heap.size w w'):Kept g w w':=⟨h.os,h.tape,h.output,h.size,fun k hk _=>h.block k hk⟩
theorem Kept.trans {g:Nat} {a b c:World} (h:Kept g a b) (k:Kept g b c):Kept g a c:=⟨k.os.trans h.os,k.tape.trans h.tape,k.output.trans h.output,xp h.size k.size,fun i hi hn=>(k.block i (xr hi h.size) hn).trans (h.block i hi hn)⟩
theorem Kept.set {g i:Nat} {w w':World} {v:Value} (h:Kept g w w'):Kept g w (w'.setCell ⟨g,i,none⟩ v):=
 ⟨h.os,h.tape,h.output,by simpa[xZ] using h.size,fun k hk hn=>(xi _ _ _ _ hn).trans (h.block k hk hn)⟩
def sB (k n:Nat) (cur:Array Value):Prop:=∀j,j<n->cur[j]?=some (.string (aX (k+j)))
def th (g k len n:Nat) (w:World) (e:Ending) (w':World):Prop:=
 e=.returned (.int .i64 ((k+len:Nat):Int))/\Kept g w w'/\∃cur,w'.heap[g]?=some (.cells cur 9 (0,0))/\sB k len cur/\cur.size=n

theorem vm (k i:Nat) (h0:0<k) (h1:k+i<=1152921504606846976) (w:World):Calls Tryz.prog 103 #[.int .i64 ((k:Int)+(i:Int))] w fun e w'=>e=.returned (.string (aX (k+i)))/\Below w.heap.size w w':=by
 have h:=fo (k+i) w af h1;rw[Int.natCast_add] at h;exact h

theorem oH (g len cap k:Nat) (cur:Array Value) (w:World) (hg:w.heap[g]?=some (.cells cur 9 (0,0))) (hl:len<=cur.size) (hk:0<k) (hk2:k+len<=1152921504606846976):
  Calls Tryz.prog 104 #[.slice (some ⟨g,0,none⟩) len cap,.int .i64 k] w (th g k len cur.size w):=by
 have HG:=aa hg;clear hg;go_enter Tryz.func104,Tryz.ntmps104;go_wp2;go_loopw [1,5] (fun vk vi wr=> ∃(i:Nat) (cu:Array Value),i<=len/\vk=.int .i64 ((k+i:Nat):Int)/\vi=.int .i64 i/\cu.size=cur.size/\Hid (wr.heap[g]?=some (.cells cu 9 (0,0)))/\Hid (sB k i cu)/\Hid (Kept g w wr)) (fun _ vi _=>len - (intOf vi).toNat);case atStart=>exact⟨0,cur,by omega,by simp,rfl,rfl,HG,fun j hj=>by omega,Kept.bh (xj _ _)⟩
 case round=>
  obtain⟨i,cu,hi,rfl,rfl,hcs,HC,HM,HK⟩:=hrel;by_cases hlt:i<len
  ·have HT:=aa (vm k i af af);go_wp2_with fail;refine (HT.out _).mono ?_;rintro e w2 ⟨rfl,hb2⟩;have g2:=(hb2.block g (ae HC.out)).trans HC.out;have hcl:w2.cell? ⟨g,i,none⟩=some (cu[i]'(by omega)):=by rw[aD g2];exact yO _
   have hfr:w2.frozen? ⟨g,i,none⟩=false:=by simp[World.frozen?,g2]
   have HG2:=aa g2;have HK2:=aa (HK.trans (Kept.bh (g:=g) hb2));clear hb2 g2;go_wp2_with fail;refine⟨⟨i+1,cu.setIfInBounds i (.string (aX (k+i))),by omega,by go_num,by go_num,by simp[hcs],?_,?_,HK2.set⟩,by simp[intOf];omega⟩
   ·exact au HG2.out _
   ·intro j hj;rw[xJ];by_cases e:i=j
    ·subst e;rw[if_pos rfl,if_pos af]
    ·rw[if_neg e];exact HM.out j af
  ·obtain rfl:i=len:=af
   go_wp2;go_ret;exact⟨rfl,HK.out,cu,HC.out,HM.out,hcs⟩

theorem oU (a:Option Addr) (len cap k:Nat) (zs:List ByteArray) (w:World) (hr:av w a len cap zs) (hk:0<k) (hk2:k+len<=1152921504606846976) (hz:∀(j:Nat) x,zs[j]?=some x->x=aX (k+j)):
  Calls Tryz.prog 163 #[.slice a len cap,.int .i64 k] w fun e w'=>e=.returned (.int .i64 ((k+len:Nat):Int))/\Below w.heap.size w w':=by
 have HR:=aa hr;have HZ:=aa hz;clear hr hz;go_enter Tryz.func163,Tryz.ntmps163;go_wp2;go_loopw [1,5] (fun vk vi wr=> ∃(i:Nat),i<=len/\vk=.int .i64 ((k+i:Nat):Int)/\vi=.int .i64 i/\Hid (Below w.heap.size w wr)) (fun _ vi _=>len - (intOf vi).toNat);case atStart=>exact⟨0,by omega,by simp,rfl,xj _ _⟩
 case round=>
  obtain⟨i,hi,rfl,rfl,HB⟩:=hrel;by_cases hlt:i<len
  ·obtain⟨b,o,x,rfl,hb,hx,hc,-⟩:=(HR.below HB.out).at hlt;obtain rfl:=HZ.out i x hx;have HT:=aa (vm k i af af);have hb':=aa hb;go_wp2_with fail;have hne:=Wd.ne wr;have cc:∀q:Wd wr,q.w.cell? ⟨b,o+i,none⟩=some (.string (aX (k+i))):=fun q=>(q.cell hb'.out).trans hc;refine ag an an ?_;repeat (go_big_quiet_step (first|(go_at_call 103;exact Calls.wide (HT.out _))|fail))
   refine wpQuiet_nil ?_;rintro _ ⟨q,rfl⟩;go_wp2_with fail;exact⟨⟨i+1,by omega,by go_num,by go_num,HB.trans (q.b.mono HB.size)⟩,by simp[intOf];omega⟩
  ·obtain rfl:i=len:=af
   go_wp2;go_ret;exact⟨rfl,HB.out⟩

theorem mo (a:Option Addr) (cap:Nat) (u:Int) (w:World):
  Calls Tryz.prog 104 #[.slice a 0 cap,.int .i64 u] w fun e w'=>e=.returned (.int .i64 u)/\Below w.heap.size w w':=by
 go_enter Tryz.func104,Tryz.ntmps104;go_wp2;go_loopw [1,5] (fun vk vi wr=>vk=.int .i64 u/\vi=.int .i64 0/\wr=w) (fun _ vi _=>(intOf vi).toNat);case atStart=>exact⟨rfl,rfl,rfl⟩
 case round=>
  obtain⟨rfl,rfl,rfl⟩:=hrel;go_wp2;go_ret;exact⟨rfl,xj _ _⟩

theorem ba {u:Nat} (h:u<=1152921504606846976):(aX u).size<=9223372036854775807:=by
 have h3:=oa (u:=u) (k:=18) af;unfold aX;rw[ByteArray.size_append];have:(⟨(yE u).toArray⟩:ByteArray).size=(yE u).length:=by simp[ByteArray.size]
 rw[this,show (⟨#[109]⟩:ByteArray).size=1 from rfl];omega
end Mk
end Go.Proofs.YtbbdcjbfnjlndaaGreatDoor

namespace Go.Proofs.YtbbdcjbfnjlndaaGreatDoor
open Go.RowKit
namespace Rc
open Mk

inductive Fv where
 | s (b:ByteArray)
 | i (n:Int)
 | b (x:Bool)
 | l (zs:List ByteArray)
def Fv.val:Fv->Option Value
 | .s t=>some (.string t)
 | .i n=>some (.int .i64 n)
 | .b x=>some (.bool x)
 | .l _=>none
def Fv.fit:Fv->Prop
 | .s t=>t.size<=9223372036854775807
 | _=>True
def Fv.Is (w:World):Fv->Value->Prop
 | .s t,v=>v=.string t/\t.size<=9223372036854775807
 | .i n,v=>v=.int .i64 n
 | .b x,v=>v=.bool x
 | .l zs,v=> ∃a len cap,v=.slice a len cap/\av w a len cap zs
theorem Fv.Is.below {w w':World} {f:Fv} {v:Value} (h:f.Is w v) (hb:Below w.heap.size w w'):f.Is w' v:=by
 cases f with
 | l zs=>obtain⟨a,len,cap,h1,h2⟩:=h;exact⟨a,len,cap,h1,h2.below hb⟩
 | _=>exact h
def RAt (w:World) (b o:Nat) (r:List Fv):Prop:=∀(i:Nat) f,r[i]?=some f->∃v,w.cell? ⟨b,o+i,none⟩=some v/\f.Is w v
theorem RAt.below {w w':World} {b o:Nat} {r:List Fv} (h:RAt w b o r) (hl:b<w.heap.size) (hb:Below w.heap.size w w'):RAt w' b o r:=by
 intro i f hi;obtain⟨v,h1,h2⟩:=h i f hi;exact⟨v,(ai hb hl).trans h1,h2.below hb⟩
def aF (w:World) (a:Option Addr) (len cap m:Nat) (rs:List (List Fv)):Prop:=
 rs.length=len/\len<=cap/\cap<=9223372036854775807/\(rs=[]\/∃b o,a=some ⟨b,o,none⟩/\b<w.heap.size/\∀(j:Nat) r,rs[j]?=some r->RAt w b (o+j*m) r)
theorem aF.below {w w':World} {a:Option Addr} {len cap m:Nat} {rs:List (List Fv)} (h:aF w a len cap m rs) (hb:Below w.heap.size w w'):aF w' a len cap m rs:=by
 obtain⟨h1,h2,h3,h5⟩:=h;refine⟨h1,h2,h3,?_⟩;rcases h5 with h5|⟨b,o,rfl,hlt,hc⟩
 ·exact Or.inl h5
 ·exact Or.inr ⟨b,o,rfl,xr hlt hb.size,fun j v hv=>(hc j v hv).below hlt hb⟩
theorem aF.at {w:World} {a:Option Addr} {len cap m:Nat} {rs:List (List Fv)} (h:aF w a len cap m rs) {j:Nat} (hj:j<len):
  ∃b o r,a=some ⟨b,o,none⟩/\b<w.heap.size/\rs[j]?=some r/\RAt w b (o+j*m) r:=by
 obtain⟨h1,h2,h3,h5⟩:=h;have hx:rs[j]?=some (rs[j]'(by omega)):=xm _;rcases h5 with h5|⟨b,o,rfl,hlt,hc⟩
 ·subst h5;simp at h1;omega
 ·exact⟨b,o,_,rfl,hlt,hx,hc j _ hx⟩
structure aG (S:Nat->Prop) (w w':World):Prop where
 os:w'.os=w.os
 tape:w'.tape=w.tape
 output:w'.output=w.output
 size:w.heap.size<=w'.heap.size
 block:∀k,k<w.heap.size->¬S k->w'.heap[k]?=w.heap[k]?
theorem aG.refl (S:Nat->Prop) (w:World):aG S w w:=⟨rfl,rfl,rfl,xk _,fun _ _ _=>rfl⟩
theorem aG.trans {S:Nat->Prop} {a b c:World} (h:aG S a b) (k:aG S b c):aG S a c:=⟨k.os.trans h.os,k.tape.trans h.tape,k.output.trans h.output,xp h.size k.size,fun i hi hn=>(k.block i (xr hi h.size) hn).trans (h.block i hi hn)⟩
theorem aG.bh {S:Nat->Prop} {w w':World} (k:Below w.heap.size w w'):aG S w w':=⟨k.os,k.tape,k.output,k.size,fun i hi _=>k.block i hi⟩
theorem aG.below {S:Nat->Prop} {a b c:World} (h:aG S a b) (k:Below b.heap.size b c):aG S a c:=h.trans (aG.bh k)
theorem aG.mono {S S':Nat->Prop} {w w':World} (h:aG S w w') (hs:∀k,S k->S' k):aG S' w w':=⟨h.os,h.tape,h.output,h.size,fun k hk hn=>h.block k hk (fun x=>hn (hs k x))⟩
theorem aG.set {S:Nat->Prop} {g i:Nat} {w w':World} {v:Value} (h:aG S w w') (h1:S g):aG S w (w'.setCell ⟨g,i,none⟩ v):=
 ⟨h.os,h.tape,h.output,by simpa[xZ] using h.size,fun k hk hn=>(xi _ _ _ _ (show k≠g from fun e=>hn (e ▸ h1))).trans (h.block k hk hn)⟩
theorem aG.kept {S:Nat->Prop} {g:Nat} {w w1 w2:World} (h:aG S w w1) (h1:S g) (k:Kept g w1 w2):aG S w w2:=
 h.trans ⟨k.os,k.tape,k.output,k.size,fun i hi hn=>k.block i hi (fun e=>hn (e ▸ h1))⟩
theorem aG.low {S:Nat->Prop} {X:Nat} {w w':World} (h:aG S w w') (hX:X<=w.heap.size) (hS:∀k,S k->X<=k):Below X w w':=⟨h.os,h.tape,h.output,h.size,fun k hk=>h.block k (xr hk hX) (fun s=>by have:=hS k s;omega)⟩

def jD (w:World) (h:Nat) (S:Nat->Prop) (g:Nat) (zs:List ByteArray) (v:Value):Prop:=
 ∃a len cap,v=.slice a len cap/\zs.length=len/\len<=cap/\cap<=9223372036854775807/\(∀(j:Nat) x,zs[j]?=some x->x.size<=9223372036854775807)/\
  (zs=[]\/(a=some ⟨h,0,none⟩/\S h/\¬h=g/\∃cu,w.heap[h]?=some (.cells cu 9 (0,0))/\∀(j:Nat) x,zs[j]?=some x->cu[j]?=some (.string x)))
theorem jD.row {w:World} {h:Nat} {S:Nat->Prop} {g:Nat} {zs:List ByteArray} {a:Option Addr} {len cap:Nat} (k:jD w h S g zs (.slice a len cap)):av w a len cap zs:=by
 obtain⟨a',l',c',h1,h2,h3,h4,h5,h6⟩:=k;cases h1;refine⟨h2,h3,h4,h5,h6.imp id ?_⟩;rintro⟨q1,q2,q3,cu,q4,q5⟩;exact⟨h,0,q1,ae q4,fun j x hx=>by rw[xL,aD q4];exact q5 j x hx⟩
def Fv.Own (w:World) (h:Nat) (S:Nat->Prop) (g:Nat):Fv->Value->Prop
 | .s t,v=>v=.string t/\t.size<=9223372036854775807
 | .i n,v=>v=.int .i64 n
 | .b x,v=>v=.bool x
 | .l zs,v=>jD w h S g zs v
theorem Fv.Own.is {w:World} {h:Nat} {S:Nat->Prop} {g:Nat} {f:Fv} {v:Value} (k:f.Own w h S g v):f.Is w v:=by
 cases f with
 | l zs=>
  obtain⟨a,len,cap,h1,h2⟩:=k;exact⟨a,len,cap,h1,jD.row (h:=h) (S:=S) (g:=g) (h1 ▸ ⟨a,len,cap,h1,h2⟩)⟩
 | _=>exact k
theorem Fv.Own.vG {w:World} {h:Nat} {S:Nat->Prop} {g:Nat} {f:Fv} {v:Value} (hv:f.val=some v) (hf:f.fit):f.Own w h S g v:=by
 cases f with
 | s t=>cases hv;exact⟨rfl,hf⟩
 | i n=>cases hv;exact rfl
 | b x=>cases hv;exact rfl
 | l zs=>cases hv

structure cy (w:World) (g m:Nat) (T:TypeId) (rs:List (List Fv)) (S:Nat->Prop) (cur:Array Value) (H:Nat->Nat->Nat):Prop where
 blk:w.heap[g]?=some (.cells cur T (0,0))
 inS:S g
 len:∀(j:Nat) r,rs[j]?=some r->r.length=m
 cell:∀(j:Nat) r,rs[j]?=some r->∀(i:Nat) f,r[i]?=some f->∃v,cur[j*m+i]?=some v/\f.Own w (H j i) S g v
 inj:∀(j:Nat) r (i:Nat) zs (j':Nat) r' (i':Nat) zs',rs[j]?=some r->r[i]?=some (.l zs)->zs≠[]->rs[j']?=some r'->r'[i']?=some (.l zs')->zs'≠[]->H j i=H j' i'->j=j'/\i=i'
def az (w:World) (a:Option Addr) (len cap m:Nat) (T:TypeId) (rs:List (List Fv)) (S:Nat->Prop):Prop:=
 rs.length=len/\len<=cap/\cap<=9223372036854775807/\(rs=[]\/∃g cur H,a=some ⟨g,0,none⟩/\cy w g m T rs S cur H)
theorem cy.aN {w w':World} {g m:Nat} {T:TypeId} {rs:List (List Fv)} {S S':Nat->Prop} {cur:Array Value} {H:Nat->Nat->Nat} (h:cy w g m T rs S cur H) (hk:∀k,k<w.heap.size->S k->w'.heap[k]?=w.heap[k]?) (hs:∀k,k<w.heap.size->S k->S' k):cy w' g m T rs S' cur H:=by
 refine⟨(hk g (ae h.blk) h.inS).trans h.blk,hs g (ae h.blk) h.inS,h.len,fun j r hj i f hi=>?_,h.inj⟩;obtain⟨v,h1,h2⟩:=h.cell j r hj i f hi;refine⟨v,h1,?_⟩;cases f with
 | l zs=>
  obtain⟨a',l',c',h1,h2,h3,h4,h5,h6⟩:=h2;refine⟨a',l',c',h1,h2,h3,h4,h5,h6.imp id ?_⟩;rintro⟨q1,q2,q3,cu,q4,q5⟩;exact⟨q1,hs _ (ae q4) q2,q3,cu,(hk _ (ae q4) q2).trans q4,q5⟩
 | _=>exact h2
theorem az.aN {w w':World} {a:Option Addr} {len cap m:Nat} {T:TypeId} {rs:List (List Fv)} {S S':Nat->Prop} (h:az w a len cap m T rs S) (hk:∀k,k<w.heap.size->S k->w'.heap[k]?=w.heap[k]?) (hs:∀k,k<w.heap.size->S k->S' k):az w' a len cap m T rs S':=by
 obtain⟨h1,h2,h3,h4⟩:=h;refine⟨h1,h2,h3,h4.imp id ?_⟩;rintro⟨g,cur,H,h5,h6⟩;exact⟨g,cur,H,h5,h6.aN hk hs⟩
theorem az.below {w w':World} {a:Option Addr} {len cap m:Nat} {T:TypeId} {rs:List (List Fv)} {S:Nat->Prop} (h:az w a len cap m T rs S) (hb:Below w.heap.size w w'):az w' a len cap m T rs S:=h.aN (fun k hk _=>hb.block k hk) (fun _ _ s=>s)
theorem az.kept {w w':World} {a:Option Addr} {len cap m:Nat} {T:TypeId} {rs:List (List Fv)} {S S':Nat->Prop} (h:az w a len cap m T rs S) (hb:aG S' w w') (hd:∀k,S k->¬S' k):az w' a len cap m T rs S:=h.aN (fun k hk s=>hb.block k hk (hd k s)) (fun _ _ s=>s)
theorem az.dX {w:World} {a:Option Addr} {len cap m:Nat} {T:TypeId} {rs:List (List Fv)} {S S':Nat->Prop} (h:az w a len cap m T rs S) (hs:∀k,k<w.heap.size->S k->S' k):az w a len cap m T rs S':=h.aN (fun _ _ _=>rfl) hs
theorem cy.rat {w:World} {g m:Nat} {T:TypeId} {rs:List (List Fv)} {S:Nat->Prop} {cur:Array Value} {H:Nat->Nat->Nat} (h:cy w g m T rs S cur H) {j:Nat} {r:List Fv} (hj:rs[j]?=some r):RAt w g (j*m) r:=by
 intro i f hi;obtain⟨v,h1,h2⟩:=h.cell j r hj i f hi;exact⟨v,(aD h.blk _).trans h1,h2.is⟩
theorem az.row {w:World} {a:Option Addr} {len cap m:Nat} {T:TypeId} {rs:List (List Fv)} {S:Nat->Prop} (h:az w a len cap m T rs S):aF w a len cap m rs:=by
 obtain⟨h1,h2,h3,h4⟩:=h;refine⟨h1,h2,h3,h4.imp id ?_⟩;rintro⟨g,cur,H,h5,h6⟩;exact⟨g,0,h5,ae h6.blk,fun j r hj=>by rw[xL];exact h6.rat hj⟩
theorem az.nil {w:World} (a:Option Addr) (cap m:Nat) (T:TypeId) (S:Nat->Prop) (h:cap<=9223372036854775807):az w a 0 cap m T [] S:=⟨rfl,Nat.zero_le _,h,.inl rfl⟩

theorem sX {m j i j' i':Nat} (hi:i<m) (hi':i'<m) (h:j*m+i=j'*m+i'):j=j'/\i=i':=by
 have hm:0<m:=af
 have e1:(j*m+i) / m=j:=by rw[Nat.mul_comm,Nat.mul_add_div hm,Nat.div_eq_of_lt hi];rfl
 have e2:(j'*m+i') / m=j':=by rw[Nat.mul_comm,Nat.mul_add_div hm,Nat.div_eq_of_lt hi'];rfl
 have:j=j':=by rw[<-e1,<-e2,h]
 subst this;exact⟨rfl,by omega⟩
theorem du {α:Type} {rs:List α} {j k:Nat} {r:α} (hj:j<rs.length):(rs.set j r)[k]?=if j=k then some r else rs[k]?:=by
 rw[List.getElem?_set];by_cases h:j=k
 ·subst h;simp[hj]
 ·simp[h]
def NoH (N:Nat->Prop) (rs:List (List Fv)) (H:Nat->Nat->Nat):Prop:=∀(j:Nat) r (i:Nat) zs,rs[j]?=some r->r[i]?=some (.l zs)->zs≠[]->¬N (H j i)
structure StJ (g m:Nat) (T:TypeId) (S N:Nat->Prop) (w wr:World) (rs:List (List Fv)) (j:Nat) (r:List Fv):Prop where
 own:∃cur H,cy wr g m T (rs.set j r) S cur H/\NoH N (rs.set j r) H
 kept:aG S w wr
 lt:j<rs.length
section
variable {g m:Nat} {T:TypeId} {S N:Nat->Prop} {w wr w2:World} {rs:List (List Fv)} {j:Nat} {r:List Fv}
theorem StJ.below (h:StJ g m T S N w wr rs j r) (hb:Below wr.heap.size wr w2):StJ g m T S N w w2 rs j r:=by
 obtain⟨⟨cur,H,h1,hN⟩,h2,h3⟩:=h;exact⟨⟨cur,H,h1.aN (fun k hk _=>hb.block k hk) (fun _ _ s=>s),hN⟩,h2.below hb,h3⟩
theorem StJ.fresh (h:StJ g m T S N w wr rs j r) (hb:Below wr.heap.size wr w2):StJ g m T S (fun k=>wr.heap.size<=k) w w2 rs j r:=by
 obtain⟨⟨cur,H,h1,hN⟩,h2,h3⟩:=h;refine⟨⟨cur,H,h1.aN (fun k hk _=>hb.block k hk) (fun _ _ s=>s),fun j' r' i' zs hj hi hz hk=>?_⟩,h2.below hb,h3⟩;obtain⟨v,h4,a,len,cap,rfl,h5,h6,h7,h8,h9⟩:=h1.cell j' r' hj i' _ hi;rcases h9 with h9|⟨q1,q2,q3,cu,q4,q5⟩
 ·exact hz h9
 ·have:=ae q4;omega
theorem StJ.get (h:StJ g m T S N w wr rs j r):(rs.set j r)[j]?=some r:=by rw[du h.lt,if_pos rfl]
theorem StJ.cell (h:StJ g m T S N w wr rs j r) {i:Nat} {f:Fv} (hi:r[i]?=some f):∃v,wr.cell? ⟨g,j*m+i,none⟩=some v:=by
 obtain⟨⟨cur,H,h1,hN⟩,h2,h3⟩:=h;obtain⟨v,h4,h5⟩:=h1.cell j r (by rw[du h3,if_pos rfl]) i f hi;exact⟨v,(aD h1.blk _).trans h4⟩
theorem StJ.cA (h:StJ g m T S N w wr rs j r) (i:Nat):wr.frozen? ⟨g,i,none⟩=false:=by
 obtain⟨⟨cur,H,h1,hN⟩,h2,h3⟩:=h;exact aw h1.blk i
theorem StJ.slice (h:StJ g m T S N w wr rs j r) {i:Nat} {zs:List ByteArray} (hi:r[i]?=some (.l zs)):∃a len cap,wr.cell? ⟨g,j*m+i,none⟩=some (.slice a len cap)/\zs.length=len:=by
 obtain⟨⟨cur,H,h1,hN⟩,h2,h3⟩:=h;obtain⟨v,h4,a,len,cap,rfl,h5,-⟩:=h1.cell j r (by rw[du h3,if_pos rfl]) i _ hi;exact⟨a,len,cap,(aD h1.blk _).trans h4,h5⟩
theorem iZ (hlt:j<rs.length) {f:Fv} {i:Nat} (hl:∀(j':Nat) r',(rs.set j r)[j']?=some r'->r'.length=m):∀(j':Nat) r',(rs.set j (r.set i f))[j']?=some r'->r'.length=m:=by
 intro j' r' hj';rw[du hlt] at hj';split at hj'
 ·cases hj';rw[List.length_set];exact hl j r (by rw[du hlt,if_pos rfl])
 ·exact hl j' r' (by rw[du hlt,if_neg (by assumption)];exact hj')
theorem dx (hlt:j<rs.length) {f:Fv} {i:Nat} (hil:i<r.length) {j':Nat} {r':List Fv} {i':Nat} {f':Fv} (hj':(rs.set j (r.set i f))[j']?=some r') (hi':r'[i']?=some f'):
  (j'=j/\i'=i/\f'=f)\/(¬(j'=j/\i'=i)/\∃r0,(rs.set j r)[j']?=some r0/\r0[i']?=some f'):=by
 rw[du hlt] at hj' ⊢;split at hj'
 ·next e=>
  cases hj';rw[if_pos e];rw[List.getElem?_set] at hi';split at hi'
  ·next e2=>
   try rw[if_pos hil] at hi'
   exact .inl ⟨e.symm,e2.symm,(xh hi').symm⟩
  ·next e2=>exact .inr ⟨fun q=>e2 q.2.symm,r,rfl,hi'⟩
 ·next e=>
  rw[if_neg e];exact .inr ⟨fun q=>e q.1.symm,r',hj',hi'⟩
theorem Fv.Own.aZ {k:Nat} {v:Value} {u:Fv} {z:Value} {h:Nat} (hu:u.Own wr h S g z):u.Own (wr.setCell ⟨g,k,none⟩ v) h S g z:=by
 cases u with
 | l zs=>
  obtain⟨a',l',c',k1,k2,k3,k4,k5,k6⟩:=hu;refine⟨a',l',c',k1,k2,k3,k4,k5,k6.imp id ?_⟩;rintro⟨q1,q2,q3,cu,q4,q5⟩;exact⟨q1,q2,q3,cu,(xi _ _ _ _ q3).trans q4,q5⟩
 | _=>exact hu
theorem StJ.set (h:StJ g m T S N w wr rs j r) {i:Nat} {old:Fv} (hi:r[i]?=some old) (f:Fv) {v:Value} (hv:f.val=some v) (hf:f.fit):StJ g m T S N w (wr.setCell ⟨g,j*m+i,none⟩ v) rs j (r.set i f):=by
 have hget:=h.get;obtain⟨⟨cur,H,h1,hN⟩,h2,h3⟩:=h;have hil:i<r.length:=(xe.1 hi).1;have hrm:=h1.len j r hget;obtain⟨v0,hc0,-⟩:=h1.cell j r hget i _ hi;have hin:j*m+i<cur.size:=(xA.1 hc0).1;have hnl:∀zs,¬.l zs=f:=fun zs e=>by subst e;cases hv
 have back:∀(j':Nat) r' (i':Nat) zs',(rs.set j (r.set i f))[j']?=some r'->r'[i']?=some (.l zs')->∃r0,(rs.set j r)[j']?=some r0/\r0[i']?=some (.l zs'):=by
  intro j' r' i' zs' hj' hi';rcases dx h3 hil hj' hi' with ⟨_,_,e⟩|⟨_,q⟩
  ·exact absurd e (hnl _)
  ·exact q
 refine⟨⟨cur.setIfInBounds (j*m+i) v,H,⟨au h1.blk v,h1.inS,iZ h3 h1.len,fun j' r' hj' i' f' hi'=>?_,fun j' r' i' zs' j2 r2 i2 zs2 hj' hi' hz' hj2 hi2 hz2 hH=>?_⟩,fun j' r' i' zs' hj' hi' hz'=>?_⟩,h2.set h1.inS,h3⟩
 ·rcases dx h3 hil hj' hi' with ⟨rfl,rfl,rfl⟩|⟨hne,r0,q1,q2⟩
  ·exact⟨v,by rw[yI hin],Fv.Own.vG hv hf⟩
  ·obtain⟨v',k1,k2⟩:=h1.cell j' r0 q1 i' f' q2;have hil':i'<r0.length:=(xe.1 q2).1;have hrm':=h1.len j' r0 q1;refine⟨v',?_,k2.aZ⟩;exact rE
 ·obtain⟨r0,b1,b2⟩:=back j' r' i' zs' hj' hi';obtain⟨r3,b3,b4⟩:=back j2 r2 i2 zs2 hj2 hi2;exact h1.inj j' r0 i' zs' j2 r3 i2 zs2 b1 b2 hz' b3 b4 hz2 hH
 ·obtain⟨r0,b1,b2⟩:=back j' r' i' zs' hj' hi';exact hN j' r0 i' zs' b1 b2 hz'
theorem StJ.vu (h:StJ g m T S N w wr rs j r) {i:Nat} {old:Fv} (hi:r[i]?=some old) {b:Nat} (zs:List ByteArray) {len cap:Nat} (hb:zs≠[]->N b) (hv:jD wr b S g zs (.slice (some ⟨b,0,none⟩) len cap)):
  StJ g m T S (fun k=>N k/\¬k=b) w (wr.setCell ⟨g,j*m+i,none⟩ (.slice (some ⟨b,0,none⟩) len cap)) rs j (r.set i (.l zs)):=by
 have hget:=h.get;obtain⟨⟨cur,H,h1,hN⟩,h2,h3⟩:=h;have hil:i<r.length:=(xe.1 hi).1;have hrm:=h1.len j r hget;obtain⟨v0,hc0,-⟩:=h1.cell j r hget i _ hi;have hin:j*m+i<cur.size:=(xA.1 hc0).1;have hH:∀j' i',¬(j'=j/\i'=i)->(if j'=j/\i'=i then b else H j' i')=H j' i':=fun j' i' hn=>if_neg hn;refine⟨⟨cur.setIfInBounds (j*m+i) (.slice (some ⟨b,0,none⟩) len cap),fun j' i'=>if j'=j/\i'=i then b else H j' i',⟨au h1.blk _,h1.inS,iZ h3 h1.len,fun j' r' hj' i' f' hi'=>?_,fun j' r' i' zs' j2 r2 i2 zs2 hj' hi' hz' hj2 hi2 hz2 hHH=>?_⟩,fun j' r' i' zs' hj' hi' hz'=>?_⟩,h2.set h1.inS,h3⟩
 ·rcases dx h3 hil hj' hi' with ⟨rfl,rfl,rfl⟩|⟨hne,r0,q1,q2⟩
  ·refine⟨_,by rw[yI hin],?_⟩;rw[if_pos ⟨rfl,rfl⟩];exact Fv.Own.aZ (u:=.l zs) hv
  ·obtain⟨v',k1,k2⟩:=h1.cell j' r0 q1 i' f' q2;have hil':i'<r0.length:=(xe.1 q2).1;have hrm':=h1.len j' r0 q1;refine⟨v',?_,?_⟩
   ·exact rE
   ·rw[if_neg hne];exact k2.aZ
 ·try simp only[] at hHH
  rcases dx h3 hil hj' hi' with ⟨rfl,rfl,e1⟩|⟨hne,r0,q1,q2⟩
  ·rcases dx h3 hil hj2 hi2 with ⟨rfl,rfl,e2⟩|⟨hne2,r3,q3,q4⟩
   ·exact⟨rfl,rfl⟩
   ·rw[if_pos ⟨rfl,rfl⟩,if_neg hne2] at hHH;cases e1;exact absurd (hHH ▸ hb hz') (hN _ _ _ _ q3 q4 hz2)
  ·rcases dx h3 hil hj2 hi2 with ⟨rfl,rfl,e2⟩|⟨hne2,r3,q3,q4⟩
   ·rw[if_neg hne,if_pos ⟨rfl,rfl⟩] at hHH;cases e2;exact absurd (hHH ▸ hb hz2) (hN _ _ _ _ q1 q2 hz')
   ·rw[if_neg hne,if_neg hne2] at hHH;exact h1.inj _ _ _ _ _ _ _ _ q1 q2 hz' q3 q4 hz2 hHH
 ·try simp only[]
  rcases dx h3 hil hj' hi' with ⟨rfl,rfl,e1⟩|⟨hne,r0,q1,q2⟩
  ·rw[if_pos ⟨rfl,rfl⟩];exact fun q=>q.2 rfl
  ·rw[if_neg hne];exact fun q=>hN _ _ _ _ q1 q2 hz' q.1
end

def cU (u:Int) (l:Nat):List ByteArray:=(yt l).map fun j=>aX (u.toNat+j)
theorem aO (u:Int) (l:Nat):(cU u l).length=l:=by simp[cU]
theorem fN {u:Int} {l j:Nat} {y:ByteArray} (h:(cU u l)[j]?=some y):y=aX (u.toNat+j)/\j<l:=by
 have hj:j<l:=by have:=(xe.1 h).1;rw[aO] at this;exact this
 unfold cU at h;rw[xq,List.getElem?_range hj] at h;simp at h;exact⟨h.symm,hj⟩
theorem gJ {α:Type} {l:List α} {i:Nat} {x:α} (h:l[i]?=some x):l.set i x=l:=by
 apply List.ext_getElem?;intro k;rw[List.getElem?_set];split
 ·next e=>
  subst e;rw[if_pos (xe.1 h).1,h]
 ·rfl

theorem StJ.rX {g m:Nat} {T:TypeId} {S N:Nat->Prop} {w wr:World} {rs:List (List Fv)} {j:Nat} {r:List Fv} (h:StJ g m T S N w wr rs j r) {i:Nat} {zs:List ByteArray} (hi:r[i]?=some (.l zs)) {a:Option Addr} {l c:Nat} (hc:wr.cell? ⟨g,j*m+i,none⟩=some (.slice a l c)) (u:Int) (hu0:0<u) (hu1:u+l<=1152921504606846976):
  Calls Tryz.prog 104 #[.slice a l c,.int .i64 u] wr fun e w'=>e=.returned (.int .i64 (u+l))/\StJ g m T S N w w' rs j (r.set i (.l (cU u l))):=by
 have hget:=h.get;have hst:=h;obtain⟨⟨cur,H,h1,hN⟩,h2,h3⟩:=h;have hil:i<r.length:=(xe.1 hi).1;obtain⟨v0,hc0,a',l',c',rfl,k2,k3,k4,k5,k6⟩:=h1.cell j r hget i _ hi;rw[aD h1.blk,hc0] at hc;cases hc;obtain⟨n,rfl⟩:∃n:Nat,u=n:=⟨u.toNat,by omega⟩;by_cases hz:zs=[]
 ·subst hz;obtain rfl:l=0:=by simpa using k2.symm
  refine (mo a c n wr).mono ?_;rintro e w' ⟨rfl,hb⟩;refine⟨by simp,?_⟩;have:cU (n:Int) 0=[]:=rfl;rw[this,gJ hi];exact hst.below hb
 rcases k6 with k6|⟨q1,q2,q3,cu,q4,q5⟩
 ·exact absurd k6 hz
 subst q1;have hls:l<=cu.size:=by
  rcases Nat.eq_zero_or_pos l with e|e
  ·omega
  ·have hx:zs[l - 1]?=some (zs[l - 1]'(by omega)):=xm _;have:=(xA.1 (q5 _ _ hx)).1;omega
 refine (oH (H j i) l c n cu wr q4 hls af af).mono ?_;rintro e w' ⟨rfl,hk,cu',hg',hm,hsz⟩;refine⟨by simp,?_⟩;have back:∀(j':Nat) r' (i':Nat) zs',(rs.set j (r.set i (.l (cU (n:Int) l))))[j']?=some r'->r'[i']?=some (.l zs')->zs'≠[]->∃r0 zs0,(rs.set j r)[j']?=some r0/\r0[i']?=some (.l zs0)/\zs0≠[]:=by
  intro j' r' i' zs' hj' hi' hz';rcases dx h3 hil hj' hi' with ⟨rfl,rfl,e⟩|⟨_,r0,p1,p2⟩
  ·exact⟨r,zs,hget,hi,hz⟩
  ·exact⟨r0,zs',p1,p2,hz'⟩
 refine⟨⟨cur,H,⟨(hk.block _ (ae h1.blk) (fun e=>q3 e.symm)).trans h1.blk,h1.inS,iZ h3 h1.len,fun j' r' hj' i' f' hi'=>?_,fun j' r' i' zs' j2 r2 i2 zs2 hj' hi' hz' hj2 hi2 hz2 hH=>?_⟩,fun j' r' i' zs' hj' hi' hz'=>?_⟩,h2.kept q2 hk,h3⟩
 ·rcases dx h3 hil hj' hi' with ⟨rfl,rfl,rfl⟩|⟨hne,r0,p1,p2⟩
  ·refine⟨_,hc0,_,_,_,rfl,aO _ _,k3,k4,fun t x hx=>?_,.inr ⟨rfl,q2,q3,cu',hg',fun t x hx=>?_⟩⟩
   ·obtain⟨rfl,ht⟩:=fN hx;exact ba bX
   ·obtain⟨rfl,ht⟩:=fN hx;have:=hm t ht;simpa using this
  ·obtain⟨v',p3,p4⟩:=h1.cell j' r0 p1 i' f' p2;refine⟨v',p3,?_⟩;cases f' with
   | l zs'=>
    obtain⟨a',l',c',e1,e2,e3,e4,e5,e6⟩:=p4;refine⟨a',l',c',e1,e2,e3,e4,e5,?_⟩
    by_cases hz':zs'=[]
    ·exact .inl hz'
    rcases e6 with e6|⟨z1,z2,z3,cz,z4,z5⟩
    ·exact .inl e6
    ·refine .inr ⟨z1,z2,z3,cz,(hk.block _ (ae z4) (fun e=>hne (h1.inj _ _ _ _ _ _ _ _ p1 p2 hz' hget hi hz e))).trans z4,z5⟩
   | _=>exact p4
 ·obtain⟨r0,z0,b1,b2,b5⟩:=back j' r' i' zs' hj' hi' hz';obtain⟨r3,z3,b3,b4,b6⟩:=back j2 r2 i2 zs2 hj2 hi2 hz2;exact h1.inj j' r0 i' z0 j2 r3 i2 z3 b1 b2 b5 b3 b4 b6 hH
 ·obtain⟨r0,z0,b1,b2,b5⟩:=back j' r' i' zs' hj' hi' hz';exact hN j' r0 i' z0 b1 b2 b5

theorem StJ.cP {g m:Nat} {T:TypeId} {S N:Nat->Prop} {w wr:World} {rs:List (List Fv)} {j:Nat} {r:List Fv} (h:StJ g m T S N w wr rs j r) {i:Nat} {old:Fv} (hi:r[i]?=some old) (t:ByteArray) (hf:t.size<=9223372036854775807):StJ g m T S N w (wr.setCell ⟨g,j*m+i,none⟩ (.string t)) rs j (r.set i (.s t)):=h.set hi (.s t) rfl hf
theorem StJ.gm {g m:Nat} {T:TypeId} {S N:Nat->Prop} {w wr:World} {rs:List (List Fv)} {j:Nat} {r:List Fv} (h:StJ g m T S N w wr rs j r) {i:Nat} {old:Fv} (hi:r[i]?=some old) (t:Int):StJ g m T S N w (wr.setCell ⟨g,j*m+i,none⟩ (.int .i64 t)) rs j (r.set i (.i t)):=h.set hi (.i t) rfl trivial
theorem StJ.gn {g m:Nat} {T:TypeId} {S N:Nat->Prop} {w wr:World} {rs:List (List Fv)} {j:Nat} {r:List Fv} (h:StJ g m T S N w wr rs j r) {i:Nat} {old:Fv} (hi:r[i]?=some old) (t:Bool):StJ g m T S N w (wr.setCell ⟨g,j*m+i,none⟩ (.bool t)) rs j (r.set i (.b t)):=h.set hi (.b t) rfl trivial
theorem az.st {w wr:World} {a:Option Addr} {len cap m:Nat} {T:TypeId} {rs:List (List Fv)} {S:Nat->Prop} (h:az wr a len cap m T rs S) (hk:aG S w wr) {i:Nat} {r:List Fv} (hi:rs[i]?=some r):∃g,a=some ⟨g,0,none⟩/\StJ g m T S (fun _=>False) w wr rs i r:=by
 obtain⟨h1,h2,h3,h4⟩:=h;rcases h4 with h4|⟨g,cur,H,h5,h6⟩
 ·subst h4;simp at hi
 ·refine⟨g,h5,⟨cur,H,?_,fun _ _ _ _ _ _ _ q=>q⟩,hk,(xe.1 hi).1⟩;rw[gJ hi];exact h6
theorem bI {w:World} {g i j:Nat} {v:Value} (h:¬i=j):(w.setCell ⟨g,i,none⟩ v).cell? ⟨g,j,none⟩=w.cell? ⟨g,j,none⟩:=by
 cases hg:w.heap[g]? with
 | none=>
  have hs:(w.setCell ⟨g,i,none⟩ v).heap[g]?=none:=by
   have h1:=Array.getElem?_eq_none_iff.1 hg;exact Array.getElem?_eq_none_iff.2 (by simpa[xZ] using h1)
  simp[World.cell?,hg,hs]
 | some o=>
  cases o with
  | cells cs t fr=>
   have:=au (i:=i) hg v;simp only[World.cell?,hg,this]
   simp[Array.getElem?_setIfInBounds_ne h]
  | _=>simp[World.cell?,xZ,Array.getElem?_modify,hg]

theorem bF (u:Int) (w:World) (h0:0<u) (h1:u<=1152921504606846976):Calls Tryz.prog 103 #[.int .i64 u] w fun e w'=>e=.returned (.string (aX u.toNat))/\Below w.heap.size w w':=by
 obtain⟨n,rfl⟩:∃n:Nat,u=n:=⟨u.toNat,by omega⟩;exact fo n w af af

theorem sn (a:Option Addr) (len cap:Nat) (u:Int) (w:World) (hr:av w a len cap (cU u len)) (h0:0<u) (h1:u+len<=1152921504606846976):
  Calls Tryz.prog 163 #[.slice a len cap,.int .i64 u] w fun e w'=>e=.returned (.int .i64 (u+len))/\Below w.heap.size w w':=by
 obtain⟨n,rfl⟩:∃n:Nat,u=n:=⟨u.toNat,by omega⟩;refine (oU a len cap n _ w hr af af (fun j x hx=>?_)).mono ?_
 ·have:=(fN hx).1;simpa using this
 ·rintro e w' ⟨rfl,hb⟩;exact⟨by simp,hb⟩

def mkF (k:Int):Fv->Fv
 | .s _=>.s (aX k.toNat)
 | .i _=>.i k
 | .b _=>.b (k % 3==0)
 | .l zs=>.l (cU k zs.length)
def mkN1 (k:Int):Fv->Int
 | .l zs=>k+zs.length
 | _=>k+1
def mkR:Int->List Fv->List Fv
 | _,[]=> []
 | k,f ::r=>mkF k f ::mkR (mkN1 k f) r
def mkN:Int->List Fv->Int
 | k,[]=>k
 | k,f ::r=>mkN (mkN1 k f) r
def mkRs:Int->List (List Fv)->List (List Fv)
 | _,[]=> []
 | k,r ::rs=>mkR k r ::mkRs (mkN k r) rs
def aC:Int->List (List Fv)->Int
 | k,[]=>k
 | k,r ::rs=>aC (mkN k r) rs
theorem bj:∀(rs:List (List Fv)) (k:Int),(mkRs k rs).length=rs.length
 | [],_=>rfl
 | r ::rs,k=>by simp[mkRs,bj rs]
theorem dL:∀(rs:List (List Fv)) (k:Int) (i:Nat),(mkRs k rs)[i]?=(rs[i]?).map (mkR (aC k (rs.take i)))
 | [],_,_=>by simp[mkRs]
 | r ::rs,k,0=>by simp[mkRs,aC]
 | r ::rs,k,i+1=>by simp[mkRs,aC,dL rs]
theorem ef:∀(rs ts:List (List Fv)) (k:Int),aC k (rs++ts)=aC (aC k rs) ts
 | [],_,_=>rfl
 | r ::rs,ts,k=>by simp[aC,ef rs]
theorem bH {rs:List (List Fv)} {i:Nat} {r:List Fv} (h:rs[i]?=some r) (k:Int):aC k (rs.take (i+1))=mkN (aC k (rs.take i)) r:=by
 rw[yb,h,ef];rfl
theorem sS (f:Fv) (k:Int):k<=mkN1 k f:=by
 cases f <;> simp[mkN1] <;> omega
theorem rR:∀(r:List Fv) (k:Int),k<=mkN k r
 | [],_=>Int.le_refl _
 | f ::r,k=>xQ (sS f k) (rR r _)
theorem aA:∀(rs:List (List Fv)) (k:Int),k<=aC k rs
 | [],_=>Int.le_refl _
 | r ::rs,k=>xQ (rR r k) (aA rs _)
theorem hJ {rs:List (List Fv)} {i:Nat} {r:List Fv} (h:rs[i]?=some r) (k:Int):mkN (aC k (rs.take i)) r<=aC k rs:=by
 rw[<-bH h];have h2:=ef (rs.take (i+1)) (rs.drop (i+1)) k;rw[List.take_append_drop] at h2;rw[h2];exact aA _ _
theorem bQ {α:Type} {A B:List α} {i:Nat} {x:α} (hl:A.length=B.length) (hi:A[i]?=some x):(A.take i++B.drop i).set i x=A.take (i+1)++B.drop (i+1):=by
 have hlt:i<A.length:=(xe.1 hi).1;have h1:(A.take i).length=i:=by rw[xE];omega
 have hd:B.drop i=B[i]'(by omega) ::B.drop (i+1):=yG af;rw[yb,hi,hd];simp only[List.set_append,h1,Nat.lt_irrefl,if_false,Nat.sub_self,xG,Option.toList_some,yz,List.singleton_append]
theorem cf {α:Type} {A B:List α} {i:Nat} (hl:A.length=B.length) (hi:i<=A.length):(A.take i++B.drop i)[i]?=B[i]?:=by
 have h1:(A.take i).length=i:=by rw[xE];omega
 rw[List.getElem?_append_right af,h1,Nat.sub_self,xX,yC]
theorem eC {α:Type} {A B:List α} {i:Nat} (hl:A.length=B.length) (hi:i<=A.length):(A.take i++B.drop i).length=B.length:=by
 rw[xO,xE,yf];omega
theorem az.kU {g len cap m:Nat} {T:TypeId} {S N:Nat->Prop} {w wr:World} {rs:List (List Fv)} {k:Int} {i:Nat} {r r':List Fv} (h:StJ g m T S N w wr ((mkRs k rs).take i++rs.drop i) i r') (hl:rs.length=len) (hm:(mkRs k rs).length=rs.length) (hc:len<=cap) (hc2:cap<=9223372036854775807) (hi:rs[i]?=some r) (e:r'=mkR (aC k (rs.take i)) r):az wr (some ⟨g,0,none⟩) len cap m T ((mkRs k rs).take (i+1)++rs.drop (i+1)) S:=by
 subst e;have hlt:i<rs.length:=(xe.1 hi).1;have h1:(mkRs k rs)[i]?=some (mkR (aC k (rs.take i)) r):=by rw[dL,hi];rfl
 obtain⟨⟨cur,H,h2,-⟩,-,-⟩:=h;rw[bQ hm h1] at h2;exact⟨by rw[eC hm af];exact hl,hc,hc2,.inr ⟨g,cur,H,rfl,h2⟩⟩

end Rc
end Go.Proofs.YtbbdcjbfnjlndaaGreatDoor

namespace Go.Proofs.YtbbdcjbfnjlndaaGreatDoor
open Go.RowKit

abbrev Fact:=Value->World->Prop
def Fact.bw (φ:Fact):Prop:=∀v w w',φ v w->Below w.heap.size w w'->φ v w'
theorem Fact.gz (c:Value):Fact.bw (fun v _=>v=c):=fun _ _ _ h _=>h

def ak (a0:Act) (known:List (Tmp×Fact)) (a:Act) (w:World) (t:Tmp):Prop:=
 match known.lookup t with
 | some φ=>φ (a.tmps.getD t undef) w
 | none=>a.tmps.getD t undef=a0.tmps.getD t undef

def Obl (P:Program) (ops:Array Oper) (Q:Exit->Act->World->Prop) (W:World) (a0:Act) (known:List (Tmp×Fact)) (o:Oper) (φ:Fact):Prop:=
 ∀(a:Act) (w:World) (K:Act->World->Prop),a.tmps.size=a0.tmps.size->Below W.heap.size W w->(∀t∈o.looksAt ops,ak a0 known a w t)->
  (∀v w',Below w.heap.size w w'->φ v w'->K (a.put o.dst v) w')->if yA o (yielded ops a.tmps)=true then o.wp P a w K Q else K (a.put o.dst undef) w

def da (o:Oper):List Tmp:=o.op.operands.toList.filterMap fun | .tmp t=>some t|_=>none
theorem Obl.plain {P:Program} {ops:Array Oper} {Q:Exit->Act->World->Prop} {W:World} {a0:Act} {known:List (Tmp×Fact)} {o:Oper} {φ:Fact} (hg:o.guard=none)
  (h:∀(a:Act) (w:World) (K:Act->World->Prop),a.tmps.size=a0.tmps.size->Below W.heap.size W w->(∀t∈da o,ak a0 known a w t)->(∀v w',Below w.heap.size w w'->φ v w'->K (a.put o.dst v) w')->o.wp P a w K Q):Obl P ops Q W a0 known o φ:=by
 exact uw

def dE (P:Program) (ops:Array Oper) (Q:Exit->Act->World->Prop) (back:Option Oper) (a:Act) (w:World):Prop:=
 match back with
 | none=>Q .normal a w
 | some o=> ∀K:Act->World->Prop,(∀a w,Q .normal a w->K a w)->if yA o (yielded ops a.tmps)=true then o.wp P a w K Q else K (a.put o.dst undef) w

def aI (a0:Act) (known:List (Tmp×Fact)) (x:Tmp->Value):Act:=known.foldr (fun p b=>b.put (some p.1) (x p.1)) a0
def Fin (P:Program) (ops:Array Oper) (Q:Exit->Act->World->Prop) (W:World) (a0:Act) (back:Option Oper) (known:List (Tmp×Fact)):Prop:=
 ∀(x:Tmp->Value) (w:World),Below W.heap.size W w->(∀p∈known,p.2 (x p.1) w)->dE P ops Q back (aI a0 known x) w

def kn (d:Option Tmp) (φ:Fact) (known:List (Tmp×Fact)):List (Tmp×Fact):=match d with|some t=>(t,φ) ::known|none=>known

def Grow (P:Program) (ops:Array Oper) (Q:Exit->Act->World->Prop) (W:World) (a0:Act) (back:Option Oper):List Oper->List (Tmp×Fact)->Prop
 | [],known=>Fin P ops Q W a0 back known
 | o ::rest,known=> ∃φ:Fact,φ.bw/\Obl P ops Q W a0 known o φ/\Grow P ops Q W a0 back rest (kn o.dst φ known)
theorem Grow.step {P:Program} {ops:Array Oper} {Q:Exit->Act->World->Prop} {W:World} {a0:Act} {back:Option Oper} {o:Oper} {rest:List Oper} {known:List (Tmp×Fact)} {t:Tmp} (φ:Fact) (hd:o.dst=some t) (hφ:φ.bw) (ho:Obl P ops Q W a0 known o φ)
  (h:Grow P ops Q W a0 back rest ((t,φ) ::known)):Grow P ops Q W a0 back (o ::rest) known:=⟨φ,hφ,ho,by rw[hd];exact h⟩
theorem Grow.ar {P:Program} {ops:Array Oper} {Q:Exit->Act->World->Prop} {W:World} {a0:Act} {back:Option Oper} {o:Oper} {rest:List Oper} {known:List (Tmp×Fact)} {t:Tmp} (c:Value) (hd:o.dst=some t) (ho:Obl P ops Q W a0 known o (fun v _=>v=c))
  (h:Grow P ops Q W a0 back rest ((t,fun v _=>v=c) ::known)):Grow P ops Q W a0 back (o ::rest) known:=Grow.step _ hd (Fact.gz c) ho h
theorem Grow.done {P:Program} {ops:Array Oper} {Q:Exit->Act->World->Prop} {W:World} {a0:Act} {back:Option Oper} {known:List (Tmp×Fact)} (h:Fin P ops Q W a0 back known):Grow P ops Q W a0 back [] known:=h

def growB (n:Nat) (front:List Oper) (back:Option Oper):Bool:=
 let ops:=(front++back.toList).toArray
 decide ((front.filterMap (·.dst)).Nodup) && front.all (fun o=>match o.dst with|some t=>decide (t<n)|none=>true) &&
 (yt front.length).all (fun j=>match front[j]? with
  | some o=>(o.looksAt ops).all (fun t=>(yt front.length).all fun i=>match front[i]? with
    | some p=>p.dst !=some t || (decide (i<j) && o.after.any fun e=>e.on==i && yp .any e)
    | none=>true)
  | none=>true) &&
 (yt ops.size).all (fun j=>match ops[j]? with|some o=>o.after.all (fun e=>decide (e.on<j))|none=>true) &&
 (match back with|some o=>(yt front.length).all (fun i=>o.after.any fun e=>e.on==i && yp .any e)|none=>true)

section
variable {P:Program} {ops:Array Oper} {Q:Exit->Act->World->Prop} {W:World} {a0:Act} {back:Option Oper}

def knAll:List (Tmp×Fact)->List Oper->List Fact->List (Tmp×Fact)
 | known,o ::l,φ ::φs=>knAll (kn o.dst φ known) l φs
 | known,_,_=>known
theorem bR (known:List (Tmp×Fact)) (φs:List Fact):knAll known [] φs=known:=by cases φs <;> rfl

theorem Grow.spec:∀(l:List Oper) (known:List (Tmp×Fact)),Grow P ops Q W a0 back l known->∃φs:List Fact,φs.length=l.length/\
  (∀(i:Nat) (o:Oper) (φ:Fact),l[i]?=some o->φs[i]?=some φ->φ.bw/\Obl P ops Q W a0 (knAll known (l.take i) (φs.take i)) o φ)/\Fin P ops Q W a0 back (knAll known l φs)
 | [],known,h=>⟨[],rfl,fun i o φ h=>by simp at h,by rw[bR];exact h⟩
 | o ::l,known,h=>by
  exact uS

theorem fO (d:Option Tmp) (φ:Fact) (known:List (Tmp×Fact)) (t:Tmp):(kn d φ known).lookup t=if d=some t then some φ else known.lookup t:=by
 exact uz

theorem b_:∀(l:List Oper) (φs:List Fact) (known:List (Tmp×Fact)) {t:Tmp} {φ:Fact},(knAll known l φs).lookup t=some φ->
  (∃(i:Nat) (o:Oper),l[i]?=some o/\o.dst=some t/\φs[i]?=some φ)\/known.lookup t=some φ
 | [],φs,known,t,φ,h=>by rw[bR] at h;exact .inr h
 | o ::l,[],known,t,φ,h=>.inr h
 | o ::l,ψ ::φs,known,t,φ,h=>by
  exact uL
theorem cd:∀(l:List Oper) (φs:List Fact) (known:List (Tmp×Fact)) {t:Tmp},(knAll known l φs).lookup t=none->
  known.lookup t=none/\∀(i:Nat) (o:Oper) (φ:Fact),l[i]?=some o->φs[i]?=some φ->o.dst≠some t
 | [],φs,known,t,h=>by rw[bR] at h;exact⟨h,fun i o φ h=>by simp at h⟩
 | o ::l,[],known,t,h=>⟨h,fun i o φ _ h=>by simp at h⟩
 | o ::l,ψ ::φs,known,t,h=>by
  exact uU
theorem cH:∀(l:List Oper) (φs:List Fact) (known:List (Tmp×Fact)) {p:Tmp×Fact},p∈knAll known l φs->
  (∃(i:Nat) (o:Oper),l[i]?=some o/\o.dst=some p.1/\φs[i]?=some p.2)\/p∈known
 | [],φs,known,p,h=>by rw[bR] at h;exact .inr h
 | o ::l,[],known,p,h=>.inr h
 | o ::l,ψ ::φs,known,p,h=>by
  exact uR

theorem eh (a:Act) (d t:Tmp) (v:Value):(a.put (some d) v).tmps.getD t undef=if d=t/\t<a.tmps.size then v else a.tmps.getD t undef:=by
 simp only[yx,xv,xJ];by_cases h:d=t
 ·subst h;by_cases h2:d<a.tmps.size
  ·simp[h2]
  ·simp[h2]
 ·simp[h]
theorem size_put (a:Act) (d:Option Tmp) (v:Value):(a.put d v).tmps.size=a.tmps.size:=by cases d <;> simp[yx]
theorem dQ (a:Act) (d:Option Tmp) (v:Value):(a.put d v).defers=a.defers:=by cases d <;> simp[yx]
theorem cv (a0:Act) (x:Tmp->Value):∀known,(aI a0 known x).tmps.size=a0.tmps.size
 | []=>rfl
 | p ::l=>by unfold aI;rw[List.foldr_cons,size_put];exact cv a0 x l
theorem cw (a0:Act) (x:Tmp->Value):∀known,(aI a0 known x).defers=a0.defers
 | []=>rfl
 | p ::l=>by unfold aI;rw[List.foldr_cons,dQ];exact cw a0 x l
theorem fj (a0 a:Act) (known:List (Tmp×Fact)) (hk:∀p∈known,p.1<a0.tmps.size) (t:Tmp) (h:(∀p∈known,p.1≠t)->a.tmps.getD t undef=a0.tmps.getD t undef):
  (aI a0 known (fun t=>a.tmps.getD t undef)).tmps.getD t undef=a.tmps.getD t undef:=by
 exact uZ
theorem s9 {a b:Act} (hs:a.tmps.size=b.tmps.size) (hd:a.defers=b.defers) (h:∀t,a.tmps.getD t undef=b.tmps.getD t undef):a=b:=by
 cases a with|mk at_ ad=>cases b with|mk bt bd=>
 simp only at hs hd h;subst hd;congr 1;apply Array.ext hs;intro i h1 h2;have:=h i;simpa[Array.getD,h1,h2] using this

theorem cg {l:Array Bool} {i:Nat} (h:i<l.size):l.getD i false=l.getD i true:=by simp[Array.getD,h]

structure At (front:List Oper) (φs:List Fact) (W:World) (a0:Act) (listed:Array Bool) (a:Act) (w:World):Prop where
 size:a.tmps.size=a0.tmps.size
 defers:a.defers=a0.defers
 below:Below W.heap.size W w
 known:∀(i:Nat) (o:Oper) (φ:Fact),front[i]?=some o->φs[i]?=some φ->∀t,o.dst=some t->listed.getD i false=true->φ (a.tmps.getD t undef) w
 other:∀t,(∀(i:Nat) (o:Oper),front[i]?=some o->o.dst=some t->listed.getD i false=false)->a.tmps.getD t undef=a0.tmps.getD t undef

theorem dC:∀(l:List Oper),(l.filterMap (·.dst)).Nodup->∀{i j:Nat} {o p:Oper} {t:Tmp},l[i]?=some o->l[j]?=some p->o.dst=some t->p.dst=some t->i=j
 | [],_,i,j,o,p,t,h,_,_,_=>by simp at h
 | q ::l,hn,i,j,o,p,t,h1,h2,h3,h4=>by
  have hmem:∀{k:Nat} {r:Oper},l[k]?=some r->r.dst=some t->t∈l.filterMap (·.dst):=fun h h'=>List.mem_filterMap.2 ⟨_,xD h,h'⟩;have hn':(l.filterMap (·.dst)).Nodup:=by
   rw[List.filterMap_cons] at hn;split at hn
   ·exact hn
   ·exact (List.nodup_cons.1 hn).2
  cases i with
  | zero=>
   simp only[List.getElem?_cons_zero,ym] at h1;subst h1
   cases j with
   | zero=>rfl
   | succ j=>
    simp only[List.getElem?_cons_succ] at h2;rw[List.filterMap_cons,h3] at hn;exact absurd (hmem h2 h4) (List.nodup_cons.1 hn).1
  | succ i=>
   simp only[List.getElem?_cons_succ] at h1
   cases j with
   | zero=>
    simp only[List.getElem?_cons_zero,ym] at h2;subst h2;rw[List.filterMap_cons,h4] at hn;exact absurd (hmem h1 h3) (List.nodup_cons.1 hn).1
   | succ j=>
    simp only[List.getElem?_cons_succ] at h2;rw[dC l hn' h1 h2 h3 h4]

theorem At.step {front:List Oper} {φs:List Fact} {listed:Array Bool} {a:Act} {w w':World} {j:Nat} {o:Oper} {φ:Fact} {v:Value} (h:At front φs W a0 listed a w)
  (hn:(front.filterMap (·.dst)).Nodup) (hin:∀o∈front,∀t,o.dst=some t->t<a0.tmps.size) (hmono:∀(i:Nat) (o:Oper) (φ:Fact),front[i]?=some o->φs[i]?=some φ->φ.bw)
  (ho:front[j]?=some o) (hφ:φs[j]?=some φ) (hj:j<listed.size) (hb:Below w.heap.size w w') (hv:φ v w'):At front φs W a0 (listed.setIfInBounds j true) (a.put o.dst v) w':=by
 refine⟨(size_put _ _ _).trans h.size,(dQ _ _ _).trans h.defers,h.below.trans (hb.mono h.below.size),?_,?_⟩
 ·intro i p ψ hp hψ t ht hl;by_cases e:j=i
  ·subst e;obtain rfl:o=p:=xh (ho.symm.trans hp);obtain rfl:φ=ψ:=xh (hφ.symm.trans hψ);exact rj
  ·have hl':listed.getD i false=true:=by
    simpa[xv,xJ,e] using hl
   have h1:=hmono i p ψ hp hψ _ _ _ (h.known i p ψ hp hψ t ht hl') hb;cases hd:o.dst with
   | none=>exact h1
   | some d=>
    rw[eh,if_neg (fun hx=>e (dC front hn ho hp (hd.trans (by rw[hx.1])) ht))];exact h1
 ·exact uY

theorem cJ {n:Nat} {front:List Oper} {back:Option Oper} (h:growB n front back=true):
  (front.filterMap (·.dst)).Nodup/\(∀o∈front,∀t,o.dst=some t->t<n)/\
  (∀(j:Nat) (o:Oper),front[j]?=some o->∀t∈o.looksAt (front++back.toList).toArray,∀(i:Nat) (p:Oper),front[i]?=some p->p.dst=some t->i<j/\∃e∈o.after,e.on=i/\yp .any e=true)/\
  (∀(j:Nat) o,(front++back.toList).toArray[j]?=some o->∀e∈o.after,e.on<j)/\
  (∀o,back=some o->∀i,i<front.length->∃e∈o.after,e.on=i/\yp .any e=true):=by
 unfold growB at h;simp only[yk,decide_eq_true_eq] at h;obtain⟨⟨⟨⟨h1,h2⟩,h3⟩,h4⟩,h5⟩:=h;refine⟨h1,?_,?_,?_,?_⟩
 ·intro o ho t ht;exact jd
 ·exact ra
 ·exact uJ
 ·exact uu

theorem dk {listed:Array Bool} (hs:listed.size=ops.size) (hlt:∀(j:Nat) o,ops[j]?=some o->∀e∈o.after,e.on<j) (hr:xY .any ops listed=[]):∀i,i<ops.size->listed.getD i false=true:=by
 intro i;induction i using Nat.strongRecOn with
 | _ i ih=>
  intro hi
  cases hb:listed.getD i false with
  | true=>rfl
  | false=>
   have ho:ops[i]?=some ops[i]:=yO hi;have hm:i∈xY .any ops listed:=mem_ready.2 ⟨by rw[<-cg af];exact hb,_,ho,fun e he _=>ih e.on (hlt i _ ho e he) (Nat.lt_trans (hlt i _ ho e he) hi)⟩;rw[hr] at hm
   cases hm

theorem fk {listed:Array Bool} (h:listed.toList.count false=0) (i:Nat) (hi:i<listed.size):listed.getD i false=true:=by
 have hm:listed[i]∈listed.toList:=aT
 cases hb:listed[i] with
 | true=>simp[Array.getD,hi,hb]
 | false=>
  rw[hb] at hm;exact absurd (List.count_pos_iff.2 hm) af
theorem count_set {listed:Array Bool} {i:Nat} (hi:i<listed.size) (hf:listed.getD i true=false):(listed.setIfInBounds i true).toList.count false+1=listed.toList.count false:=by
 have hb:listed[i]=false:=by simpa[Array.getD,hi] using hf
 have hm:false∈listed.toList:=by rw[<-hb];simp
 have hp:=List.count_pos_iff.2 hm;rw[Array.toList_setIfInBounds,List.count_set (by simpa using hi)];rw[Array.getElem_toList,hb];simp only[beq_self_eq_true,if_true,show (true==false)=false from rfl,Bool.false_eq_true,if_false];omega

theorem Fin.last {front:List Oper} {φs:List Fact} {listed:Array Bool} {a:Act} {w:World} (hf:Fin P ops Q W a0 back (knAll [] front φs)) (hlen:φs.length=front.length) (hin:∀o∈front,∀t,o.dst=some t->t<a0.tmps.size)
  (h:At front φs W a0 listed a w) (hall:∀i,i<front.length->listed.getD i false=true):dE P ops Q back a w:=by
 have h1:=hf (fun t=>a.tmps.getD t undef) w h.below (fun p hp=>by
  rcases cH front φs [] hp with ⟨i,o,h1,h2,h3⟩|h1
  ·exact h.known i o p.2 h1 h3 p.1 h2 (hall i (xe.1 h1).1)
  ·simp at h1)
 exact ve

theorem ck {front:List Oper} {φs:List Fact} (hops:ops=(front++back.toList).toArray) (hB:growB a0.tmps.size front back=true) (hlen:φs.length=front.length)
  (hs:∀(i:Nat) (o:Oper) (φ:Fact),front[i]?=some o->φs[i]?=some φ->φ.bw/\Obl P ops Q W a0 (knAll [] (front.take i) (φs.take i)) o φ) (hf:Fin P ops Q W a0 back (knAll [] front φs)):
  ∀(fuel:Nat) (listed:Array Bool) (a:Act) (w:World),listed.size=ops.size->listed.toList.count false<=fuel->(∀o,back=some o->listed.getD front.length false=false)->At front φs W a0 listed a w->wpAny P .any ops Q fuel listed a w:=by
 obtain⟨hn,hin,hdep,hlt,hback⟩:=cJ hB;rw[<-hops] at hdep hlt;have hsz:ops.size=front.length+back.toList.length:=by rw[hops];simp
 have hend:∀(listed:Array Bool) (a:Act) (w:World),listed.size=ops.size->(∀i,i<ops.size->listed.getD i false=true)->(∀o,back=some o->listed.getD front.length false=false)->At front φs W a0 listed a w->Q .normal a w:=by
  intro listed a w hz hall hb h;have h1:=hf.last hlen hin h (fun i hi=>hall i af);exact nO
 intro fuel;induction fuel with
 | zero=>
  intro listed a w hz hc hb h;have hall:∀i,i<ops.size->listed.getD i false=true:=fun i hi=>fk af i af;refine⟨?_,hend listed a w hz hall hb h⟩
  cases hr:xY .any ops listed with
  | nil=>rfl
  | cons j js=>
   have hm:j∈xY .any ops listed:=by rw[hr];simp
   obtain⟨h1,o,ho,-⟩:=mem_ready.1 hm;have hj:=(xA.1 ho).1;rw[<-cg af,hall j hj] at h1
   cases h1
 | succ fuel ih=>
  intro listed a w hz hc hb h;refine⟨fun hr=>hend listed a w hz (dk hz hlt hr) hb h,fun j hj=>?_⟩;obtain⟨hun,o,ho,hall⟩:=mem_ready.1 hj;have hjs:j<ops.size:=(xA.1 ho).1;have hcs:=count_set (listed:=listed) (i:=j) af hun
  by_cases hjf:j<front.length
  ·have hof:front[j]?=some o:=by rw[hops] at ho;simpa[List.getElem?_append_left hjf] using ho
   have hφ:φs[j]?=some (φs[j]'(by omega)):=xm _;obtain⟨hm,hob⟩:=hs j o _ hof hφ
   have hfacts:∀t∈o.looksAt ops,ak a0 (knAll [] (front.take j) (φs.take j)) a w t:=by
    intro t ht;unfold ak
    cases hk:(knAll [] (front.take j) (φs.take j)).lookup t with
    | some φ=>
     rcases b_ _ _ _ hk with ⟨i,p,h1,h2,h3⟩|h1
     ·have hij:i<j:=by have:=(xe.1 h1).1;simp at this;omega
      rw[xF,if_pos hij] at h1 h3;obtain⟨-,e,he,hon,hbi⟩:=hdep j o hof t ht i p h1 h2;have hl:=hall e he hbi;rw[hon] at hl;exact h.known i p φ h1 h3 t h2 hl
     ·simp at h1
    | none=>
     refine h.other t (fun i p hp hd=>?_)
     exfalso
     obtain⟨hij,-⟩:=hdep j o hof t ht i p hp hd;have hi:=(xe.1 hp).1;exact (cd _ _ _ hk).2 i p (φs[i]'(by omega)) nu nA hd
   have h1:=hob a w (wpAny P .any ops Q fuel (listed.setIfInBounds j true)) h.size h.below hfacts (fun v w' hbw hv=>by
    refine ih _ _ _ (by simpa using hz) af (fun o' ho'=>?_) (h.step hn hin (fun i o φ h1 h2=>(hs i o φ h1 h2).1) hof hφ af hbw hv);have h2:=hb o' ho'
    have e:¬j=front.length:=af
    simpa[xv,xJ,e] using h2)
   unfold wpOp;rw[ho]
   simp only
   split
   ·rename_i hw;rw[if_pos hw] at h1;exact .inl h1
   ·rename_i hw;rw[if_neg hw] at h1;exact h1
  ·cases hk:back with
   | none=>rw[hk] at hsz;simp at hsz;omega
   | some b=>
    have hjn:j=front.length:=by rw[hk] at hsz;simp at hsz;omega
    subst hjn
    have hob:o=b:=by
     rw[hops,hk] at ho
     simp at ho
     exact ho.symm
    subst hob
    have hfl:∀i,i<front.length->listed.getD i false=true:=fun i hi=>by
     obtain⟨e,he,hon,hbi⟩:=hback o hk i hi;have:=hall e he hbi
     rwa [hon] at this
    have h1:=hf.last hlen hin h hfl;rw[hk] at h1
    have h2:=h1 (wpAny P .any ops Q fuel (listed.setIfInBounds front.length true)) (fun a' w' hq=>by
     have hr:xY .any ops (listed.setIfInBounds front.length true)=[]:=by
      cases hr:xY .any ops (listed.setIfInBounds front.length true) with
      | nil=>rfl
      | cons i is=>
       have hm:i∈xY .any ops (listed.setIfInBounds front.length true):=by rw[hr];simp
       obtain⟨h3,o',ho',-⟩:=mem_ready.1 hm;have hi:=(xA.1 ho').1
       exfalso
       by_cases e:front.length=i
       ·subst e
        simp[xv,show front.length<listed.size from by omega] at h3
       ·have h4:=hfl i nt;rw[cg af] at h4
        simp[xv,e] at h3 h4
        rw[h3] at h4
        cases h4
     cases fuel with
     | zero=>exact⟨hr,hq⟩
     | succ fuel=>exact⟨fun _=>hq,fun i hi=>by rw[hr] at hi;cases hi⟩)
    unfold wpOp;rw[ho]
    simp only
    split
    ·rename_i hw;rw[if_pos hw] at h2;exact .inl h2
    ·rename_i hw;rw[if_neg hw] at h2;exact h2
end

theorem bm (n i:Nat):(Array.replicate n false).getD i false=false:=by
 rw[xv,Array.getElem?_replicate];split <;> rfl
theorem bY {P:Program} {id:Nat} {Q:Exit->Act->World->Prop} {a0:Act} {W:World} {l:List Oper} {front:List Oper} {back:Option Oper} (hm:P.follows .mixedOrders=true) (hl:l=front++back.toList) (hB:growB a0.tmps.size front back=true)
  (h:Grow P l.toArray Q W a0 back front []):(Code.region id l.toArray true).wp P Q a0 W:=by
 obtain⟨φs,hlen,hs,hf⟩:=Grow.spec _ _ h;refine wp_region_any hm (ck (by rw[hl]) hB hlen hs hf _ _ _ _ aT ?_ (fun o ho=>?_) ⟨rfl,rfl,(xj _ _).drew,fun i o φ h1 h2 t ht hx=>?_,fun t _=>rfl⟩)
 ·exact nK
 ·exact bm _ _
 ·rw[bm] at hx;cases hx
theorem aB {P:Program} {id:Nat} {Q:Exit->Act->World->Prop} {a0:Act} {W:World} {l:List Oper} {front:List Oper} {last:Oper} (hm:P.follows .mixedOrders=true) (hf:l.dropLast=front) (hb:l.getLast?=some last) (hB:growB a0.tmps.size front (some last)=true)
  (h:Grow P l.toArray Q W a0 (some last) front []):(Code.region id l.toArray true).wp P Q a0 W:=by
 refine bY hm ?_ hB h;exact nJ

structure Vd where
 n:ByteArray
 c:Int
 z:ByteArray
 k:ByteArray
 x:Bool
 m:ByteArray
 y:Bool
 zs:List ByteArray
end Go.Proofs.YtbbdcjbfnjlndaaGreatDoor

namespace Go.Proofs.YtbbdcjbfnjlndaaGreatDoor
open Go.RowKit
namespace Rc
open Mk

structure Qd where
 n:ByteArray
 d:ByteArray

def qdF (x:Qd):List Fv:=[.s x.n,.s x.d]
theorem b8 {w:World} {b o:Nat} {x:Qd} (h:RAt w b o (qdF x)):x.n.size<=9223372036854775807/\x.d.size<=9223372036854775807/\w.cell? ⟨b,o,none⟩=some (.string x.n)/\w.cell? ⟨b,o+1,none⟩=some (.string x.d):=by
 obtain⟨v0,h0,rfl,z0⟩:=h 0 _ rfl;obtain⟨v1,h1,rfl,z1⟩:=h 1 _ rfl;exact⟨z0,z1,h0,h1⟩
theorem eJ {w:World} {a:Option Addr} {len cap:Nat} {xs:List Qd} (h:aF w a len cap 2 (xs.map qdF)) {j:Nat} (hj:j<len):
  ∃b o x,a=some ⟨b,o,none⟩/\b<w.heap.size/\xs[j]?=some x/\RAt w b (o+j*2) (qdF x):=by
 exact iE

structure Nd where
 n:ByteArray
 z:ByteArray
 c:Int
 s:Int
 u:Int
 d:Bool
 zs:List ByteArray

def ndF (x:Nd):List Fv:=[.s x.n,.s x.z,.i x.c,.i x.s,.i x.u,.b x.d,.l x.zs]
theorem aQ {w:World} {b o:Nat} {x:Nd} (h:RAt w b o (ndF x)):∃a len cap,av w a len cap x.zs/\x.n.size<=9223372036854775807/\x.z.size<=9223372036854775807/\w.cell? ⟨b,o,none⟩=some (.string x.n)/\w.cell? ⟨b,o+1,none⟩=some (.string x.z)/\w.cell? ⟨b,o+2,none⟩=some (.int .i64 x.c)/\w.cell? ⟨b,o+3,none⟩=some (.int .i64 x.s)/\w.cell? ⟨b,o+4,none⟩=some (.int .i64 x.u)/\w.cell? ⟨b,o+5,none⟩=some (.bool x.d)/\w.cell? ⟨b,o+6,none⟩=some (.slice a len cap):=by
 obtain⟨v0,h0,rfl,z0⟩:=h 0 _ rfl;obtain⟨v1,h1,rfl,z1⟩:=h 1 _ rfl;obtain⟨v2,h2,rfl⟩:=h 2 _ rfl;obtain⟨v3,h3,rfl⟩:=h 3 _ rfl;obtain⟨v4,h4,rfl⟩:=h 4 _ rfl;obtain⟨v5,h5,rfl⟩:=h 5 _ rfl;obtain⟨v6,h6,a,len,cap,rfl,hr⟩:=h 6 _ rfl;exact⟨a,len,cap,hr,z0,z1,h0,h1,h2,h3,h4,h5,h6⟩
theorem bU {w:World} {a:Option Addr} {len cap:Nat} {xs:List Nd} (h:aF w a len cap 7 (xs.map ndF)) {j:Nat} (hj:j<len):
  ∃b o x,a=some ⟨b,o,none⟩/\b<w.heap.size/\xs[j]?=some x/\RAt w b (o+j*7) (ndF x):=by
 exact iE

theorem pG (a:Option Addr) (len cap:Nat) (xs:List Nd) (left:Int) (w:World) (hr:aF w a len cap 7 (xs.map ndF)) (h0:0<=left) (h1:left<=1048576):
  Calls Tryz.prog 13 #[.slice a len cap,.int .i64 left] w (SzB left (len<=1048576/\∀(j:Nat) x,xs[j]?=some x->x.zs.length<=1048576) w):=by
 obtain⟨HR,hvl⟩:=eG;have hlc:=xp hr.2.1 hr.2.2.1;clear hr;by_cases hl:left<(len:Int)
 ·go_enter Tryz.func13,Tryz.ntmps13;exact kx
 go_enter Tryz.func13,Tryz.ntmps13;go_wp2;go_loopw [1,5] (fun l i wr=> ∃(k:Nat) (m:Int),k<=len/\l=.int .i64 m/\i=.int .i64 k/\0<=m/\m<=left/\Hid (∀(j:Nat) x,j<k->xs[j]?=some x->x.zs.length<=1048576)/\Hid (Below w.heap.size w wr)) (fun _ i _=>len - (intOf i).toNat);case atStart=>exact⟨0,left - len,by omega,by go_num,rfl,by omega,by omega,fun j v hj=>by omega,xj _ _⟩
 case round=>
  obtain⟨k,m,hk,rfl,rfl,hm0,hm1,HE,HB⟩:=hrel;by_cases hlt:k<len
  ·obtain⟨b,o,v,rfl,hb,hv,hat⟩:=bU (HR.below HB.out) hlt;obtain⟨va,vl,vc,hvr,z0,z1,c0,c1,c2,c3,c4,c5,c6⟩:=aQ hat;have Hz0:=aa z0;have Hz1:=aa z1;have HV:=aa hv;have HT:=aa hvr;clear hvr;clear hat hv z0 z1;go_wp2_with fail;refine (lC v.n v.z v.c v.s v.u v.d va vl vc v.zs m _ Hz0.out Hz1.out HT.out hm0 af).mono ?_;rintro e w2 ⟨r,rfl,hr,hb2⟩;have HB2:=upB HB hb2;clear hb2 c0 c1 c2 c3 c4 c5 c6;exact qy
  ·exact qv

theorem su (a a':Option Addr) (len len' cap cap':Nat) (xs:List Nd) (w:World) (hr:aF w a len cap 7 (xs.map ndF)) (hr':aF w a' len' cap' 7 (xs.map ndF)):
  Calls Tryz.prog 42 #[.slice a len cap,.slice a' len' cap'] w fun e w'=>e=.returned (.bool true)/\Below w.heap.size w w':=by
 obtain rfl:len=len':=hr.1.symm.trans hr'.1;obtain⟨HR,HR',hlc⟩:=kh;clear hr hr';go_enter Tryz.func42,Tryz.ntmps42;go_wp2;go_loopw [5] (fun i wr=> ∃k:Nat,k<=len/\i=.int .i64 k/\Hid (Below w.heap.size w wr)) (fun i _=>len - (intOf i).toNat);case atStart=>exact⟨0,by omega,rfl,xj _ _⟩
 case round=>
  obtain⟨k,hk,rfl,HB⟩:=hrel;by_cases hlt:k<len
  ·obtain⟨b,o,v,rfl,hb,hv,hat⟩:=bU (HR.below HB.out) hlt;obtain⟨b',o',v',rfl,hb',hv',hat'⟩:=bU (HR'.below HB.out) hlt;rw[hv] at hv';obtain rfl:=xh hv';clear hv hv';obtain⟨va,vl,vc,hvr,-,-,c0,c1,c2,c3,c4,c5,c6⟩:=aQ hat;obtain⟨va',vl',vc',hvr',-,-,d0,d1,d2,d3,d4,d5,d6⟩:=aQ hat';clear hat hat';have HT:=aa hvr;have HT':=aa hvr';clear hvr hvr';have HE:=aa (fun q:Wd wr=>mU v.n v.z v.c v.s v.u v.d va vl vc v.zs va' vl' vc' q.w (HT.below q.b) (HT'.below q.b));have hne:=Wd.ne wr;have e0:∀q:Wd wr,q.w.cell? ⟨b,o+k*7,none⟩=some (.string v.n):=fun q=>(q.cell hb).trans c0;have e1:∀q:Wd wr,q.w.cell? ⟨b,o+k*7+1,none⟩=some (.string v.z):=fun q=>(q.cell hb).trans c1;have e2:∀q:Wd wr,q.w.cell? ⟨b,o+k*7+2,none⟩=some (.int .i64 v.c):=fun q=>(q.cell hb).trans c2;have e3:∀q:Wd wr,q.w.cell? ⟨b,o+k*7+3,none⟩=some (.int .i64 v.s):=fun q=>(q.cell hb).trans c3;have e4:∀q:Wd wr,q.w.cell? ⟨b,o+k*7+4,none⟩=some (.int .i64 v.u):=fun q=>(q.cell hb).trans c4;have e5:∀q:Wd wr,q.w.cell? ⟨b,o+k*7+5,none⟩=some (.bool v.d):=fun q=>(q.cell hb).trans c5;have e6:∀q:Wd wr,q.w.cell? ⟨b,o+k*7+6,none⟩=some (.slice va vl vc):=fun q=>(q.cell hb).trans c6;have f0:∀q:Wd wr,q.w.cell? ⟨b',o'+k*7,none⟩=some (.string v.n):=fun q=>(q.cell hb').trans d0;have f1:∀q:Wd wr,q.w.cell? ⟨b',o'+k*7+1,none⟩=some (.string v.z):=fun q=>(q.cell hb').trans d1;have f2:∀q:Wd wr,q.w.cell? ⟨b',o'+k*7+2,none⟩=some (.int .i64 v.c):=fun q=>(q.cell hb').trans d2;have f3:∀q:Wd wr,q.w.cell? ⟨b',o'+k*7+3,none⟩=some (.int .i64 v.s):=fun q=>(q.cell hb').trans d3;have f4:∀q:Wd wr,q.w.cell? ⟨b',o'+k*7+4,none⟩=some (.int .i64 v.u):=fun q=>(q.cell hb').trans d4;have f5:∀q:Wd wr,q.w.cell? ⟨b',o'+k*7+5,none⟩=some (.bool v.d):=fun q=>(q.cell hb').trans d5;have f6:∀q:Wd wr,q.w.cell? ⟨b',o'+k*7+6,none⟩=some (.slice va' vl' vc'):=fun q=>(q.cell hb').trans d6;clear c0 c1 c2 c3 c4 c5 c6 d0 d1 d2 d3 d4 d5 d6;go_wp2_with fail;refine ag an an ?_;repeat (go_big_quiet_step (first|(go_at_call 98;exact Calls.wide (HE.out _))|fail))
   exact kL
  ·exact kA

theorem mm (a:Option Addr) (len cap:Nat) (xs:List Nd) (N:Int) (S:Nat->Prop) (w:World) (ho:az w a len cap 7 103 (xs.map ndF) S) (hN:0<N) (hb:aC N (xs.map ndF)<=1152921504606846976) (hl:len<=9223372036854775807):
  Calls Tryz.prog 47 #[.slice a len cap,.int .i64 N] w fun e w'=>e=.returned (.int .i64 (aC N (xs.map ndF)))/\az w' a len cap 7 103 (mkRs N (xs.map ndF)) S/\aG S w w':=by
 have hxl:=ho.1;have hcp:=ho.2.1;have hcm:=ho.2.2.1;have hml:(mkRs N (xs.map ndF)).length=(xs.map ndF).length:=bj _ _;have HO:Hid (az w a len cap 7 103 ((mkRs N (xs.map ndF)).take 0++(xs.map ndF).drop 0) S):=ka
 have HBd:=aa hb;clear ho hb;go_enter Tryz.func47,Tryz.ntmps47;go_wp2;go_loopw [1,5] (fun vk vi wr=> ∃(i:Nat) (n:Int),i<=len/\vk=.int .i64 n/\vi=.int .i64 i/\Hid (n=aC N ((xs.map ndF).take i))/\0<n/\Hid (az wr a len cap 7 103 ((mkRs N (xs.map ndF)).take i++(xs.map ndF).drop i) S)/\Hid (aG S w wr)) (fun _ vi _=>len - (intOf vi).toNat);case atStart=>exact⟨0,N,by omega,rfl,rfl,rfl,hN,HO,aG.refl _ _⟩
 case round=>
  obtain⟨i,n,hi,rfl,rfl,HN,hn0,HS,HK⟩:=hrel;clear HO;by_cases hlt:i<len
  ·obtain⟨x,hx⟩:∃x,xs[i]?=some x:=⟨_,xm (by simpa using (show i<(xs.map ndF).length by omega))⟩;obtain⟨hfx,HF,hbd,hbd'⟩:=tX;obtain⟨g,rfl,hs⟩:=HS.st HK.out ((cf hml af).trans hfx);have H0:Hid (StJ g 7 103 S (fun _=>False) w wr ((mkRs N (xs.map ndF)).take i++(xs.map ndF).drop i) i [.s x.n,.s x.z,.i x.c,.i x.s,.i x.u,.b x.d,.l x.zs]):=hs;clear hs hbd hx hfx HS HK;go_wp2_with fail;refine (bF _ _ af af).mono ?_;rintro e w1 ⟨rfl,hb⟩;have h1:=(H0.out).below hb;have H1:=aa h1;obtain⟨p0,c0⟩:=h1.cell (i:=0) rfl;have f0:=h1.cA (i*7);rw[yC] at c0;clear h1 hb H0;go_wp2_with fail;refine (bF _ _ af af).mono ?_;rintro e w2 ⟨rfl,hb⟩;have h1:=((H1.out).cP (i:=0) rfl _ (ba af)).below hb;have H2:=aa h1;obtain⟨p1,c1⟩:=h1.cell (i:=1) rfl;have f1:=h1.cA (i*7+1);obtain⟨p2,c2⟩:=h1.cell (i:=2) rfl;have f2:=h1.cA (i*7+2);obtain⟨p3,c3⟩:=h1.cell (i:=3) rfl;have f3:=h1.cA (i*7+3);obtain⟨p4,c4⟩:=h1.cell (i:=4) rfl;have f4:=h1.cA (i*7+4);obtain⟨p5,c5⟩:=h1.cell (i:=5) rfl;have f5:=h1.cA (i*7+5);obtain⟨la,ll,lc,cl,hll⟩:=h1.slice (i:=6) rfl;clear h1 hb H1 c0 f0;go_wp2_with fail;refine (((((((H2.out).cP (i:=1) rfl _ (ba af)).gm (i:=2) rfl _).gm (i:=3) rfl _).gm (i:=4) rfl _).gn (i:=5) rfl _).rX (i:=6) rfl ((bI af).trans ((bI af).trans ((bI af).trans ((bI af).trans ((bI af).trans (cl)))))) _ af af).mono ?_;rintro e w3 ⟨rfl,h1⟩;have H3:=aa h1;clear h1 cl H2 c1 f1 c2 f2 c3 f3 c4 f4 c5 f5;go_wp2_with fail;have HZ:=aa (H3.out);clear H3;refine⟨⟨i+1,mkN n (ndF x),by omega,?_,by go_num,?_,?_,?_,HZ.kept⟩,by simp[intOf];omega⟩
   ·simp[mkN,mkN1,ndF,hll,yv]
   ·rw[bH HF.out,<-HN.out];rfl
   ·simp[mkN,mkN1,ndF];omega
   ·refine az.kU HZ.out hxl hml hcp hcm HF.out ?_;rw[<-HN.out];simp[mkR,mkF,mkN1,ndF,hll]
  ·obtain rfl:i=len:=af
   go_wp2;go_ret;have e1:(xs.map ndF).take i=xs.map ndF:=xw af;have e2:(mkRs N (xs.map ndF)).take i++(xs.map ndF).drop i=mkRs N (xs.map ndF):=by
    exact gS
   exact kK

theorem mN (a:Option Addr) (len cap:Nat) (xs:List Nd) (N:Int) (w:World) (ho:aF w a len cap 7 (mkRs N (xs.map ndF))) (hN:0<N) (hb:aC N (xs.map ndF)<=1152921504606846976) (hl:len<=9223372036854775807):
  Calls Tryz.prog 105 #[.slice a len cap,.int .i64 N] w fun e w'=>e=.returned (.int .i64 (aC N (xs.map ndF)))/\Below w.heap.size w w':=by
 have hxl:(xs.map ndF).length=len:=by rw[<-bj (xs.map ndF) N];exact ho.1
 have HR:=aa ho;have HBd:=aa hb;clear ho hb;go_enter Tryz.func105,Tryz.ntmps105;go_wp2;go_loopw [1,5] (fun vk vi wr=> ∃(i:Nat) (n:Int),i<=len/\vk=.int .i64 n/\vi=.int .i64 i/\Hid (n=aC N ((xs.map ndF).take i))/\0<n/\Hid (Below w.heap.size w wr)) (fun _ vi _=>len - (intOf vi).toNat);case atStart=>exact⟨0,N,by omega,rfl,rfl,rfl,hN,xj _ _⟩
 case round=>
  obtain⟨i,n,hi,rfl,rfl,HN,hn0,HB⟩:=hrel;by_cases hlt:i<len
  ·obtain⟨x,hx⟩:∃x,xs[i]?=some x:=⟨_,xm (by simpa using (show i<(xs.map ndF).length by omega))⟩;obtain⟨hfx,HF,hbd,hbd'⟩:=tX;obtain⟨b,o,r,rfl,hb,hr,hat⟩:=(HR.below HB.out).at hlt;rw[dL,hfx,<-HN.out] at hr;obtain rfl:=xh hr;have HA:Hid (RAt wr b (o+i*7) (ndF ⟨aX (n).toNat,aX (n+1).toNat,n+1+1,n+1+1+1,n+1+1+1+1,(n+1+1+1+1+1) % 3==0,cU (n+1+1+1+1+1+1) x.zs.length⟩)):=hat;clear hat hr hbd hx hfx;obtain⟨va,vl,vc,hvr,-,-,c0,c1,c2,c3,c4,c5,c6⟩:=aQ HA.out;have HL:=aa hvr;have hvl:=hvr.1;rw[aO] at hvl;clear hvr;clear HL hvl;have hne0:=Wd.ne wr;have e0:∀q:Wd wr,q.w.cell? ⟨b,o+i*7,none⟩=some (.string (aX (n).toNat)):=fun q=>(q.cell hb).trans c0;have HT:=aa (fun v:World=>bF (n) v af af);clear c0;go_wp2_with fail;refine ag an an ?_;repeat (go_big_quiet_step (first|(go_at_call 103;exact Calls.wide (HT.out _))|fail))
   refine wpQuiet_nil ?_;rintro _ ⟨q0,rfl⟩;clear e0 HT hne0 c1 c2 c3 c4 c5 c6;obtain⟨HA0,HB0,hb0⟩:=kp;clear HA HB hb;have HA:=HA0;have HB:=HB0;have hb:=hb0;clear HA0 HB0 hb0;obtain⟨va,vl,vc,hvr,-,-,c0,c1,c2,c3,c4,c5,c6⟩:=aQ HA.out;have HL:=aa hvr;have hvl1:=hvr.1;rw[aO] at hvl1;clear hvr;clear c0 c2 c3 c4 c5 c6;clear HL hvl1;have hne1:=Wd.ne q0.w;have e1:∀q:Wd q0.w,q.w.cell? ⟨b,o+i*7+1,none⟩=some (.string (aX (n+1).toNat)):=fun q=>(q.cell hb).trans c1;have HT:=aa (fun v:World=>bF (n+1) v af af);clear c1;go_wp2_with fail;refine ag an an ?_;repeat (go_big_quiet_step (first|(go_at_call 103;exact Calls.wide (HT.out _))|fail))
   refine wpQuiet_nil ?_;rintro _ ⟨q1,rfl⟩;clear e1 HT hne1;obtain⟨HA1,HB1,hb1⟩:=ko;clear HA HB hb;have HA:=HA1;have HB:=HB1;have hb:=hb1;clear HA1 HB1 hb1;obtain⟨va,vl,vc,hvr,-,-,c0,c1,c2,c3,c4,c5,c6⟩:=aQ HA.out;have HL:=aa hvr;have hvl2:=hvr.1;rw[aO] at hvl2;clear hvr;clear c0 c1;subst hvl2;go_wp2_with fail;refine (sn va _ vc _ _ (by exact HL.out) af af).mono ?_;rintro e w2 ⟨rfl,hbq⟩;have HA2:=aa (HA.below hb hbq);have HB2:=upB HB hbq;have hb2:=xr hb hbq.size;clear HA HB hb HL c6 hbq;have HA:=HA2;have HB:=HB2;have hb:=hb2;clear HA2 HB2 hb2;go_wp2_with fail;refine⟨⟨i+1,mkN n (ndF x),by omega,?_,by go_num,?_,?_,HB.out⟩,by simp[intOf];omega⟩
   ·simp[mkN,mkN1,ndF,yv]
   ·rw[bH HF.out,<-HN.out];rfl
   ·simp[mkN,mkN1,ndF];omega
  ·obtain rfl:i=len:=af
   go_wp2;go_ret;have e1:(xs.map ndF).take i=xs.map ndF:=xw af;exact kG

structure Kd where
 n:ByteArray
 x:Bool
 y:Bool
 z:ByteArray

def kdF (x:Kd):List Fv:=[.s x.n,.b x.x,.b x.y,.s x.z]
theorem bO {w:World} {b o:Nat} {x:Kd} (h:RAt w b o (kdF x)):x.n.size<=9223372036854775807/\x.z.size<=9223372036854775807/\w.cell? ⟨b,o,none⟩=some (.string x.n)/\w.cell? ⟨b,o+1,none⟩=some (.bool x.x)/\w.cell? ⟨b,o+2,none⟩=some (.bool x.y)/\w.cell? ⟨b,o+3,none⟩=some (.string x.z):=by
 obtain⟨v0,h0,rfl,z0⟩:=h 0 _ rfl;obtain⟨v1,h1,rfl⟩:=h 1 _ rfl;obtain⟨v2,h2,rfl⟩:=h 2 _ rfl;obtain⟨v3,h3,rfl,z3⟩:=h 3 _ rfl;exact⟨z0,z3,h0,h1,h2,h3⟩
theorem eL {w:World} {a:Option Addr} {len cap:Nat} {xs:List Kd} (h:aF w a len cap 4 (xs.map kdF)) {j:Nat} (hj:j<len):
  ∃b o x,a=some ⟨b,o,none⟩/\b<w.heap.size/\xs[j]?=some x/\RAt w b (o+j*4) (kdF x):=by
 exact iE

theorem pH (a:Option Addr) (len cap:Nat) (xs:List Kd) (left:Int) (w:World) (hr:aF w a len cap 4 (xs.map kdF)) (h0:0<=left) (h1:left<=1048576):
  Calls Tryz.prog 14 #[.slice a len cap,.int .i64 left] w (SzB left (len<=1048576) w):=by
 obtain⟨HR,hvl⟩:=eG;have hlc:=xp hr.2.1 hr.2.2.1;clear hr;by_cases hl:left<(len:Int)
 ·go_enter Tryz.func14,Tryz.ntmps14;exact kx
 go_enter Tryz.func14,Tryz.ntmps14;go_wp2;go_loopw [1,5] (fun l i wr=> ∃(k:Nat) (m:Int),k<=len/\l=.int .i64 m/\i=.int .i64 k/\0<=m/\m<=left/\Hid (Below w.heap.size w wr)) (fun _ i _=>len - (intOf i).toNat);case atStart=>exact⟨0,left - len,by omega,by go_num,rfl,by omega,by omega,xj _ _⟩
 case round=>
  obtain⟨k,m,hk,rfl,rfl,hm0,hm1,HB⟩:=hrel;by_cases hlt:k<len
  ·obtain⟨b,o,v,rfl,hb,hv,hat⟩:=eL (HR.below HB.out) hlt;obtain⟨z0,z3,c0,c1,c2,c3⟩:=bO hat;have Hz0:=aa z0;have Hz3:=aa z3;clear hat hv z0 z3;go_wp2_with fail;refine (jQ v.n v.x v.y v.z m _ Hz0.out Hz3.out hm0 af).mono ?_;rintro e w2 ⟨r,rfl,hr,hb2⟩;have HB2:=upB HB hb2;clear hb2 c0 c1 c2 c3;exact uk
  ·exact ri

theorem lj (n:ByteArray) (x:Bool) (y:Bool) (z:ByteArray) (w:World):
  Calls Tryz.prog 99 #[.agg #[.string n,.bool x,.bool y,.string z],.agg #[.string n,.bool x,.bool y,.string z]] w fun e w'=>e=.returned (.bool true)/\Below w.heap.size w w':=by
 go_enter Tryz.func99,Tryz.ntmps99;go_wp2;go_ret;exact⟨rfl,aM _ _ _⟩

theorem sv (a a':Option Addr) (len len' cap cap':Nat) (xs:List Kd) (w:World) (hr:aF w a len cap 4 (xs.map kdF)) (hr':aF w a' len' cap' 4 (xs.map kdF)):
  Calls Tryz.prog 43 #[.slice a len cap,.slice a' len' cap'] w fun e w'=>e=.returned (.bool true)/\Below w.heap.size w w':=by
 obtain rfl:len=len':=hr.1.symm.trans hr'.1;obtain⟨HR,HR',hlc⟩:=kh;clear hr hr';go_enter Tryz.func43,Tryz.ntmps43;go_wp2;go_loopw [5] (fun i wr=> ∃k:Nat,k<=len/\i=.int .i64 k/\Hid (Below w.heap.size w wr)) (fun i _=>len - (intOf i).toNat);case atStart=>exact⟨0,by omega,rfl,xj _ _⟩
 case round=>
  obtain⟨k,hk,rfl,HB⟩:=hrel;by_cases hlt:k<len
  ·obtain⟨b,o,v,rfl,hb,hv,hat⟩:=eL (HR.below HB.out) hlt;obtain⟨b',o',v',rfl,hb',hv',hat'⟩:=eL (HR'.below HB.out) hlt;rw[hv] at hv';obtain rfl:=xh hv';clear hv hv';obtain⟨-,-,c0,c1,c2,c3⟩:=bO hat;obtain⟨-,-,d0,d1,d2,d3⟩:=bO hat';clear hat hat';have HE:=aa (fun q:Wd wr=>lj v.n v.x v.y v.z q.w);have hne:=Wd.ne wr;have e0:∀q:Wd wr,q.w.cell? ⟨b,o+k*4,none⟩=some (.string v.n):=fun q=>(q.cell hb).trans c0;have e1:∀q:Wd wr,q.w.cell? ⟨b,o+k*4+1,none⟩=some (.bool v.x):=fun q=>(q.cell hb).trans c1;have e2:∀q:Wd wr,q.w.cell? ⟨b,o+k*4+2,none⟩=some (.bool v.y):=fun q=>(q.cell hb).trans c2;have e3:∀q:Wd wr,q.w.cell? ⟨b,o+k*4+3,none⟩=some (.string v.z):=fun q=>(q.cell hb).trans c3;have f0:∀q:Wd wr,q.w.cell? ⟨b',o'+k*4,none⟩=some (.string v.n):=fun q=>(q.cell hb').trans d0;have f1:∀q:Wd wr,q.w.cell? ⟨b',o'+k*4+1,none⟩=some (.bool v.x):=fun q=>(q.cell hb').trans d1;have f2:∀q:Wd wr,q.w.cell? ⟨b',o'+k*4+2,none⟩=some (.bool v.y):=fun q=>(q.cell hb').trans d2;have f3:∀q:Wd wr,q.w.cell? ⟨b',o'+k*4+3,none⟩=some (.string v.z):=fun q=>(q.cell hb').trans d3;clear c0 c1 c2 c3 d0 d1 d2 d3;go_wp2_with fail;refine ag an an ?_;repeat (go_big_quiet_step (first|(go_at_call 99;exact Calls.wide (HE.out _))|fail))
   exact kL
  ·exact kA

theorem mn (a:Option Addr) (len cap:Nat) (xs:List Kd) (N:Int) (S:Nat->Prop) (w:World) (ho:az w a len cap 4 111 (xs.map kdF) S) (hN:0<N) (hb:aC N (xs.map kdF)<=1152921504606846976) (hl:len<=9223372036854775807):
  Calls Tryz.prog 48 #[.slice a len cap,.int .i64 N] w fun e w'=>e=.returned (.int .i64 (aC N (xs.map kdF)))/\az w' a len cap 4 111 (mkRs N (xs.map kdF)) S/\aG S w w':=by
 have hxl:=ho.1;have hcp:=ho.2.1;have hcm:=ho.2.2.1;have hml:(mkRs N (xs.map kdF)).length=(xs.map kdF).length:=bj _ _;have HO:Hid (az w a len cap 4 111 ((mkRs N (xs.map kdF)).take 0++(xs.map kdF).drop 0) S):=ka
 have HBd:=aa hb;clear ho hb;go_enter Tryz.func48,Tryz.ntmps48;go_wp2;go_loopw [1,5] (fun vk vi wr=> ∃(i:Nat) (n:Int),i<=len/\vk=.int .i64 n/\vi=.int .i64 i/\Hid (n=aC N ((xs.map kdF).take i))/\0<n/\Hid (az wr a len cap 4 111 ((mkRs N (xs.map kdF)).take i++(xs.map kdF).drop i) S)/\Hid (aG S w wr)) (fun _ vi _=>len - (intOf vi).toNat);case atStart=>exact⟨0,N,by omega,rfl,rfl,rfl,hN,HO,aG.refl _ _⟩
 case round=>
  obtain⟨i,n,hi,rfl,rfl,HN,hn0,HS,HK⟩:=hrel;clear HO;by_cases hlt:i<len
  ·obtain⟨x,hx⟩:∃x,xs[i]?=some x:=⟨_,xm (by simpa using (show i<(xs.map kdF).length by omega))⟩;obtain⟨hfx,HF,hbd,hbd'⟩:=tV;obtain⟨g,rfl,hs⟩:=HS.st HK.out ((cf hml af).trans hfx);have H0:Hid (StJ g 4 111 S (fun _=>False) w wr ((mkRs N (xs.map kdF)).take i++(xs.map kdF).drop i) i [.s x.n,.b x.x,.b x.y,.s x.z]):=hs;clear hs hbd hx hfx HS HK;go_wp2_with fail;refine (bF _ _ af af).mono ?_;rintro e w1 ⟨rfl,hb⟩;have h1:=(H0.out).below hb;have H1:=aa h1;obtain⟨p0,c0⟩:=h1.cell (i:=0) rfl;have f0:=h1.cA (i*4);rw[yC] at c0;obtain⟨p1,c1⟩:=h1.cell (i:=1) rfl;have f1:=h1.cA (i*4+1);obtain⟨p2,c2⟩:=h1.cell (i:=2) rfl;have f2:=h1.cA (i*4+2);clear h1 hb H0;go_wp2_with fail;refine (bF _ _ af af).mono ?_;rintro e w2 ⟨rfl,hb⟩;have h1:=((((H1.out).cP (i:=0) rfl _ (ba af)).gn (i:=1) rfl _).gn (i:=2) rfl _).below hb;have H2:=aa h1;obtain⟨p3,c3⟩:=h1.cell (i:=3) rfl;have f3:=h1.cA (i*4+3);clear h1 hb H1 c0 f0 c1 f1 c2 f2;go_wp2_with fail;have HZ:=aa ((H2.out).cP (i:=3) rfl (aX (n+1+1+1).toNat) (ba af));clear H2;refine⟨⟨i+1,mkN n (kdF x),by omega,?_,by go_num,?_,?_,?_,HZ.kept⟩,by simp[intOf];omega⟩
   ·simp[mkN,mkN1,kdF,yv]
   ·rw[bH HF.out,<-HN.out];rfl
   ·simp[mkN,mkN1,kdF];omega
   ·refine az.kU HZ.out hxl hml hcp hcm HF.out ?_;rw[<-HN.out];simp[mkR,mkF,mkN1,kdF]
  ·obtain rfl:i=len:=af
   go_wp2;go_ret;have e1:(xs.map kdF).take i=xs.map kdF:=xw af;have e2:(mkRs N (xs.map kdF)).take i++(xs.map kdF).drop i=mkRs N (xs.map kdF):=by
    exact gS
   exact kK

theorem mO (a:Option Addr) (len cap:Nat) (xs:List Kd) (N:Int) (w:World) (ho:aF w a len cap 4 (mkRs N (xs.map kdF))) (hN:0<N) (hb:aC N (xs.map kdF)<=1152921504606846976) (hl:len<=9223372036854775807):
  Calls Tryz.prog 106 #[.slice a len cap,.int .i64 N] w fun e w'=>e=.returned (.int .i64 (aC N (xs.map kdF)))/\Below w.heap.size w w':=by
 have hxl:(xs.map kdF).length=len:=by rw[<-bj (xs.map kdF) N];exact ho.1
 have HR:=aa ho;have HBd:=aa hb;clear ho hb;go_enter Tryz.func106,Tryz.ntmps106;go_wp2;go_loopw [1,5] (fun vk vi wr=> ∃(i:Nat) (n:Int),i<=len/\vk=.int .i64 n/\vi=.int .i64 i/\Hid (n=aC N ((xs.map kdF).take i))/\0<n/\Hid (Below w.heap.size w wr)) (fun _ vi _=>len - (intOf vi).toNat);case atStart=>exact⟨0,N,by omega,rfl,rfl,rfl,hN,xj _ _⟩
 case round=>
  obtain⟨i,n,hi,rfl,rfl,HN,hn0,HB⟩:=hrel;by_cases hlt:i<len
  ·obtain⟨x,hx⟩:∃x,xs[i]?=some x:=⟨_,xm (by simpa using (show i<(xs.map kdF).length by omega))⟩;obtain⟨hfx,HF,hbd,hbd'⟩:=tV;obtain⟨b,o,r,rfl,hb,hr,hat⟩:=(HR.below HB.out).at hlt;rw[dL,hfx,<-HN.out] at hr;obtain rfl:=xh hr;have HA:Hid (RAt wr b (o+i*4) (kdF ⟨aX (n).toNat,(n+1) % 3==0,(n+1+1) % 3==0,aX (n+1+1+1).toNat⟩)):=hat;clear hat hr hbd hx hfx;obtain⟨-,-,c0,c1,c2,c3⟩:=bO HA.out;have hne0:=Wd.ne wr;have e0:∀q:Wd wr,q.w.cell? ⟨b,o+i*4,none⟩=some (.string (aX (n).toNat)):=fun q=>(q.cell hb).trans c0;have HT:=aa (fun v:World=>bF (n) v af af);clear c0;go_wp2_with fail;refine ag an an ?_;repeat (go_big_quiet_step (first|(go_at_call 103;exact Calls.wide (HT.out _))|fail))
   refine wpQuiet_nil ?_;rintro _ ⟨q0,rfl⟩;clear e0 HT hne0 c1 c2 c3;obtain⟨HA0,HB0,hb0⟩:=kp;clear HA HB hb;have HA:=HA0;have HB:=HB0;have hb:=hb0;clear HA0 HB0 hb0;obtain⟨-,-,c0,c1,c2,c3⟩:=bO HA.out;clear c0;have hne1:=Wd.ne q0.w;have e3:∀q:Wd q0.w,q.w.cell? ⟨b,o+i*4+3,none⟩=some (.string (aX (n+1+1+1).toNat)):=fun q=>(q.cell hb).trans c3;have HT:=aa (fun v:World=>bF (n+1+1+1) v af af);clear c3;go_wp2_with fail;refine ag an an ?_;repeat (go_big_quiet_step (first|(go_at_call 103;exact Calls.wide (HT.out _))|fail))
   refine wpQuiet_nil ?_;rintro _ ⟨q1,rfl⟩;clear e3 HT hne1 c1 c2;obtain⟨HA1,HB1,hb1⟩:=ko;clear HA HB hb;have HA:=HA1;have HB:=HB1;have hb:=hb1;clear HA1 HB1 hb1;obtain⟨-,-,c0,c1,c2,c3⟩:=bO HA.out;clear c0 c1 c2 c3;go_wp2_with fail;refine⟨⟨i+1,mkN n (kdF x),by omega,?_,by go_num,?_,?_,HB.out⟩,by simp[intOf];omega⟩
   ·simp[mkN,mkN1,kdF,yv]
   ·rw[bH HF.out,<-HN.out];rfl
   ·simp[mkN,mkN1,kdF];omega
  ·obtain rfl:i=len:=af
   go_wp2;go_ret;have e1:(xs.map kdF).take i=xs.map kdF:=xw af;exact kG

def vdF (x:Vd):List Fv:=[.s x.n,.i x.c,.s x.z,.s x.k,.b x.x,.s x.m,.b x.y,.l x.zs]
theorem aE {w:World} {b o:Nat} {x:Vd} (h:RAt w b o (vdF x)):∃a len cap,av w a len cap x.zs/\x.n.size<=9223372036854775807/\x.z.size<=9223372036854775807/\x.k.size<=9223372036854775807/\x.m.size<=9223372036854775807/\w.cell? ⟨b,o,none⟩=some (.string x.n)/\w.cell? ⟨b,o+1,none⟩=some (.int .i64 x.c)/\w.cell? ⟨b,o+2,none⟩=some (.string x.z)/\w.cell? ⟨b,o+3,none⟩=some (.string x.k)/\w.cell? ⟨b,o+4,none⟩=some (.bool x.x)/\w.cell? ⟨b,o+5,none⟩=some (.string x.m)/\w.cell? ⟨b,o+6,none⟩=some (.bool x.y)/\w.cell? ⟨b,o+7,none⟩=some (.slice a len cap):=by
 obtain⟨v0,h0,rfl,z0⟩:=h 0 _ rfl;obtain⟨v1,h1,rfl⟩:=h 1 _ rfl;obtain⟨v2,h2,rfl,z2⟩:=h 2 _ rfl;obtain⟨v3,h3,rfl,z3⟩:=h 3 _ rfl;obtain⟨v4,h4,rfl⟩:=h 4 _ rfl;obtain⟨v5,h5,rfl,z5⟩:=h 5 _ rfl;obtain⟨v6,h6,rfl⟩:=h 6 _ rfl;obtain⟨v7,h7,a,len,cap,rfl,hr⟩:=h 7 _ rfl;exact⟨a,len,cap,hr,z0,z2,z3,z5,h0,h1,h2,h3,h4,h5,h6,h7⟩
theorem bq {w:World} {a:Option Addr} {len cap:Nat} {xs:List Vd} (h:aF w a len cap 8 (xs.map vdF)) {j:Nat} (hj:j<len):
  ∃b o x,a=some ⟨b,o,none⟩/\b<w.heap.size/\xs[j]?=some x/\RAt w b (o+j*8) (vdF x):=by
 exact iE

theorem pE (a:Option Addr) (len cap:Nat) (xs:List Vd) (left:Int) (w:World) (hr:aF w a len cap 8 (xs.map vdF)) (h0:0<=left) (h1:left<=1048576):
  Calls Tryz.prog 15 #[.slice a len cap,.int .i64 left] w (SzB left (len<=1048576/\∀(j:Nat) x,xs[j]?=some x->x.zs.length<=1048576) w):=by
 obtain⟨HR,hvl⟩:=eG;have hlc:=xp hr.2.1 hr.2.2.1;clear hr;by_cases hl:left<(len:Int)
 ·go_enter Tryz.func15,Tryz.ntmps15;exact kx
 go_enter Tryz.func15,Tryz.ntmps15;go_wp2;go_loopw [1,5] (fun l i wr=> ∃(k:Nat) (m:Int),k<=len/\l=.int .i64 m/\i=.int .i64 k/\0<=m/\m<=left/\Hid (∀(j:Nat) x,j<k->xs[j]?=some x->x.zs.length<=1048576)/\Hid (Below w.heap.size w wr)) (fun _ i _=>len - (intOf i).toNat);case atStart=>exact⟨0,left - len,by omega,by go_num,rfl,by omega,by omega,fun j v hj=>by omega,xj _ _⟩
 case round=>
  obtain⟨k,m,hk,rfl,rfl,hm0,hm1,HE,HB⟩:=hrel;by_cases hlt:k<len
  ·obtain⟨b,o,v,rfl,hb,hv,hat⟩:=bq (HR.below HB.out) hlt;obtain⟨va,vl,vc,hvr,z0,z2,z3,z5,c0,c1,c2,c3,c4,c5,c6,c7⟩:=aE hat;have Hz0:=aa z0;have Hz2:=aa z2;have Hz3:=aa z3;have Hz5:=aa z5;have HV:=aa hv;have HT:=aa hvr;clear hvr;clear hat hv z0 z2 z3 z5;go_wp2_with fail;refine (iX v.n v.c v.z v.k v.x v.m v.y va vl vc v.zs m _ Hz0.out Hz2.out Hz3.out Hz5.out HT.out hm0 af).mono ?_;rintro e w2 ⟨r,rfl,hr,hb2⟩;have HB2:=upB HB hb2;clear hb2 c0 c1 c2 c3 c4 c5 c6 c7;exact qy
  ·exact qv

theorem sr (a a':Option Addr) (len len' cap cap':Nat) (xs:List Vd) (w:World) (hr:aF w a len cap 8 (xs.map vdF)) (hr':aF w a' len' cap' 8 (xs.map vdF)):
  Calls Tryz.prog 44 #[.slice a len cap,.slice a' len' cap'] w fun e w'=>e=.returned (.bool true)/\Below w.heap.size w w':=by
 obtain rfl:len=len':=hr.1.symm.trans hr'.1;obtain⟨HR,HR',hlc⟩:=kh;clear hr hr';go_enter Tryz.func44,Tryz.ntmps44;go_wp2;go_loopw [5] (fun i wr=> ∃k:Nat,k<=len/\i=.int .i64 k/\Hid (Below w.heap.size w wr)) (fun i _=>len - (intOf i).toNat);case atStart=>exact⟨0,by omega,rfl,xj _ _⟩
 case round=>
  obtain⟨k,hk,rfl,HB⟩:=hrel;by_cases hlt:k<len
  ·obtain⟨b,o,v,rfl,hb,hv,hat⟩:=bq (HR.below HB.out) hlt;obtain⟨b',o',v',rfl,hb',hv',hat'⟩:=bq (HR'.below HB.out) hlt;rw[hv] at hv';obtain rfl:=xh hv';clear hv hv';obtain⟨va,vl,vc,hvr,-,-,-,-,c0,c1,c2,c3,c4,c5,c6,c7⟩:=aE hat;obtain⟨va',vl',vc',hvr',-,-,-,-,d0,d1,d2,d3,d4,d5,d6,d7⟩:=aE hat';clear hat hat';have HT:=aa hvr;have HT':=aa hvr';clear hvr hvr';have HE:=aa (fun q:Wd wr=>jy v.n v.c v.z v.k v.x v.m v.y va vl vc v.zs va' vl' vc' q.w (HT.below q.b) (HT'.below q.b));have hne:=Wd.ne wr;have e0:∀q:Wd wr,q.w.cell? ⟨b,o+k*8,none⟩=some (.string v.n):=fun q=>(q.cell hb).trans c0;have e1:∀q:Wd wr,q.w.cell? ⟨b,o+k*8+1,none⟩=some (.int .i64 v.c):=fun q=>(q.cell hb).trans c1;have e2:∀q:Wd wr,q.w.cell? ⟨b,o+k*8+2,none⟩=some (.string v.z):=fun q=>(q.cell hb).trans c2;have e3:∀q:Wd wr,q.w.cell? ⟨b,o+k*8+3,none⟩=some (.string v.k):=fun q=>(q.cell hb).trans c3;have e4:∀q:Wd wr,q.w.cell? ⟨b,o+k*8+4,none⟩=some (.bool v.x):=fun q=>(q.cell hb).trans c4;have e5:∀q:Wd wr,q.w.cell? ⟨b,o+k*8+5,none⟩=some (.string v.m):=fun q=>(q.cell hb).trans c5;have e6:∀q:Wd wr,q.w.cell? ⟨b,o+k*8+6,none⟩=some (.bool v.y):=fun q=>(q.cell hb).trans c6;have e7:∀q:Wd wr,q.w.cell? ⟨b,o+k*8+7,none⟩=some (.slice va vl vc):=fun q=>(q.cell hb).trans c7;have f0:∀q:Wd wr,q.w.cell? ⟨b',o'+k*8,none⟩=some (.string v.n):=fun q=>(q.cell hb').trans d0;have f1:∀q:Wd wr,q.w.cell? ⟨b',o'+k*8+1,none⟩=some (.int .i64 v.c):=fun q=>(q.cell hb').trans d1;have f2:∀q:Wd wr,q.w.cell? ⟨b',o'+k*8+2,none⟩=some (.string v.z):=fun q=>(q.cell hb').trans d2;have f3:∀q:Wd wr,q.w.cell? ⟨b',o'+k*8+3,none⟩=some (.string v.k):=fun q=>(q.cell hb').trans d3;have f4:∀q:Wd wr,q.w.cell? ⟨b',o'+k*8+4,none⟩=some (.bool v.x):=fun q=>(q.cell hb').trans d4;have f5:∀q:Wd wr,q.w.cell? ⟨b',o'+k*8+5,none⟩=some (.string v.m):=fun q=>(q.cell hb').trans d5;have f6:∀q:Wd wr,q.w.cell? ⟨b',o'+k*8+6,none⟩=some (.bool v.y):=fun q=>(q.cell hb').trans d6;have f7:∀q:Wd wr,q.w.cell? ⟨b',o'+k*8+7,none⟩=some (.slice va' vl' vc'):=fun q=>(q.cell hb').trans d7;clear c0 c1 c2 c3 c4 c5 c6 c7 d0 d1 d2 d3 d4 d5 d6 d7;go_wp2_with fail;refine ag an an ?_;repeat (go_big_quiet_step (first|(go_at_call 100;exact Calls.wide (HE.out _))|fail))
   exact kL
  ·exact kA

theorem mi (a:Option Addr) (len cap:Nat) (xs:List Vd) (N:Int) (S:Nat->Prop) (w:World) (ho:az w a len cap 8 62 (xs.map vdF) S) (hN:0<N) (hb:aC N (xs.map vdF)<=1152921504606846976) (hl:len<=9223372036854775807):
  Calls Tryz.prog 49 #[.slice a len cap,.int .i64 N] w fun e w'=>e=.returned (.int .i64 (aC N (xs.map vdF)))/\az w' a len cap 8 62 (mkRs N (xs.map vdF)) S/\aG S w w':=by
 have hxl:=ho.1;have hcp:=ho.2.1;have hcm:=ho.2.2.1;have hml:(mkRs N (xs.map vdF)).length=(xs.map vdF).length:=bj _ _;have HO:Hid (az w a len cap 8 62 ((mkRs N (xs.map vdF)).take 0++(xs.map vdF).drop 0) S):=ka
 have HBd:=aa hb;clear ho hb;go_enter Tryz.func49,Tryz.ntmps49;go_wp2;go_loopw [1,5] (fun vk vi wr=> ∃(i:Nat) (n:Int),i<=len/\vk=.int .i64 n/\vi=.int .i64 i/\Hid (n=aC N ((xs.map vdF).take i))/\0<n/\Hid (az wr a len cap 8 62 ((mkRs N (xs.map vdF)).take i++(xs.map vdF).drop i) S)/\Hid (aG S w wr)) (fun _ vi _=>len - (intOf vi).toNat);case atStart=>exact⟨0,N,by omega,rfl,rfl,rfl,hN,HO,aG.refl _ _⟩
 case round=>
  obtain⟨i,n,hi,rfl,rfl,HN,hn0,HS,HK⟩:=hrel;clear HO;by_cases hlt:i<len
  ·obtain⟨x,hx⟩:∃x,xs[i]?=some x:=⟨_,xm (by simpa using (show i<(xs.map vdF).length by omega))⟩;obtain⟨hfx,HF,hbd,hbd'⟩:=tW;obtain⟨g,rfl,hs⟩:=HS.st HK.out ((cf hml af).trans hfx);have H0:Hid (StJ g 8 62 S (fun _=>False) w wr ((mkRs N (xs.map vdF)).take i++(xs.map vdF).drop i) i [.s x.n,.i x.c,.s x.z,.s x.k,.b x.x,.s x.m,.b x.y,.l x.zs]):=hs;clear hs hbd hx hfx HS HK;go_wp2_with fail;refine (bF _ _ af af).mono ?_;rintro e w1 ⟨rfl,hb⟩;have h1:=(H0.out).below hb;have H1:=aa h1;obtain⟨p0,c0⟩:=h1.cell (i:=0) rfl;have f0:=h1.cA (i*8);rw[yC] at c0;obtain⟨p1,c1⟩:=h1.cell (i:=1) rfl;have f1:=h1.cA (i*8+1);clear h1 hb H0;go_wp2_with fail;refine (bF _ _ af af).mono ?_;rintro e w2 ⟨rfl,hb⟩;obtain⟨h1,H2⟩:=pV;obtain⟨p2,c2⟩:=h1.cell (i:=2) rfl;have f2:=h1.cA (i*8+2);clear h1 hb H1 c0 f0 c1 f1;go_wp2_with fail;refine (bF _ _ af af).mono ?_;rintro e w3 ⟨rfl,hb⟩;have h1:=((H2.out).cP (i:=2) rfl _ (ba af)).below hb;have H3:=aa h1;obtain⟨p3,c3⟩:=h1.cell (i:=3) rfl;have f3:=h1.cA (i*8+3);obtain⟨p4,c4⟩:=h1.cell (i:=4) rfl;have f4:=h1.cA (i*8+4);clear h1 hb H2 c2 f2;go_wp2_with fail;refine (bF _ _ af af).mono ?_;rintro e w4 ⟨rfl,hb⟩;have h1:=(((H3.out).cP (i:=3) rfl _ (ba af)).gn (i:=4) rfl _).below hb;have H4:=aa h1;obtain⟨p5,c5⟩:=h1.cell (i:=5) rfl;have f5:=h1.cA (i*8+5);obtain⟨p6,c6⟩:=h1.cell (i:=6) rfl;have f6:=h1.cA (i*8+6);obtain⟨la,ll,lc,cl,hll⟩:=h1.slice (i:=7) rfl;clear h1 hb H3 c3 f3 c4 f4;go_wp2_with fail;refine ((((H4.out).cP (i:=5) rfl _ (ba af)).gn (i:=6) rfl _).rX (i:=7) rfl ((bI af).trans ((bI af).trans (cl))) _ af af).mono ?_;rintro e w5 ⟨rfl,h1⟩;have H5:=aa h1;clear h1 cl H4 c5 f5 c6 f6;go_wp2_with fail;have HZ:=aa (H5.out);clear H5;refine⟨⟨i+1,mkN n (vdF x),by omega,?_,by go_num,?_,?_,?_,HZ.kept⟩,by simp[intOf];omega⟩
   ·simp[mkN,mkN1,vdF,hll,yv]
   ·rw[bH HF.out,<-HN.out];rfl
   ·simp[mkN,mkN1,vdF];omega
   ·refine az.kU HZ.out hxl hml hcp hcm HF.out ?_;rw[<-HN.out];simp[mkR,mkF,mkN1,vdF,hll]
  ·obtain rfl:i=len:=af
   go_wp2;go_ret;have e1:(xs.map vdF).take i=xs.map vdF:=xw af;have e2:(mkRs N (xs.map vdF)).take i++(xs.map vdF).drop i=mkRs N (xs.map vdF):=by
    exact gS
   exact kK

theorem mL (a:Option Addr) (len cap:Nat) (xs:List Vd) (N:Int) (w:World) (ho:aF w a len cap 8 (mkRs N (xs.map vdF))) (hN:0<N) (hb:aC N (xs.map vdF)<=1152921504606846976) (hl:len<=9223372036854775807):
  Calls Tryz.prog 107 #[.slice a len cap,.int .i64 N] w fun e w'=>e=.returned (.int .i64 (aC N (xs.map vdF)))/\Below w.heap.size w w':=by
 have hxl:(xs.map vdF).length=len:=by rw[<-bj (xs.map vdF) N];exact ho.1
 have HR:=aa ho;have HBd:=aa hb;clear ho hb;go_enter Tryz.func107,Tryz.ntmps107;go_wp2;go_loopw [1,5] (fun vk vi wr=> ∃(i:Nat) (n:Int),i<=len/\vk=.int .i64 n/\vi=.int .i64 i/\Hid (n=aC N ((xs.map vdF).take i))/\0<n/\Hid (Below w.heap.size w wr)) (fun _ vi _=>len - (intOf vi).toNat);case atStart=>exact⟨0,N,by omega,rfl,rfl,rfl,hN,xj _ _⟩
 case round=>
  obtain⟨i,n,hi,rfl,rfl,HN,hn0,HB⟩:=hrel;by_cases hlt:i<len
  ·obtain⟨x,hx⟩:∃x,xs[i]?=some x:=⟨_,xm (by simpa using (show i<(xs.map vdF).length by omega))⟩;obtain⟨hfx,HF,hbd,hbd'⟩:=tW;obtain⟨b,o,r,rfl,hb,hr,hat⟩:=(HR.below HB.out).at hlt;rw[dL,hfx,<-HN.out] at hr;obtain rfl:=xh hr;have HA:Hid (RAt wr b (o+i*8) (vdF ⟨aX (n).toNat,n+1,aX (n+1+1).toNat,aX (n+1+1+1).toNat,(n+1+1+1+1) % 3==0,aX (n+1+1+1+1+1).toNat,(n+1+1+1+1+1+1) % 3==0,cU (n+1+1+1+1+1+1+1) x.zs.length⟩)):=hat;clear hat hr hbd hx hfx;obtain⟨va,vl,vc,hvr,-,-,-,-,c0,c1,c2,c3,c4,c5,c6,c7⟩:=aE HA.out;have HL:=aa hvr;have hvl:=hvr.1;rw[aO] at hvl;clear hvr;clear HL hvl;have hne0:=Wd.ne wr;have e0:∀q:Wd wr,q.w.cell? ⟨b,o+i*8,none⟩=some (.string (aX (n).toNat)):=fun q=>(q.cell hb).trans c0;have HT:=aa (fun v:World=>bF (n) v af af);clear c0;go_wp2_with fail;refine ag an an ?_;repeat (go_big_quiet_step (first|(go_at_call 103;exact Calls.wide (HT.out _))|fail))
   refine wpQuiet_nil ?_;rintro _ ⟨q0,rfl⟩;clear e0 HT hne0 c1 c2 c3 c4 c5 c6 c7;obtain⟨HA0,HB0,hb0⟩:=kp;clear HA HB hb;have HA:=HA0;have HB:=HB0;have hb:=hb0;clear HA0 HB0 hb0;obtain⟨va,vl,vc,hvr,-,-,-,-,c0,c1,c2,c3,c4,c5,c6,c7⟩:=aE HA.out;have HL:=aa hvr;have hvl1:=hvr.1;rw[aO] at hvl1;clear hvr;clear c0 c3 c4 c5 c6 c7;clear HL hvl1;have hne1:=Wd.ne q0.w;have e2:∀q:Wd q0.w,q.w.cell? ⟨b,o+i*8+2,none⟩=some (.string (aX (n+1+1).toNat)):=fun q=>(q.cell hb).trans c2;have HT:=aa (fun v:World=>bF (n+1+1) v af af);clear c2;go_wp2_with fail;refine ag an an ?_;repeat (go_big_quiet_step (first|(go_at_call 103;exact Calls.wide (HT.out _))|fail))
   refine wpQuiet_nil ?_;rintro _ ⟨q1,rfl⟩;clear e2 HT hne1 c1;obtain⟨HA1,HB1,hb1⟩:=ko;clear HA HB hb;have HA:=HA1;have HB:=HB1;have hb:=hb1;clear HA1 HB1 hb1;obtain⟨va,vl,vc,hvr,-,-,-,-,c0,c1,c2,c3,c4,c5,c6,c7⟩:=aE HA.out;have HL:=aa hvr;have hvl2:=hvr.1;rw[aO] at hvl2;clear hvr;clear c0 c1 c2 c4 c5 c6 c7;clear HL hvl2;have hne2:=Wd.ne q1.w;have e3:∀q:Wd q1.w,q.w.cell? ⟨b,o+i*8+3,none⟩=some (.string (aX (n+1+1+1).toNat)):=fun q=>(q.cell hb).trans c3;have HT:=aa (fun v:World=>bF (n+1+1+1) v af af);clear c3;go_wp2_with fail;refine ag an an ?_;repeat (go_big_quiet_step (first|(go_at_call 103;exact Calls.wide (HT.out _))|fail))
   refine wpQuiet_nil ?_;rintro _ ⟨q2,rfl⟩;clear e3 HT hne2;have HA2:=aa (HA.below hb q2.b);have HB2:=upB HB q2.b;have hb2:=xr hb q2.b.size;clear HA HB hb;have HA:=HA2;have HB:=HB2;have hb:=hb2;clear HA2 HB2 hb2;obtain⟨va,vl,vc,hvr,-,-,-,-,c0,c1,c2,c3,c4,c5,c6,c7⟩:=aE HA.out;have HL:=aa hvr;have hvl3:=hvr.1;rw[aO] at hvl3;clear hvr;clear c0 c1 c2 c3 c6 c7;clear HL hvl3;have hne3:=Wd.ne q2.w;have e5:∀q:Wd q2.w,q.w.cell? ⟨b,o+i*8+5,none⟩=some (.string (aX (n+1+1+1+1+1).toNat)):=fun q=>(q.cell hb).trans c5;have HT:=aa (fun v:World=>bF (n+1+1+1+1+1) v af af);clear c5;go_wp2_with fail;refine ag an an ?_;repeat (go_big_quiet_step (first|(go_at_call 103;exact Calls.wide (HT.out _))|fail))
   refine wpQuiet_nil ?_;rintro _ ⟨q3,rfl⟩;clear e5 HT hne3 c4;have HA3:=aa (HA.below hb q3.b);have HB3:=upB HB q3.b;have hb3:=xr hb q3.b.size;clear HA HB hb;have HA:=HA3;have HB:=HB3;have hb:=hb3;clear HA3 HB3 hb3;obtain⟨va,vl,vc,hvr,-,-,-,-,c0,c1,c2,c3,c4,c5,c6,c7⟩:=aE HA.out;have HL:=aa hvr;have hvl4:=hvr.1;rw[aO] at hvl4;clear hvr;clear c0 c1 c2 c3 c4 c5;subst hvl4;go_wp2_with fail;refine (sn va _ vc _ _ (by exact HL.out) af af).mono ?_;rintro e w4 ⟨rfl,hbq⟩;have HA4:=aa (HA.below hb hbq);have HB4:=upB HB hbq;have hb4:=xr hb hbq.size;clear HA HB hb HL c7 hbq;have HA:=HA4;have HB:=HB4;have hb:=hb4;clear HA4 HB4 hb4;go_wp2_with fail;refine⟨⟨i+1,mkN n (vdF x),by omega,?_,by go_num,?_,?_,HB.out⟩,by simp[intOf];omega⟩
   ·simp[mkN,mkN1,vdF,yv]
   ·rw[bH HF.out,<-HN.out];rfl
   ·simp[mkN,mkN1,vdF];omega
  ·obtain rfl:i=len:=af
   go_wp2;go_ret;have e1:(xs.map vdF).take i=xs.map vdF:=xw af;exact kG

structure Xd where
 n:ByteArray
 z:Int
 k:ByteArray
 x:Bool
 v:ByteArray

def xdF (x:Xd):List Fv:=[.s x.n,.i x.z,.s x.k,.b x.x,.s x.v]
theorem bg {w:World} {b o:Nat} {x:Xd} (h:RAt w b o (xdF x)):x.n.size<=9223372036854775807/\x.k.size<=9223372036854775807/\x.v.size<=9223372036854775807/\w.cell? ⟨b,o,none⟩=some (.string x.n)/\w.cell? ⟨b,o+1,none⟩=some (.int .i64 x.z)/\w.cell? ⟨b,o+2,none⟩=some (.string x.k)/\w.cell? ⟨b,o+3,none⟩=some (.bool x.x)/\w.cell? ⟨b,o+4,none⟩=some (.string x.v):=by
 obtain⟨v0,h0,rfl,z0⟩:=h 0 _ rfl;obtain⟨v1,h1,rfl⟩:=h 1 _ rfl;obtain⟨v2,h2,rfl,z2⟩:=h 2 _ rfl;obtain⟨v3,h3,rfl⟩:=h 3 _ rfl;obtain⟨v4,h4,rfl,z4⟩:=h 4 _ rfl;exact⟨z0,z2,z4,h0,h1,h2,h3,h4⟩
theorem dn {w:World} {a:Option Addr} {len cap:Nat} {xs:List Xd} (h:aF w a len cap 5 (xs.map xdF)) {j:Nat} (hj:j<len):
  ∃b o x,a=some ⟨b,o,none⟩/\b<w.heap.size/\xs[j]?=some x/\RAt w b (o+j*5) (xdF x):=by
 exact iE

theorem pD (a:Option Addr) (len cap:Nat) (xs:List Xd) (left:Int) (w:World) (hr:aF w a len cap 5 (xs.map xdF)) (h0:0<=left) (h1:left<=1048576):
  Calls Tryz.prog 16 #[.slice a len cap,.int .i64 left] w (SzB left (len<=1048576) w):=by
 obtain⟨HR,hvl⟩:=eG;have hlc:=xp hr.2.1 hr.2.2.1;clear hr;by_cases hl:left<(len:Int)
 ·go_enter Tryz.func16,Tryz.ntmps16;exact kx
 go_enter Tryz.func16,Tryz.ntmps16;go_wp2;go_loopw [1,5] (fun l i wr=> ∃(k:Nat) (m:Int),k<=len/\l=.int .i64 m/\i=.int .i64 k/\0<=m/\m<=left/\Hid (Below w.heap.size w wr)) (fun _ i _=>len - (intOf i).toNat);case atStart=>exact⟨0,left - len,by omega,by go_num,rfl,by omega,by omega,xj _ _⟩
 case round=>
  obtain⟨k,m,hk,rfl,rfl,hm0,hm1,HB⟩:=hrel;by_cases hlt:k<len
  ·obtain⟨b,o,v,rfl,hb,hv,hat⟩:=dn (HR.below HB.out) hlt;obtain⟨z0,z2,z4,c0,c1,c2,c3,c4⟩:=bg hat;have Hz0:=aa z0;have Hz2:=aa z2;have Hz4:=aa z4;clear hat hv z0 z2 z4;go_wp2_with fail;refine (jR v.n v.z v.k v.x v.v m _ Hz0.out Hz2.out Hz4.out hm0 af).mono ?_;rintro e w2 ⟨r,rfl,hr,hb2⟩;have HB2:=upB HB hb2;clear hb2 c0 c1 c2 c3 c4;exact uk
  ·exact ri

theorem lk (n:ByteArray) (z:Int) (k:ByteArray) (x:Bool) (v:ByteArray) (w:World):
  Calls Tryz.prog 101 #[.agg #[.string n,.int .i64 z,.string k,.bool x,.string v],.agg #[.string n,.int .i64 z,.string k,.bool x,.string v]] w fun e w'=>e=.returned (.bool true)/\Below w.heap.size w w':=by
 go_enter Tryz.func101,Tryz.ntmps101;go_wp2;go_ret;exact⟨rfl,aM _ _ _⟩

theorem sq (a a':Option Addr) (len len' cap cap':Nat) (xs:List Xd) (w:World) (hr:aF w a len cap 5 (xs.map xdF)) (hr':aF w a' len' cap' 5 (xs.map xdF)):
  Calls Tryz.prog 45 #[.slice a len cap,.slice a' len' cap'] w fun e w'=>e=.returned (.bool true)/\Below w.heap.size w w':=by
 obtain rfl:len=len':=hr.1.symm.trans hr'.1;obtain⟨HR,HR',hlc⟩:=kh;clear hr hr';go_enter Tryz.func45,Tryz.ntmps45;go_wp2;go_loopw [5] (fun i wr=> ∃k:Nat,k<=len/\i=.int .i64 k/\Hid (Below w.heap.size w wr)) (fun i _=>len - (intOf i).toNat);case atStart=>exact⟨0,by omega,rfl,xj _ _⟩
 case round=>
  obtain⟨k,hk,rfl,HB⟩:=hrel;by_cases hlt:k<len
  ·obtain⟨b,o,v,rfl,hb,hv,hat⟩:=dn (HR.below HB.out) hlt;obtain⟨b',o',v',rfl,hb',hv',hat'⟩:=dn (HR'.below HB.out) hlt;rw[hv] at hv';obtain rfl:=xh hv';clear hv hv';obtain⟨-,-,-,c0,c1,c2,c3,c4⟩:=bg hat;obtain⟨-,-,-,d0,d1,d2,d3,d4⟩:=bg hat';clear hat hat';have HE:=aa (fun q:Wd wr=>lk v.n v.z v.k v.x v.v q.w);have hne:=Wd.ne wr;have e0:∀q:Wd wr,q.w.cell? ⟨b,o+k*5,none⟩=some (.string v.n):=fun q=>(q.cell hb).trans c0;have e1:∀q:Wd wr,q.w.cell? ⟨b,o+k*5+1,none⟩=some (.int .i64 v.z):=fun q=>(q.cell hb).trans c1;have e2:∀q:Wd wr,q.w.cell? ⟨b,o+k*5+2,none⟩=some (.string v.k):=fun q=>(q.cell hb).trans c2;have e3:∀q:Wd wr,q.w.cell? ⟨b,o+k*5+3,none⟩=some (.bool v.x):=fun q=>(q.cell hb).trans c3;have e4:∀q:Wd wr,q.w.cell? ⟨b,o+k*5+4,none⟩=some (.string v.v):=fun q=>(q.cell hb).trans c4;have f0:∀q:Wd wr,q.w.cell? ⟨b',o'+k*5,none⟩=some (.string v.n):=fun q=>(q.cell hb').trans d0;have f1:∀q:Wd wr,q.w.cell? ⟨b',o'+k*5+1,none⟩=some (.int .i64 v.z):=fun q=>(q.cell hb').trans d1;have f2:∀q:Wd wr,q.w.cell? ⟨b',o'+k*5+2,none⟩=some (.string v.k):=fun q=>(q.cell hb').trans d2;have f3:∀q:Wd wr,q.w.cell? ⟨b',o'+k*5+3,none⟩=some (.bool v.x):=fun q=>(q.cell hb').trans d3;have f4:∀q:Wd wr,q.w.cell? ⟨b',o'+k*5+4,none⟩=some (.string v.v):=fun q=>(q.cell hb').trans d4;clear c0 c1 c2 c3 c4 d0 d1 d2 d3 d4;go_wp2_with fail;refine ag an an ?_;repeat (go_big_quiet_step (first|(go_at_call 101;exact Calls.wide (HE.out _))|fail))
   exact kL
  ·exact kA

theorem mh (a:Option Addr) (len cap:Nat) (xs:List Xd) (N:Int) (S:Nat->Prop) (w:World) (ho:az w a len cap 5 114 (xs.map xdF) S) (hN:0<N) (hb:aC N (xs.map xdF)<=1152921504606846976) (hl:len<=9223372036854775807):
  Calls Tryz.prog 50 #[.slice a len cap,.int .i64 N] w fun e w'=>e=.returned (.int .i64 (aC N (xs.map xdF)))/\az w' a len cap 5 114 (mkRs N (xs.map xdF)) S/\aG S w w':=by
 have hxl:=ho.1;have hcp:=ho.2.1;have hcm:=ho.2.2.1;have hml:(mkRs N (xs.map xdF)).length=(xs.map xdF).length:=bj _ _;have HO:Hid (az w a len cap 5 114 ((mkRs N (xs.map xdF)).take 0++(xs.map xdF).drop 0) S):=ka
 have HBd:=aa hb;clear ho hb;go_enter Tryz.func50,Tryz.ntmps50;go_wp2;go_loopw [1,5] (fun vk vi wr=> ∃(i:Nat) (n:Int),i<=len/\vk=.int .i64 n/\vi=.int .i64 i/\Hid (n=aC N ((xs.map xdF).take i))/\0<n/\Hid (az wr a len cap 5 114 ((mkRs N (xs.map xdF)).take i++(xs.map xdF).drop i) S)/\Hid (aG S w wr)) (fun _ vi _=>len - (intOf vi).toNat);case atStart=>exact⟨0,N,by omega,rfl,rfl,rfl,hN,HO,aG.refl _ _⟩
 case round=>
  obtain⟨i,n,hi,rfl,rfl,HN,hn0,HS,HK⟩:=hrel;clear HO;by_cases hlt:i<len
  ·obtain⟨x,hx⟩:∃x,xs[i]?=some x:=⟨_,xm (by simpa using (show i<(xs.map xdF).length by omega))⟩;obtain⟨hfx,HF,hbd,hbd'⟩:=tU;obtain⟨g,rfl,hs⟩:=HS.st HK.out ((cf hml af).trans hfx);have H0:Hid (StJ g 5 114 S (fun _=>False) w wr ((mkRs N (xs.map xdF)).take i++(xs.map xdF).drop i) i [.s x.n,.i x.z,.s x.k,.b x.x,.s x.v]):=hs;clear hs hbd hx hfx HS HK;go_wp2_with fail;refine (bF _ _ af af).mono ?_;rintro e w1 ⟨rfl,hb⟩;have h1:=(H0.out).below hb;have H1:=aa h1;obtain⟨p0,c0⟩:=h1.cell (i:=0) rfl;have f0:=h1.cA (i*5);rw[yC] at c0;obtain⟨p1,c1⟩:=h1.cell (i:=1) rfl;have f1:=h1.cA (i*5+1);clear h1 hb H0;go_wp2_with fail;refine (bF _ _ af af).mono ?_;rintro e w2 ⟨rfl,hb⟩;obtain⟨h1,H2⟩:=pV;obtain⟨p2,c2⟩:=h1.cell (i:=2) rfl;have f2:=h1.cA (i*5+2);obtain⟨p3,c3⟩:=h1.cell (i:=3) rfl;have f3:=h1.cA (i*5+3);clear h1 hb H1 c0 f0 c1 f1;go_wp2_with fail;refine (bF _ _ af af).mono ?_;rintro e w3 ⟨rfl,hb⟩;have h1:=(((H2.out).cP (i:=2) rfl _ (ba af)).gn (i:=3) rfl _).below hb;have H3:=aa h1;obtain⟨p4,c4⟩:=h1.cell (i:=4) rfl;have f4:=h1.cA (i*5+4);clear h1 hb H2 c2 f2 c3 f3;go_wp2_with fail;have HZ:=aa ((H3.out).cP (i:=4) rfl (aX (n+1+1+1+1).toNat) (ba af));clear H3;refine⟨⟨i+1,mkN n (xdF x),by omega,?_,by go_num,?_,?_,?_,HZ.kept⟩,by simp[intOf];omega⟩
   ·simp[mkN,mkN1,xdF,yv]
   ·rw[bH HF.out,<-HN.out];rfl
   ·simp[mkN,mkN1,xdF];omega
   ·refine az.kU HZ.out hxl hml hcp hcm HF.out ?_;rw[<-HN.out];simp[mkR,mkF,mkN1,xdF]
  ·obtain rfl:i=len:=af
   go_wp2;go_ret;have e1:(xs.map xdF).take i=xs.map xdF:=xw af;have e2:(mkRs N (xs.map xdF)).take i++(xs.map xdF).drop i=mkRs N (xs.map xdF):=by
    exact gS
   exact kK

theorem mK (a:Option Addr) (len cap:Nat) (xs:List Xd) (N:Int) (w:World) (ho:aF w a len cap 5 (mkRs N (xs.map xdF))) (hN:0<N) (hb:aC N (xs.map xdF)<=1152921504606846976) (hl:len<=9223372036854775807):
  Calls Tryz.prog 108 #[.slice a len cap,.int .i64 N] w fun e w'=>e=.returned (.int .i64 (aC N (xs.map xdF)))/\Below w.heap.size w w':=by
 have hxl:(xs.map xdF).length=len:=by rw[<-bj (xs.map xdF) N];exact ho.1
 have HR:=aa ho;have HBd:=aa hb;clear ho hb;go_enter Tryz.func108,Tryz.ntmps108;go_wp2;go_loopw [1,5] (fun vk vi wr=> ∃(i:Nat) (n:Int),i<=len/\vk=.int .i64 n/\vi=.int .i64 i/\Hid (n=aC N ((xs.map xdF).take i))/\0<n/\Hid (Below w.heap.size w wr)) (fun _ vi _=>len - (intOf vi).toNat);case atStart=>exact⟨0,N,by omega,rfl,rfl,rfl,hN,xj _ _⟩
 case round=>
  obtain⟨i,n,hi,rfl,rfl,HN,hn0,HB⟩:=hrel;by_cases hlt:i<len
  ·obtain⟨x,hx⟩:∃x,xs[i]?=some x:=⟨_,xm (by simpa using (show i<(xs.map xdF).length by omega))⟩;obtain⟨hfx,HF,hbd,hbd'⟩:=tU;obtain⟨b,o,r,rfl,hb,hr,hat⟩:=(HR.below HB.out).at hlt;rw[dL,hfx,<-HN.out] at hr;obtain rfl:=xh hr;have HA:Hid (RAt wr b (o+i*5) (xdF ⟨aX (n).toNat,n+1,aX (n+1+1).toNat,(n+1+1+1) % 3==0,aX (n+1+1+1+1).toNat⟩)):=hat;clear hat hr hbd hx hfx;obtain⟨-,-,-,c0,c1,c2,c3,c4⟩:=bg HA.out;have hne0:=Wd.ne wr;have e0:∀q:Wd wr,q.w.cell? ⟨b,o+i*5,none⟩=some (.string (aX (n).toNat)):=fun q=>(q.cell hb).trans c0;have HT:=aa (fun v:World=>bF (n) v af af);clear c0;go_wp2_with fail;refine ag an an ?_;repeat (go_big_quiet_step (first|(go_at_call 103;exact Calls.wide (HT.out _))|fail))
   refine wpQuiet_nil ?_;rintro _ ⟨q0,rfl⟩;clear e0 HT hne0 c1 c2 c3 c4;obtain⟨HA0,HB0,hb0⟩:=kp;clear HA HB hb;have HA:=HA0;have HB:=HB0;have hb:=hb0;clear HA0 HB0 hb0;obtain⟨-,-,-,c0,c1,c2,c3,c4⟩:=bg HA.out;clear c0 c3 c4;have hne1:=Wd.ne q0.w;have e2:∀q:Wd q0.w,q.w.cell? ⟨b,o+i*5+2,none⟩=some (.string (aX (n+1+1).toNat)):=fun q=>(q.cell hb).trans c2;have HT:=aa (fun v:World=>bF (n+1+1) v af af);clear c2;go_wp2_with fail;refine ag an an ?_;repeat (go_big_quiet_step (first|(go_at_call 103;exact Calls.wide (HT.out _))|fail))
   refine wpQuiet_nil ?_;rintro _ ⟨q1,rfl⟩;clear e2 HT hne1 c1;obtain⟨HA1,HB1,hb1⟩:=ko;clear HA HB hb;have HA:=HA1;have HB:=HB1;have hb:=hb1;clear HA1 HB1 hb1;obtain⟨-,-,-,c0,c1,c2,c3,c4⟩:=bg HA.out;clear c0 c1 c2;have hne2:=Wd.ne q1.w;have e4:∀q:Wd q1.w,q.w.cell? ⟨b,o+i*5+4,none⟩=some (.string (aX (n+1+1+1+1).toNat)):=fun q=>(q.cell hb).trans c4;have HT:=aa (fun v:World=>bF (n+1+1+1+1) v af af);clear c4;go_wp2_with fail;refine ag an an ?_;repeat (go_big_quiet_step (first|(go_at_call 103;exact Calls.wide (HT.out _))|fail))
   refine wpQuiet_nil ?_;rintro _ ⟨q2,rfl⟩;clear e4 HT hne2 c3;have HA2:=aa (HA.below hb q2.b);have HB2:=upB HB q2.b;have hb2:=xr hb q2.b.size;clear HA HB hb;have HA:=HA2;have HB:=HB2;have hb:=hb2;clear HA2 HB2 hb2;obtain⟨-,-,-,c0,c1,c2,c3,c4⟩:=bg HA.out;clear c0 c1 c2 c3 c4;go_wp2_with fail;refine⟨⟨i+1,mkN n (xdF x),by omega,?_,by go_num,?_,?_,HB.out⟩,by simp[intOf];omega⟩
   ·simp[mkN,mkN1,xdF,yv]
   ·rw[bH HF.out,<-HN.out];rfl
   ·simp[mkN,mkN1,xdF];omega
  ·obtain rfl:i=len:=af
   go_wp2;go_ret;have e1:(xs.map xdF).take i=xs.map xdF:=xw af;exact kG

structure Pd where
 n:ByteArray
 c:Int
 z:ByteArray
 zs:List ByteArray
 d:ByteArray
 p:Int

def pdF (x:Pd):List Fv:=[.s x.n,.i x.c,.s x.z,.l x.zs,.s x.d,.i x.p]
theorem aS {w:World} {b o:Nat} {x:Pd} (h:RAt w b o (pdF x)):∃a len cap,av w a len cap x.zs/\x.n.size<=9223372036854775807/\x.z.size<=9223372036854775807/\x.d.size<=9223372036854775807/\w.cell? ⟨b,o,none⟩=some (.string x.n)/\w.cell? ⟨b,o+1,none⟩=some (.int .i64 x.c)/\w.cell? ⟨b,o+2,none⟩=some (.string x.z)/\w.cell? ⟨b,o+3,none⟩=some (.slice a len cap)/\w.cell? ⟨b,o+4,none⟩=some (.string x.d)/\w.cell? ⟨b,o+5,none⟩=some (.int .i64 x.p):=by
 obtain⟨v0,h0,rfl,z0⟩:=h 0 _ rfl;obtain⟨v1,h1,rfl⟩:=h 1 _ rfl;obtain⟨v2,h2,rfl,z2⟩:=h 2 _ rfl;obtain⟨v3,h3,a,len,cap,rfl,hr⟩:=h 3 _ rfl;obtain⟨v4,h4,rfl,z4⟩:=h 4 _ rfl;obtain⟨v5,h5,rfl⟩:=h 5 _ rfl;exact⟨a,len,cap,hr,z0,z2,z4,h0,h1,h2,h3,h4,h5⟩
theorem cj {w:World} {a:Option Addr} {len cap:Nat} {xs:List Pd} (h:aF w a len cap 6 (xs.map pdF)) {j:Nat} (hj:j<len):
  ∃b o x,a=some ⟨b,o,none⟩/\b<w.heap.size/\xs[j]?=some x/\RAt w b (o+j*6) (pdF x):=by
 exact iE

theorem pF (a:Option Addr) (len cap:Nat) (xs:List Pd) (left:Int) (w:World) (hr:aF w a len cap 6 (xs.map pdF)) (h0:0<=left) (h1:left<=1048576):
  Calls Tryz.prog 17 #[.slice a len cap,.int .i64 left] w (SzB left (len<=1048576/\∀(j:Nat) x,xs[j]?=some x->x.zs.length<=1048576) w):=by
 obtain⟨HR,hvl⟩:=eG;have hlc:=xp hr.2.1 hr.2.2.1;clear hr;by_cases hl:left<(len:Int)
 ·go_enter Tryz.func17,Tryz.ntmps17;exact kx
 go_enter Tryz.func17,Tryz.ntmps17;go_wp2;go_loopw [1,5] (fun l i wr=> ∃(k:Nat) (m:Int),k<=len/\l=.int .i64 m/\i=.int .i64 k/\0<=m/\m<=left/\Hid (∀(j:Nat) x,j<k->xs[j]?=some x->x.zs.length<=1048576)/\Hid (Below w.heap.size w wr)) (fun _ i _=>len - (intOf i).toNat);case atStart=>exact⟨0,left - len,by omega,by go_num,rfl,by omega,by omega,fun j v hj=>by omega,xj _ _⟩
 case round=>
  obtain⟨k,m,hk,rfl,rfl,hm0,hm1,HE,HB⟩:=hrel;by_cases hlt:k<len
  ·obtain⟨b,o,v,rfl,hb,hv,hat⟩:=cj (HR.below HB.out) hlt;obtain⟨va,vl,vc,hvr,z0,z2,z4,c0,c1,c2,c3,c4,c5⟩:=aS hat;have Hz0:=aa z0;have Hz2:=aa z2;have Hz4:=aa z4;have HV:=aa hv;have HT:=aa hvr;clear hvr;clear hat hv z0 z2 z4;go_wp2_with fail;refine (ov v.n v.c v.z va vl vc v.zs v.d v.p m _ Hz0.out Hz2.out Hz4.out HT.out hm0 af).mono ?_;rintro e w2 ⟨r,rfl,hr,hb2⟩;have HB2:=upB HB hb2;clear hb2 c0 c1 c2 c3 c4 c5;exact qy
  ·exact qv

theorem ss (a a':Option Addr) (len len' cap cap':Nat) (xs:List Pd) (w:World) (hr:aF w a len cap 6 (xs.map pdF)) (hr':aF w a' len' cap' 6 (xs.map pdF)):
  Calls Tryz.prog 46 #[.slice a len cap,.slice a' len' cap'] w fun e w'=>e=.returned (.bool true)/\Below w.heap.size w w':=by
 obtain rfl:len=len':=hr.1.symm.trans hr'.1;obtain⟨HR,HR',hlc⟩:=kh;clear hr hr';go_enter Tryz.func46,Tryz.ntmps46;go_wp2;go_loopw [5] (fun i wr=> ∃k:Nat,k<=len/\i=.int .i64 k/\Hid (Below w.heap.size w wr)) (fun i _=>len - (intOf i).toNat);case atStart=>exact⟨0,by omega,rfl,xj _ _⟩
 case round=>
  obtain⟨k,hk,rfl,HB⟩:=hrel;by_cases hlt:k<len
  ·obtain⟨b,o,v,rfl,hb,hv,hat⟩:=cj (HR.below HB.out) hlt;obtain⟨b',o',v',rfl,hb',hv',hat'⟩:=cj (HR'.below HB.out) hlt;rw[hv] at hv';obtain rfl:=xh hv';clear hv hv';obtain⟨va,vl,vc,hvr,-,-,-,c0,c1,c2,c3,c4,c5⟩:=aS hat;obtain⟨va',vl',vc',hvr',-,-,-,d0,d1,d2,d3,d4,d5⟩:=aS hat';clear hat hat';have HT:=aa hvr;have HT':=aa hvr';clear hvr hvr';have HE:=aa (fun q:Wd wr=>oZ v.n v.c v.z va vl vc v.zs v.d v.p va' vl' vc' q.w (HT.below q.b) (HT'.below q.b));have hne:=Wd.ne wr;have e0:∀q:Wd wr,q.w.cell? ⟨b,o+k*6,none⟩=some (.string v.n):=fun q=>(q.cell hb).trans c0;have e1:∀q:Wd wr,q.w.cell? ⟨b,o+k*6+1,none⟩=some (.int .i64 v.c):=fun q=>(q.cell hb).trans c1;have e2:∀q:Wd wr,q.w.cell? ⟨b,o+k*6+2,none⟩=some (.string v.z):=fun q=>(q.cell hb).trans c2;have e3:∀q:Wd wr,q.w.cell? ⟨b,o+k*6+3,none⟩=some (.slice va vl vc):=fun q=>(q.cell hb).trans c3;have e4:∀q:Wd wr,q.w.cell? ⟨b,o+k*6+4,none⟩=some (.string v.d):=fun q=>(q.cell hb).trans c4;have e5:∀q:Wd wr,q.w.cell? ⟨b,o+k*6+5,none⟩=some (.int .i64 v.p):=fun q=>(q.cell hb).trans c5;have f0:∀q:Wd wr,q.w.cell? ⟨b',o'+k*6,none⟩=some (.string v.n):=fun q=>(q.cell hb').trans d0;have f1:∀q:Wd wr,q.w.cell? ⟨b',o'+k*6+1,none⟩=some (.int .i64 v.c):=fun q=>(q.cell hb').trans d1;have f2:∀q:Wd wr,q.w.cell? ⟨b',o'+k*6+2,none⟩=some (.string v.z):=fun q=>(q.cell hb').trans d2;have f3:∀q:Wd wr,q.w.cell? ⟨b',o'+k*6+3,none⟩=some (.slice va' vl' vc'):=fun q=>(q.cell hb').trans d3;have f4:∀q:Wd wr,q.w.cell? ⟨b',o'+k*6+4,none⟩=some (.string v.d):=fun q=>(q.cell hb').trans d4;have f5:∀q:Wd wr,q.w.cell? ⟨b',o'+k*6+5,none⟩=some (.int .i64 v.p):=fun q=>(q.cell hb').trans d5;clear c0 c1 c2 c3 c4 c5 d0 d1 d2 d3 d4 d5;go_wp2_with fail;refine ag an an ?_;repeat (go_big_quiet_step (first|(go_at_call 102;exact Calls.wide (HE.out _))|fail))
   exact kL
  ·exact kA

theorem mj (a:Option Addr) (len cap:Nat) (xs:List Pd) (N:Int) (S:Nat->Prop) (w:World) (ho:az w a len cap 6 105 (xs.map pdF) S) (hN:0<N) (hb:aC N (xs.map pdF)<=1152921504606846976) (hl:len<=9223372036854775807):
  Calls Tryz.prog 51 #[.slice a len cap,.int .i64 N] w fun e w'=>e=.returned (.int .i64 (aC N (xs.map pdF)))/\az w' a len cap 6 105 (mkRs N (xs.map pdF)) S/\aG S w w':=by
 have hxl:=ho.1;have hcp:=ho.2.1;have hcm:=ho.2.2.1;have hml:(mkRs N (xs.map pdF)).length=(xs.map pdF).length:=bj _ _;have HO:Hid (az w a len cap 6 105 ((mkRs N (xs.map pdF)).take 0++(xs.map pdF).drop 0) S):=ka
 have HBd:=aa hb;clear ho hb;go_enter Tryz.func51,Tryz.ntmps51;go_wp2;go_loopw [1,5] (fun vk vi wr=> ∃(i:Nat) (n:Int),i<=len/\vk=.int .i64 n/\vi=.int .i64 i/\Hid (n=aC N ((xs.map pdF).take i))/\0<n/\Hid (az wr a len cap 6 105 ((mkRs N (xs.map pdF)).take i++(xs.map pdF).drop i) S)/\Hid (aG S w wr)) (fun _ vi _=>len - (intOf vi).toNat);case atStart=>exact⟨0,N,by omega,rfl,rfl,rfl,hN,HO,aG.refl _ _⟩
 case round=>
  obtain⟨i,n,hi,rfl,rfl,HN,hn0,HS,HK⟩:=hrel;clear HO;by_cases hlt:i<len
  ·obtain⟨x,hx⟩:∃x,xs[i]?=some x:=⟨_,xm (by simpa using (show i<(xs.map pdF).length by omega))⟩;obtain⟨hfx,HF,hbd,hbd'⟩:=ub;obtain⟨g,rfl,hs⟩:=HS.st HK.out ((cf hml af).trans hfx);have H0:Hid (StJ g 6 105 S (fun _=>False) w wr ((mkRs N (xs.map pdF)).take i++(xs.map pdF).drop i) i [.s x.n,.i x.c,.s x.z,.l x.zs,.s x.d,.i x.p]):=hs;clear hs hbd hx hfx HS HK;go_wp2_with fail;refine (bF _ _ af af).mono ?_;rintro e w1 ⟨rfl,hb⟩;have h1:=(H0.out).below hb;have H1:=aa h1;obtain⟨p0,c0⟩:=h1.cell (i:=0) rfl;have f0:=h1.cA (i*6);rw[yC] at c0;obtain⟨p1,c1⟩:=h1.cell (i:=1) rfl;have f1:=h1.cA (i*6+1);clear h1 hb H0;go_wp2_with fail;refine (bF _ _ af af).mono ?_;rintro e w2 ⟨rfl,hb⟩;obtain⟨h1,H2⟩:=pV;obtain⟨p2,c2⟩:=h1.cell (i:=2) rfl;have f2:=h1.cA (i*6+2);obtain⟨la,ll,lc,cl,hll⟩:=h1.slice (i:=3) rfl;clear h1 hb H1 c0 f0 c1 f1;go_wp2_with fail;refine (((H2.out).cP (i:=2) rfl _ (ba af)).rX (i:=3) rfl ((bI af).trans (cl)) _ af af).mono ?_;rintro e w3 ⟨rfl,h1⟩;have H3:=aa h1;clear h1 cl H2 c2 f2;go_wp2_with fail;refine (bF _ _ af af).mono ?_;rintro e w4 ⟨rfl,hb⟩;have h1:=(H3.out).below hb;have H4:=aa h1;obtain⟨p4,c4⟩:=h1.cell (i:=4) rfl;have f4:=h1.cA (i*6+4);obtain⟨p5,c5⟩:=h1.cell (i:=5) rfl;have f5:=h1.cA (i*6+5);clear h1 hb H3;go_wp2_with fail;have HZ:=aa (((H4.out).cP (i:=4) rfl (aX (n+1+1+1+ll).toNat) (ba af)).gm (i:=5) rfl (n+1+1+1+ll+1));clear H4;refine⟨⟨i+1,mkN n (pdF x),by omega,?_,by go_num,?_,?_,?_,HZ.kept⟩,by simp[intOf];omega⟩
   ·simp[mkN,mkN1,pdF,hll,yv]
   ·rw[bH HF.out,<-HN.out];rfl
   ·simp[mkN,mkN1,pdF];omega
   ·refine az.kU HZ.out hxl hml hcp hcm HF.out ?_;rw[<-HN.out];simp[mkR,mkF,mkN1,pdF,hll]
  ·obtain rfl:i=len:=af
   go_wp2;go_ret;have e1:(xs.map pdF).take i=xs.map pdF:=xw af;have e2:(mkRs N (xs.map pdF)).take i++(xs.map pdF).drop i=mkRs N (xs.map pdF):=by
    exact gS
   exact kK

theorem mM (a:Option Addr) (len cap:Nat) (xs:List Pd) (N:Int) (w:World) (ho:aF w a len cap 6 (mkRs N (xs.map pdF))) (hN:0<N) (hb:aC N (xs.map pdF)<=1152921504606846976) (hl:len<=9223372036854775807):
  Calls Tryz.prog 109 #[.slice a len cap,.int .i64 N] w fun e w'=>e=.returned (.int .i64 (aC N (xs.map pdF)))/\Below w.heap.size w w':=by
 have hxl:(xs.map pdF).length=len:=by rw[<-bj (xs.map pdF) N];exact ho.1
 have HR:=aa ho;have HBd:=aa hb;clear ho hb;go_enter Tryz.func109,Tryz.ntmps109;go_wp2;go_loopw [1,5] (fun vk vi wr=> ∃(i:Nat) (n:Int),i<=len/\vk=.int .i64 n/\vi=.int .i64 i/\Hid (n=aC N ((xs.map pdF).take i))/\0<n/\Hid (Below w.heap.size w wr)) (fun _ vi _=>len - (intOf vi).toNat);case atStart=>exact⟨0,N,by omega,rfl,rfl,rfl,hN,xj _ _⟩
 case round=>
  obtain⟨i,n,hi,rfl,rfl,HN,hn0,HB⟩:=hrel;by_cases hlt:i<len
  ·obtain⟨x,hx⟩:∃x,xs[i]?=some x:=⟨_,xm (by simpa using (show i<(xs.map pdF).length by omega))⟩;obtain⟨hfx,HF,hbd,hbd'⟩:=ub;obtain⟨b,o,r,rfl,hb,hr,hat⟩:=(HR.below HB.out).at hlt;rw[dL,hfx,<-HN.out] at hr;obtain rfl:=xh hr;have HA:Hid (RAt wr b (o+i*6) (pdF ⟨aX (n).toNat,n+1,aX (n+1+1).toNat,cU (n+1+1+1) x.zs.length,aX (n+1+1+1+x.zs.length).toNat,n+1+1+1+x.zs.length+1⟩)):=hat;clear hat hr hbd hx hfx;obtain⟨va,vl,vc,hvr,-,-,-,c0,c1,c2,c3,c4,c5⟩:=aS HA.out;have HL:=aa hvr;have hvl:=hvr.1;rw[aO] at hvl;clear hvr;clear HL hvl;have hne0:=Wd.ne wr;have e0:∀q:Wd wr,q.w.cell? ⟨b,o+i*6,none⟩=some (.string (aX (n).toNat)):=fun q=>(q.cell hb).trans c0;have HT:=aa (fun v:World=>bF (n) v af af);clear c0;go_wp2_with fail;refine ag an an ?_;repeat (go_big_quiet_step (first|(go_at_call 103;exact Calls.wide (HT.out _))|fail))
   refine wpQuiet_nil ?_;rintro _ ⟨q0,rfl⟩;clear e0 HT hne0 c1 c2 c3 c4 c5;obtain⟨HA0,HB0,hb0⟩:=kp;clear HA HB hb;have HA:=HA0;have HB:=HB0;have hb:=hb0;clear HA0 HB0 hb0;obtain⟨va,vl,vc,hvr,-,-,-,c0,c1,c2,c3,c4,c5⟩:=aS HA.out;have HL:=aa hvr;have hvl1:=hvr.1;rw[aO] at hvl1;clear hvr;clear c0 c3 c4 c5;clear HL hvl1;have hne1:=Wd.ne q0.w;have e2:∀q:Wd q0.w,q.w.cell? ⟨b,o+i*6+2,none⟩=some (.string (aX (n+1+1).toNat)):=fun q=>(q.cell hb).trans c2;have HT:=aa (fun v:World=>bF (n+1+1) v af af);clear c2;go_wp2_with fail;refine ag an an ?_;repeat (go_big_quiet_step (first|(go_at_call 103;exact Calls.wide (HT.out _))|fail))
   refine wpQuiet_nil ?_;rintro _ ⟨q1,rfl⟩;clear e2 HT hne1 c1;obtain⟨HA1,HB1,hb1⟩:=ko;clear HA HB hb;have HA:=HA1;have HB:=HB1;have hb:=hb1;clear HA1 HB1 hb1;obtain⟨va,vl,vc,hvr,-,-,-,c0,c1,c2,c3,c4,c5⟩:=aS HA.out;have HL:=aa hvr;have hvl2:=hvr.1;rw[aO] at hvl2;clear hvr;clear c0 c1 c2 c4 c5;subst hvl2;go_wp2_with fail;refine (sn va _ vc _ _ (by exact HL.out) af af).mono ?_;rintro e w2 ⟨rfl,hbq⟩;have HA2:=aa (HA.below hb hbq);have HB2:=upB HB hbq;have hb2:=xr hb hbq.size;clear HA HB hb HL c3 hbq;have HA:=HA2;have HB:=HB2;have hb:=hb2;clear HA2 HB2 hb2;obtain⟨va,vl,vc,hvr,-,-,-,c0,c1,c2,c3,c4,c5⟩:=aS HA.out;have HL:=aa hvr;have hvl3:=hvr.1;rw[aO] at hvl3;clear hvr;clear HL;clear c0 c1 c2 c3 c5;clear hvl3;have hne3:=Wd.ne w2;have e4:∀q:Wd w2,q.w.cell? ⟨b,o+i*6+4,none⟩=some (.string (aX (n+1+1+1+x.zs.length).toNat)):=fun q=>(q.cell hb).trans c4;have HT:=aa (fun v:World=>bF (n+1+1+1+x.zs.length) v af af);clear c4;go_wp2_with fail;refine ag an an ?_;repeat (go_big_quiet_step (first|(go_at_call 103;exact Calls.wide (HT.out _))|fail))
   refine wpQuiet_nil ?_;rintro _ ⟨q3,rfl⟩;clear e4 HT hne3;have HA3:=aa (HA.below hb q3.b);have HB3:=upB HB q3.b;have hb3:=xr hb q3.b.size;clear HA HB hb;have HA:=HA3;have HB:=HB3;have hb:=hb3;clear HA3 HB3 hb3;obtain⟨va,vl,vc,hvr,-,-,-,c0,c1,c2,c3,c4,c5⟩:=aS HA.out;have HL:=aa hvr;have hvl4:=hvr.1;rw[aO] at hvl4;clear hvr;clear c0 c1 c2 c3 c4;clear HL hvl4;go_wp2_with fail;refine⟨⟨i+1,mkN n (pdF x),by omega,?_,by go_num,?_,?_,HB.out⟩,by simp[intOf];omega⟩
   ·simp[mkN,mkN1,pdF,yv]
   ·rw[bH HF.out,<-HN.out];rfl
   ·simp[mkN,mkN1,pdF];omega
  ·obtain rfl:i=len:=af
   go_wp2;go_ret;have e1:(xs.map pdF).take i=xs.map pdF:=xw af;exact kG

structure Cl where
 ns:List Nd
 ks:List Kd
 vs:List Vd
 xs:List Xd
 ps:List Pd
 now:Int
structure Cr where
 n:List (List Fv)
 k:List (List Fv)
 v:List (List Fv)
 x:List (List Fv)
 p:List (List Fv)
def Cl.raw (c:Cl):Cr:=⟨c.ns.map ndF,c.ks.map kdF,c.vs.map vdF,c.xs.map xdF,c.ps.map pdF⟩
structure Ad where
 a1:Option Addr
 l1:Nat
 c1:Nat
 a2:Option Addr
 l2:Nat
 c2:Nat
 a3:Option Addr
 l3:Nat
 c3:Nat
 a4:Option Addr
 l4:Nat
 c4:Nat
 a5:Option Addr
 l5:Nat
 c5:Nat
@[reducible] def clv (d:Ad) (n:Int):Array Value:=#[.slice d.a1 d.l1 d.c1,.slice d.a2 d.l2 d.c2,.slice d.a3 d.l3 d.c3,.slice d.a4 d.l4 d.c4,.slice d.a5 d.l5 d.c5,.int .i64 n]
@[reducible] def clo6 (a1:Option Addr) (l1 y1:Nat) (a2:Option Addr) (l2 y2:Nat) (a3:Option Addr) (l3 y3:Nat) (a4:Option Addr) (l4 y4:Nat) (a5:Option Addr) (l5 y5:Nat) (n:Int):Array Value:=#[.slice a1 l1 y1,.slice a2 l2 y2,.slice a3 l3 y3,.slice a4 l4 y4,.slice a5 l5 y5,.int .i64 n]
@[reducible] def trv (d:Ad) (c:Cl) (p:Pd) (n:Nd) (pa:Option Addr) (pl pc:Nat) (na:Option Addr) (nl nc:Nat):Array Value:=#[.slice d.a1 d.l1 d.c1,.slice d.a2 d.l2 d.c2,.slice d.a3 d.l3 d.c3,.slice d.a4 d.l4 d.c4,.slice d.a5 d.l5 d.c5,.int .i64 c.now,.string p.n,.int .i64 p.c,.string p.z,.slice pa pl pc,.string p.d,.int .i64 p.p,.string n.n,.string n.z,.int .i64 n.c,.int .i64 n.s,.int .i64 n.u,.bool n.d,.slice na nl nc]
@[reducible] def vov (v:Vd) (a:Option Addr) (l k:Nat):Array Value:=#[.string v.n,.int .i64 v.c,.string v.z,.string v.k,.bool v.x,.string v.m,.bool v.y,.slice a l k]
@[reducible] def pov (p:Pd) (a:Option Addr) (l k:Nat):Array Value:=#[.string p.n,.int .i64 p.c,.string p.z,.slice a l k,.string p.d,.int .i64 p.p]
@[reducible] def nov (n:Nd) (a:Option Addr) (l k:Nat):Array Value:=#[.string n.n,.string n.z,.int .i64 n.c,.int .i64 n.s,.int .i64 n.u,.bool n.d,.slice a l k]
@[reducible] def xov (x:Xd):Array Value:=#[.string x.n,.int .i64 x.z,.string x.k,.bool x.x,.string x.v]
structure aK (w:World) (d:Ad) (c:Cr):Prop where
 n:aF w d.a1 d.l1 d.c1 7 c.n
 k:aF w d.a2 d.l2 d.c2 4 c.k
 v:aF w d.a3 d.l3 d.c3 8 c.v
 x:aF w d.a4 d.l4 d.c4 5 c.x
 p:aF w d.a5 d.l5 d.c5 6 c.p
theorem aK.below {w w':World} {d:Ad} {c:Cr} (h:aK w d c) (hb:Below w.heap.size w w'):aK w' d c:=⟨h.n.below hb,h.k.below hb,h.v.below hb,h.x.below hb,h.p.below hb⟩
structure eo (w:World) (d:Ad) (c:Cr) (S:Nat->Prop) (P:Nat->Nat):Prop where
 n:az w d.a1 d.l1 d.c1 7 103 c.n (fun k=>S k/\P k=1)
 k:az w d.a2 d.l2 d.c2 4 111 c.k (fun k=>S k/\P k=2)
 v:az w d.a3 d.l3 d.c3 8 62 c.v (fun k=>S k/\P k=3)
 x:az w d.a4 d.l4 d.c4 5 114 c.x (fun k=>S k/\P k=4)
 p:az w d.a5 d.l5 d.c5 6 105 c.p (fun k=>S k/\P k=5)
def bP (w:World) (d:Ad) (c:Cr) (S:Nat->Prop):Prop:=∃P,eo w d c S P
theorem eo.row {w:World} {d:Ad} {c:Cr} {S:Nat->Prop} {P:Nat->Nat} (h:eo w d c S P):aK w d c:=⟨h.n.row,h.k.row,h.v.row,h.x.row,h.p.row⟩
theorem bP.row {w:World} {d:Ad} {c:Cr} {S:Nat->Prop} (h:bP w d c S):aK w d c:=by obtain⟨P,h⟩:=h;exact h.row
theorem eo.aN {w w':World} {d:Ad} {c:Cr} {S S':Nat->Prop} {P:Nat->Nat} (h:eo w d c S P) (hk:∀k,k<w.heap.size->S k->w'.heap[k]?=w.heap[k]?) (hs:∀k,k<w.heap.size->S k->S' k):eo w' d c S' P:=
 ⟨h.n.aN (fun k hl s=>hk k hl s.1) (fun k hl s=>⟨hs k hl s.1,s.2⟩),h.k.aN (fun k hl s=>hk k hl s.1) (fun k hl s=>⟨hs k hl s.1,s.2⟩),h.v.aN (fun k hl s=>hk k hl s.1) (fun k hl s=>⟨hs k hl s.1,s.2⟩),h.x.aN (fun k hl s=>hk k hl s.1) (fun k hl s=>⟨hs k hl s.1,s.2⟩),h.p.aN (fun k hl s=>hk k hl s.1) (fun k hl s=>⟨hs k hl s.1,s.2⟩)⟩
theorem bP.below {w w':World} {d:Ad} {c:Cr} {S:Nat->Prop} (h:bP w d c S) (hb:Below w.heap.size w w'):bP w' d c S:=by
 obtain⟨P,h⟩:=h;exact⟨P,h.aN (fun k hk _=>hb.block k hk) (fun _ _ s=>s)⟩
theorem bP.kept {w w':World} {d:Ad} {c:Cr} {S S':Nat->Prop} (h:bP w d c S) (hb:aG S' w w') (hd:∀k,S k->¬S' k):bP w' d c S:=by
 obtain⟨P,h⟩:=h;exact⟨P,h.aN (fun k hk s=>hb.block k hk (hd k s)) (fun _ _ s=>s)⟩
theorem bP.dX {w:World} {d:Ad} {c:Cr} {S S':Nat->Prop} (h:bP w d c S) (hs:∀k,k<w.heap.size->S k->S' k):bP w d c S':=by
 obtain⟨P,h⟩:=h;exact⟨P,h.aN (fun _ _ _=>rfl) hs⟩
def mkC (N:Int) (c:Cr):Cr:=⟨mkRs N c.n,mkRs (aC N c.n) c.k,mkRs (aC (aC N c.n) c.k) c.v,mkRs (aC (aC (aC N c.n) c.k) c.v) c.x,mkRs (aC (aC (aC (aC N c.n) c.k) c.v) c.x) c.p⟩
def cS (N:Int) (c:Cr):Int:=(aC (aC (aC (aC (aC N c.n) c.k) c.v) c.x) c.p)
theorem jh (N:Int) (c:Cr):N<=cS N c:=xQ (aA _ _) (xQ (aA _ _) (xQ (aA _ _) (xQ (aA _ _) (aA _ _))))
theorem rV (N:Int) (c:Cr):aC N c.n<=cS N c:=(xQ (xQ (xQ (xQ (Int.le_refl _) (aA _ _)) (aA _ _)) (aA _ _)) (aA _ _))
theorem rW (N:Int) (c:Cr):aC (aC N c.n) c.k<=cS N c:=(xQ (xQ (xQ (Int.le_refl _) (aA _ _)) (aA _ _)) (aA _ _))
theorem rT (N:Int) (c:Cr):aC (aC (aC N c.n) c.k) c.v<=cS N c:=(xQ (xQ (Int.le_refl _) (aA _ _)) (aA _ _))
theorem rS (N:Int) (c:Cr):aC (aC (aC (aC N c.n) c.k) c.v) c.x<=cS N c:=(xQ (Int.le_refl _) (aA _ _))
theorem rU (N:Int) (c:Cr):aC (aC (aC (aC (aC N c.n) c.k) c.v) c.x) c.p<=cS N c:=(Int.le_refl _)

theorem eN (d d':Ad) (c:Cl) (w:World) (hr:aK w d c.raw) (hr':aK w d' c.raw):
  Calls Tryz.prog 9 #[.agg #[.slice d.a1 d.l1 d.c1,.slice d.a2 d.l2 d.c2,.slice d.a3 d.l3 d.c3,.slice d.a4 d.l4 d.c4,.slice d.a5 d.l5 d.c5,.int .i64 c.now],.agg #[.slice d'.a1 d'.l1 d'.c1,.slice d'.a2 d'.l2 d'.c2,.slice d'.a3 d'.l3 d'.c3,.slice d'.a4 d'.l4 d'.c4,.slice d'.a5 d'.l5 d'.c5,.int .i64 c.now]] w fun e w'=>e=.returned (.bool true)/\Below w.heap.size w w':=by
 have HR:=aa (hr.below (aM w (.cells (clv d c.now) 36) (.cells (clv d' c.now) 36)));have HR':=aa (hr'.below (aM w (.cells (clv d c.now) 36) (.cells (clv d' c.now) 36)));have HB0:=aa (aM w (.cells (clv d c.now) 36) (.cells (clv d' c.now) 36));have HG0:=aa (cL w (.cells (clv d c.now) 36) (.cells (clv d' c.now) 36));have HG1:=aa (bV w (.cells (clv d c.now) 36) (.cells (clv d' c.now) 36));clear hr hr';go_enter Tryz.func9,Tryz.ntmps9;go_wp2_with fail;refine (su d.a1 d'.a1 d.l1 d'.l1 d.c1 d'.c1 c.ns _ HR.n HR'.n).mono ?_;rintro e w1 ⟨rfl,hb⟩;have HR1:=aa (HR.below hb);have HR'1:=aa (HR'.below hb);have HB1:=aa (HB0.trans (hb.mono (HB0.size)));have HG01:=upK HG0 hb;have HG11:=upK HG1 hb;clear hb HR HR' HB0 HG0 HG1;have HR:=HR1;have HR':=HR'1;have HG0:=HG01;have HG1:=HG11;clear HR1 HR'1 HG01 HG11;have c0:=ck1 HG0;have c1:=ck1 HG1;go_wp2_with fail;refine (sv d.a2 d'.a2 d.l2 d'.l2 d.c2 d'.c2 c.ks _ HR.k HR'.k).mono ?_;rintro e w2 ⟨rfl,hb⟩;have HR2:=aa (HR.below hb);have HR'2:=aa (HR'.below hb);have HB2:=aa (HB1.trans (hb.mono (HB1.size)));have HG02:=upK HG0 hb;have HG12:=upK HG1 hb;clear hb HR HR' HB1 HG0 HG1 c0 c1;have HR:=HR2;have HR':=HR'2;have HG0:=HG02;have HG1:=HG12;clear HR2 HR'2 HG02 HG12;have c0:=ck2 HG0;have c1:=ck2 HG1;go_wp2_with fail;refine (sr d.a3 d'.a3 d.l3 d'.l3 d.c3 d'.c3 c.vs _ HR.v HR'.v).mono ?_;rintro e w3 ⟨rfl,hb⟩;have HR3:=aa (HR.below hb);have HR'3:=aa (HR'.below hb);have HB3:=aa (HB2.trans (hb.mono (HB2.size)));have HG03:=upK HG0 hb;have HG13:=upK HG1 hb;clear hb HR HR' HB2 HG0 HG1 c0 c1;have HR:=HR3;have HR':=HR'3;have HG0:=HG03;have HG1:=HG13;clear HR3 HR'3 HG03 HG13;have c0:=ck3 HG0;have c1:=ck3 HG1;go_wp2_with fail;refine (sq d.a4 d'.a4 d.l4 d'.l4 d.c4 d'.c4 c.xs _ HR.x HR'.x).mono ?_;rintro e w4 ⟨rfl,hb⟩;have HR4:=aa (HR.below hb);have HR'4:=aa (HR'.below hb);have HB4:=aa (HB3.trans (hb.mono (HB3.size)));have HG04:=upK HG0 hb;have HG14:=upK HG1 hb;clear hb HR HR' HB3 HG0 HG1 c0 c1;have HR:=HR4;have HR':=HR'4;have HG0:=HG04;have HG1:=HG14;clear HR4 HR'4 HG04 HG14;have c0:=ck4 HG0;have c1:=ck4 HG1;go_wp2_with fail;refine (ss d.a5 d'.a5 d.l5 d'.l5 d.c5 d'.c5 c.ps _ HR.p HR'.p).mono ?_;rintro e w5 ⟨rfl,hb⟩;have HR5:=aa (HR.below hb);have HR'5:=aa (HR'.below hb);have HB5:=aa (HB4.trans (hb.mono (HB4.size)));have HG05:=upK HG0 hb;have HG15:=upK HG1 hb;clear hb HR HR' HB4 HG0 HG1 c0 c1;have HR:=HR5;have HR':=HR'5;have HG0:=HG05;have HG1:=HG15;clear HR5 HR'5 HG05 HG15;have c0:=ck5 HG0;have c1:=ck5 HG1;go_wp2;go_ret;exact⟨rfl,HB5.out⟩

theorem dW (d:Ad) (c:Cl) (N:Int) (S:Nat->Prop) (w:World) (ho:bP w d c.raw S) (hS:∀k,S k->k<w.heap.size) (hN:0<N) (hb:cS N c.raw<=1152921504606846976):
  Calls Tryz.prog 10 #[.agg #[.slice d.a1 d.l1 d.c1,.slice d.a2 d.l2 d.c2,.slice d.a3 d.l3 d.c3,.slice d.a4 d.l4 d.c4,.slice d.a5 d.l5 d.c5,.int .i64 c.now],.int .i64 N] w fun e w'=>e=.returned (.int .i64 (cS N c.raw))/\bP w' d (mkC N c.raw) S/\aG S w w':=by
 obtain⟨P,ho⟩:=ho;have h1:=ho.aN (w':=w.alloc (.cells (clv d c.now) 36)) (fun k hk _=>(al w _).block k hk) (fun _ _ s=>s);have O1:=aa h1.n;have O2:=aa h1.k;have O3:=aa h1.v;have O4:=aa h1.x;have O5:=aa h1.p;have HK0:Hid (aG S w (w.alloc (.cells (clv d c.now) 36))):=aG.bh (al w _);have HG0:Hid ((w.alloc (.cells (clv d c.now) 36)).heap[w.heap.size]?=some (.cells (clv d c.now) 36 (0,0))):=xt;have hnn:¬S w.heap.size:=fun s=>Nat.lt_irrefl _ (hS _ s);have HNN:=aa hnn;have HBd:=aa hb;clear ho h1 hS hnn hb;go_enter Tryz.func10,Tryz.ntmps10;go_wp2_with fail;refine (mm d.a1 d.l1 d.c1 c.ns (N) _ _ (by exact O1.out) hN (xQ (rV N c.raw) HBd.out) (xp O1.2.1 O1.2.2.1)).mono ?_;rintro e w1 ⟨rfl,ho,hk⟩;have M1:=aa ho;have O21:=aa (O2.kept hk (fun k s q=>by have h1:=s.2;have h2:=q.2;omega));have O31:=aa (O3.kept hk (fun k s q=>by have h1:=s.2;have h2:=q.2;omega));have O41:=aa (O4.kept hk (fun k s q=>by have h1:=s.2;have h2:=q.2;omega));have O51:=aa (O5.kept hk (fun k s q=>by have h1:=s.2;have h2:=q.2;omega));have HK1:=aa (HK0.trans (hk.mono (fun _ s=>s.1)));have HG1:=aa ((hk.block _ (ae HG0.out) (fun s=>HNN.out s.1)).trans HG0.out);clear ho hk HK0 HG0 O1 O2 O3 O4 O5;have O2:=O21;clear O21;have O3:=O31;clear O31;have O4:=O41;clear O41;have O5:=O51;clear O51;have c0:=ck1 HG1;go_wp2_with fail;refine (mn d.a2 d.l2 d.c2 c.ks (aC N (c.ns.map ndF)) _ _ (by exact O2.out) (xy hN (aA _ _)) (xQ (rW N c.raw) HBd.out) (xp O2.2.1 O2.2.2.1)).mono ?_;rintro e w2 ⟨rfl,ho,hk⟩;have M2:=aa ho;have M12:=aa (M1.kept hk (fun k s q=>by have h1:=s.2;have h2:=q.2;omega));have O32:=aa (O3.kept hk (fun k s q=>by have h1:=s.2;have h2:=q.2;omega));have O42:=aa (O4.kept hk (fun k s q=>by have h1:=s.2;have h2:=q.2;omega));have O52:=aa (O5.kept hk (fun k s q=>by have h1:=s.2;have h2:=q.2;omega));have HK2:=aa (HK1.trans (hk.mono (fun _ s=>s.1)));have HG2:=aa ((hk.block _ (ae HG1.out) (fun s=>HNN.out s.1)).trans HG1.out);clear ho hk HK1 HG1 M1 O2 O3 O4 O5 c0;have M1:=M12;clear M12;have O3:=O32;clear O32;have O4:=O42;clear O42;have O5:=O52;clear O52;have c0:=ck2 HG2;go_wp2_with fail;refine (mi d.a3 d.l3 d.c3 c.vs (aC (aC N (c.ns.map ndF)) (c.ks.map kdF)) _ _ (by exact O3.out) (xy (xy hN (aA _ _)) (aA _ _)) (xQ (rT N c.raw) HBd.out) (xp O3.2.1 O3.2.2.1)).mono ?_;rintro e w3 ⟨rfl,ho,hk⟩;have M3:=aa ho;have M13:=aa (M1.kept hk (fun k s q=>by have h1:=s.2;have h2:=q.2;omega));have M23:=aa (M2.kept hk (fun k s q=>by have h1:=s.2;have h2:=q.2;omega));have O43:=aa (O4.kept hk (fun k s q=>by have h1:=s.2;have h2:=q.2;omega));have O53:=aa (O5.kept hk (fun k s q=>by have h1:=s.2;have h2:=q.2;omega));have HK3:=aa (HK2.trans (hk.mono (fun _ s=>s.1)))
 have HG3:=aa ((hk.block _ (ae HG2.out) (fun s=>HNN.out s.1)).trans HG2.out);clear ho hk HK2 HG2 M1 M2 O3 O4 O5 c0;have M1:=M13;clear M13;have M2:=M23;clear M23;have O4:=O43;clear O43;have O5:=O53;clear O53;have c0:=ck3 HG3;go_wp2_with fail;refine (mh d.a4 d.l4 d.c4 c.xs (aC (aC (aC N (c.ns.map ndF)) (c.ks.map kdF)) (c.vs.map vdF)) _ _ (by exact O4.out) (xy (xy (xy hN (aA _ _)) (aA _ _)) (aA _ _)) (xQ (rS N c.raw) HBd.out) (xp O4.2.1 O4.2.2.1)).mono ?_;rintro e w4 ⟨rfl,ho,hk⟩;have M4:=aa ho;have M14:=aa (M1.kept hk (fun k s q=>by have h1:=s.2;have h2:=q.2;omega));have M24:=aa (M2.kept hk (fun k s q=>by have h1:=s.2;have h2:=q.2;omega));have M34:=aa (M3.kept hk (fun k s q=>by have h1:=s.2;have h2:=q.2;omega));have O54:=aa (O5.kept hk (fun k s q=>by have h1:=s.2;have h2:=q.2;omega));have HK4:=aa (HK3.trans (hk.mono (fun _ s=>s.1)));have HG4:=aa ((hk.block _ (ae HG3.out) (fun s=>HNN.out s.1)).trans HG3.out);clear ho hk HK3 HG3 M1 M2 M3 O4 O5 c0;have M1:=M14;clear M14;have M2:=M24;clear M24;have M3:=M34;clear M34;have O5:=O54;clear O54;have c0:=ck4 HG4;go_wp2_with fail;refine (mj d.a5 d.l5 d.c5 c.ps (aC (aC (aC (aC N (c.ns.map ndF)) (c.ks.map kdF)) (c.vs.map vdF)) (c.xs.map xdF)) _ _ (by exact O5.out) (xy (xy (xy (xy hN (aA _ _)) (aA _ _)) (aA _ _)) (aA _ _)) (xQ (rU N c.raw) HBd.out) (xp O5.2.1 O5.2.2.1)).mono ?_;rintro e w5 ⟨rfl,ho,hk⟩;have M5:=aa ho;have M15:=aa (M1.kept hk (fun k s q=>by have h1:=s.2;have h2:=q.2;omega));have M25:=aa (M2.kept hk (fun k s q=>by have h1:=s.2;have h2:=q.2;omega));have M35:=aa (M3.kept hk (fun k s q=>by have h1:=s.2;have h2:=q.2;omega));have M45:=aa (M4.kept hk (fun k s q=>by have h1:=s.2;have h2:=q.2;omega));have HK5:=aa (HK4.trans (hk.mono (fun _ s=>s.1)));clear ho hk HK4 HG4 M1 M2 M3 M4 O5 c0;have M1:=M15;clear M15;have M2:=M25;clear M25;have M3:=M35;clear M35;have M4:=M45;clear M45;go_wp2_with fail;go_ret;exact⟨rfl,⟨P,M1.out,M2.out,M3.out,M4.out,M5.out⟩,HK5.out⟩

theorem gv (d:Ad) (c:Cl) (now N:Int) (w:World) (hr:aK w d (mkC N c.raw)) (hN:0<N) (hb:cS N c.raw<=1152921504606846976):
  Calls Tryz.prog 52 #[.agg #[.slice d.a1 d.l1 d.c1,.slice d.a2 d.l2 d.c2,.slice d.a3 d.l3 d.c3,.slice d.a4 d.l4 d.c4,.slice d.a5 d.l5 d.c5,.int .i64 now],.int .i64 N] w fun e w'=>e=.returned (.int .i64 (cS N c.raw))/\Below w.heap.size w w':=by
 have HR:=aa (hr.below (al w (.cells (clv d now) 36)));have HB0:=aa (al w (.cells (clv d now) 36));have HG0:Hid ((w.alloc (.cells (clv d now) 36)).heap[w.heap.size]?=some (.cells (clv d now) 36 (0,0))):=xt;have HBd:=aa hb;clear hr hb;have p1:¬aC N (c.ns.map ndF)<0:=Int.not_lt.2 (Int.le_of_lt (xy hN (aA _ _)));have p2:¬aC (aC N (c.ns.map ndF)) (c.ks.map kdF)<0:=Int.not_lt.2 (Int.le_of_lt (xy (xy hN (aA _ _)) (aA _ _)));have p3:¬aC (aC (aC N (c.ns.map ndF)) (c.ks.map kdF)) (c.vs.map vdF)<0:=Int.not_lt.2 (Int.le_of_lt (xy (xy (xy hN (aA _ _)) (aA _ _)) (aA _ _)));have p4:¬aC (aC (aC (aC N (c.ns.map ndF)) (c.ks.map kdF)) (c.vs.map vdF)) (c.xs.map xdF)<0:=Int.not_lt.2 (Int.le_of_lt (xy (xy (xy (xy hN (aA _ _)) (aA _ _)) (aA _ _)) (aA _ _)));have p5:¬aC (aC (aC (aC (aC N (c.ns.map ndF)) (c.ks.map kdF)) (c.vs.map vdF)) (c.xs.map xdF)) (c.ps.map pdF)<0:=Int.not_lt.2 (Int.le_of_lt (xy (xy (xy (xy (xy hN (aA _ _)) (aA _ _)) (aA _ _)) (aA _ _)) (aA _ _)));go_enter Tryz.func52,Tryz.ntmps52;go_wp2_with fail;refine (mN d.a1 d.l1 d.c1 c.ns (N) _ (by exact HR.n) hN (xQ (rV N c.raw) HBd.out) (xp HR.n.2.1 HR.n.2.2.1)).mono ?_;rintro e w1 ⟨rfl,hb⟩;have HR1:=aa (HR.below hb);have HB1:=aa (HB0.trans (hb.mono (HB0.size)));have HG1:=upK HG0 hb;clear hb HR HB0 HG0;have HR:=HR1;clear HR1;have c0:=ck1 HG1;go_wp2_with fail;refine (mO d.a2 d.l2 d.c2 c.ks (aC N (c.ns.map ndF)) _ (by exact HR.k) (xy hN (aA _ _)) (xQ (rW N c.raw) HBd.out) (xp HR.k.2.1 HR.k.2.2.1)).mono ?_;rintro e w2 ⟨rfl,hb⟩;have HR2:=aa (HR.below hb);have HB2:=aa (HB1.trans (hb.mono (HB1.size)));have HG2:=upK HG1 hb;clear hb HR HB1 HG1 c0;have HR:=HR2;clear HR2;have c0:=ck2 HG2;go_wp2_with fail;refine (mL d.a3 d.l3 d.c3 c.vs (aC (aC N (c.ns.map ndF)) (c.ks.map kdF)) _ (by exact HR.v) (xy (xy hN (aA _ _)) (aA _ _)) (xQ (rT N c.raw) HBd.out) (xp HR.v.2.1 HR.v.2.2.1)).mono ?_;rintro e w3 ⟨rfl,hb⟩;have HR3:=aa (HR.below hb);have HB3:=aa (HB2.trans (hb.mono (HB2.size)));have HG3:=upK HG2 hb;clear hb HR HB2 HG2 c0;have HR:=HR3;clear HR3;have c0:=ck3 HG3;go_wp2_with fail;refine (mK d.a4 d.l4 d.c4 c.xs (aC (aC (aC N (c.ns.map ndF)) (c.ks.map kdF)) (c.vs.map vdF)) _ (by exact HR.x) (xy (xy (xy hN (aA _ _)) (aA _ _)) (aA _ _)) (xQ (rS N c.raw) HBd.out) (xp HR.x.2.1 HR.x.2.2.1)).mono ?_
 rintro e w4 ⟨rfl,hb⟩;have HR4:=aa (HR.below hb);have HB4:=aa (HB3.trans (hb.mono (HB3.size)));have HG4:=upK HG3 hb;clear hb HR HB3 HG3 c0;have HR:=HR4;clear HR4;have c0:=ck4 HG4;go_wp2_with fail;refine (mM d.a5 d.l5 d.c5 c.ps (aC (aC (aC (aC N (c.ns.map ndF)) (c.ks.map kdF)) (c.vs.map vdF)) (c.xs.map xdF)) _ (by exact HR.p) (xy (xy (xy (xy hN (aA _ _)) (aA _ _)) (aA _ _)) (aA _ _)) (xQ (rU N c.raw) HBd.out) (xp HR.p.2.1 HR.p.2.2.1)).mono ?_;rintro e w5 ⟨rfl,hb⟩;have HR5:=aa (HR.below hb);have HB5:=aa (HB4.trans (hb.mono (HB4.size)));clear hb HR HB4 HG4 c0;have HR:=HR5;clear HR5;go_wp2_with fail;go_ret;exact⟨rfl,HB5.out⟩

end Rc
end Go.Proofs.YtbbdcjbfnjlndaaGreatDoor

namespace Go.Proofs.YtbbdcjbfnjlndaaGreatDoor
open Go.RowKit
namespace Rc

theorem bN:∀x:List UInt8,xn x x=false
 | []=>rfl
 | a ::x=>by simp[xn,bN x]
theorem bD:∀x y z:List UInt8,xn x y=true->xn y z=true->xn x z=true
 | _,[],_,h,_=>by cases ‹List UInt8› <;> simp[xn] at h
 | _,_ ::_,[],_,h=>by simp[xn] at h
 | [],_ ::_,_ ::_,_,_=>rfl
 | a ::x,b ::y,c ::z,h,k=>by
  simp only[xn,yX,decide_eq_true_eq,yk,beq_iff_eq] at h k ⊢;rcases h with h|⟨rfl,h⟩
  ·rcases k with k|⟨rfl,k⟩
   ·exact .inl (UInt8.lt_trans h k)
   ·exact .inl h
  ·rcases k with k|⟨rfl,k⟩
   ·exact .inl k
   ·exact .inr ⟨rfl,bD x y z h k⟩
section
variable {α:Type} {nm:α->ByteArray} {xs:List α} {t:ByteArray}
def aJ (nm:α->ByteArray) (xs:List α):Prop:=∀(j:Nat) x y,xs[j+1]?=some x->xs[j]?=some y->xn (nm y).toList (nm x).toList=true
theorem aJ.lt (h:aJ nm xs) {i j:Nat} {x y:α} (hij:i<j) (hi:xs[i]?=some x) (hj:xs[j]?=some y):xn (nm x).toList (nm y).toList=true:=by
 induction j generalizing y with
 | zero=>omega
 | succ j ih=>
  by_cases e:i=j
  ·subst e;exact h i y x hj hi
  ·have hl:j<xs.length:=by have:=(xe.1 hj).1;omega
   have hz:xs[j]?=some (xs[j]'hl):=xm _;exact bD _ _ _ (ih af hz) (h j y _ hj hz)
theorem aJ.inj (h:aJ nm xs) {i j:Nat} {x y:α} (hi:xs[i]?=some x) (hj:xs[j]?=some y) (e:nm x=nm y):i=j/\x=y:=by
 have hij:i=j:=by
  rcases Nat.lt_trichotomy i j with k|k|k
  ·have:=h.lt k hi hj;rw[e,bN] at this;cases this
  ·exact k
  ·have:=h.lt k hj hi;rw[e,bN] at this;cases this
 subst hij;rw[hi] at hj;exact⟨rfl,xh hj⟩
def pl (nm:α->ByteArray) (xs:List α) (t:ByteArray):Nat:=xs.findIdx (fun x=> !xn (nm x).toList t.toList)
def hit (nm:α->ByteArray) (xs:List α) (t:ByteArray):Bool:=match xs[pl nm xs t]? with|some x=>(nm x).toList==t.toList|none=>false
theorem rO {k:Nat} {x:α} (h:∀(j:Nat) y,j<k->xs[j]?=some y->xn (nm y).toList t.toList=true) (hx:xs[k]?=some x) (hl:xn (nm x).toList t.toList=false):pl nm xs t=k:=by
 have hk:k<xs.length:=(xe.1 hx).1;have hxe:xs[k]=x:=(xe.1 hx).2;unfold pl;rw[List.findIdx_eq hk];refine⟨by rw[hxe,hl];rfl,fun j hj=>?_⟩;rw[h j _ hj (xm af)];rfl
theorem gX (h:∀(j:Nat) y,xs[j]?=some y->xn (nm y).toList t.toList=true):pl nm xs t=xs.length:=by
 unfold pl;rw[List.findIdx_eq_length];intro x hx;obtain⟨j,hj,rfl⟩:=List.mem_iff_getElem.1 hx;rw[h j _ (xm hj)];rfl
theorem dw {a b:ByteArray} (h:(a.toList==b.toList)=true):a=b:=by
 by_cases e:a=b
 ·exact e
 ·rw[bL e] at h;cases h
theorem cV (hr:aJ nm xs) {j:Nat} {x:α} (hx:xs[j]?=some x) (hn:nm x=t):pl nm xs t=j/\hit nm xs t=true:=by
 have h:pl nm xs t=j:=rO (fun i y hi hy=>by rw[<-hn];exact hr.lt hi hy hx) hx (by rw[hn];exact bN _);refine⟨h,?_⟩;unfold hit;rw[h,hx];exact a_ hn
theorem fu (h:hit nm xs t=true):∃x,xs[pl nm xs t]?=some x/\nm x=t:=by
 unfold hit at h;split at h
 ·next x hx=>exact⟨x,hx,dw h⟩
 ·cases h
def dm (ok:α->Prop) (nm:α->ByteArray) (xs:List α) (most:Int):Prop:=(xs.length:Int)<=most/\(∀(j:Nat) x,xs[j]?=some x->ok x)/\aJ nm xs
end
theorem aq.yes {p:Prop} {w w':World} {e:Ending} (h:aq p w e w') (hp:p):e=.returned (.bool true)/\Below w.heap.size w w':=by
 obtain⟨r,rfl,hr,hb⟩:=h;exact⟨by rw[hr.2 hp],hb⟩
theorem aq.no {p:Prop} {w w':World} {e:Ending} (h:aq p w e w') (hp:¬p):e=.returned (.bool false)/\Below w.heap.size w w':=by
 obtain⟨r,rfl,hr,hb⟩:=h;cases r
 ·exact⟨rfl,hb⟩
 ·exact absurd (hr.1 rfl) hp
theorem aq.t {p:Prop} {w w':World} (hp:p) (hb:Below w.heap.size w w'):aq p w (.returned (.bool true)) w':=⟨true,rfl,⟨fun _=>hp,fun _=>rfl⟩,hb⟩
theorem aq.f {p:Prop} {w w':World} (hp:¬p) (hb:Below w.heap.size w w'):aq p w (.returned (.bool false)) w':=⟨false,rfl,⟨fun h=>(by cases h),fun h=>absurd h hp⟩,hb⟩
def mg (x:Nd):Prop:=mW x.n x.z x.c x.s x.u x.zs
def mu (x:Kd):Prop:=jF x.n x.z
def lA (v:Vd):Prop:=sz v.n v.c v.z v.k v.x v.m v.y v.zs
def lu (x:Xd):Prop:=jG x.n x.z x.k x.v
def l_ (x:Pd):Prop:=sA x.n x.c x.z x.zs x.d x.p

end Rc
end Go.Proofs.YtbbdcjbfnjlndaaGreatDoor

namespace Go.Proofs.YtbbdcjbfnjlndaaGreatDoor
open Go.RowKit
namespace Rc
open Mk

def bl (a b:Qd):Bool:=xn a.n.toList b.n.toList || ((a.n.toList==b.n.toList) && xn a.d.toList b.d.toList)
theorem iJ (a:Qd):bl a a=false:=by simp[bl,bN]
theorem dq {a b c:Qd} (h:bl a b=true) (k:bl b c=true):bl a c=true:=by
 unfold bl at h k ⊢;simp only[yX,yk] at h k ⊢;rcases h with h|⟨h1,h2⟩
 ·rcases k with k|⟨k1,k2⟩
  ·exact .inl (bD _ _ _ h k)
  ·rw[<-dw k1];exact .inl h
 ·rw[dw h1];rcases k with k|⟨k1,k2⟩
  ·exact .inl k
  ·exact .inr ⟨k1,bD _ _ _ h2 k2⟩
theorem hU {x t:ByteArray} (h:xn x.toList t.toList=false) (hn:¬x=t):xn t.toList x.toList=true:=by
 have h1:=eg x.toList t.toList;rw[h] at h1;have h2:(t.toList==x.toList)=false:=bL (fun e=>hn e.symm);rw[h2] at h1;simpa using h1
theorem iI {a b:Qd} (h:bl a b=false) (hn:¬a=b):bl b a=true:=by
 unfold bl at h ⊢;simp only[Bool.or_eq_false_iff,Bool.and_eq_false_iff] at h;simp only[yX,yk];by_cases e:a.n=b.n
 ·refine .inr ⟨a_ e.symm,?_⟩;have h2:xn a.d.toList b.d.toList=false:=h.2.resolve_left (fun h3=>by rw[a_ e] at h3;cases h3);exact hU h2 (fun e2=>hn (by obtain⟨a1,a2⟩:=a;obtain⟨b1,b2⟩:=b;cases e;cases e2;rfl))
 ·exact .inl (hU h.1 e)
def RQ (zs:List Qd):Prop:=zs.Pairwise fun a b=>bl a b=true
def fU (t:Qd) (zs zs':List Qd):Prop:=(t∈zs/\zs'=zs)\/∃k,k<=zs.length/\zs'=zs.take k++[t]++zs.drop k/\(∀(j:Nat) y,j<k->zs[j]?=some y->bl y t=true)/\∀y,zs[k]?=some y->bl t y=true
theorem fU.mem {t:Qd} {zs zs':List Qd} (h:fU t zs zs') (s:Qd):s∈zs'↔s∈zs\/s=t:=by
 exact uX
theorem fU.len {t:Qd} {zs zs':List Qd} (h:fU t zs zs'):zs'.length<=zs.length+1:=by
 exact rH
theorem fU.tv {t:Qd} {zs zs':List Qd} (h:fU t zs zs') (hr:RQ zs):RQ zs':=by
 rcases h with ⟨_,rfl⟩|⟨k,hk,rfl,hlt,hgt⟩
 ·exact hr
 ·have h1:RQ (zs.take k++zs.drop k):=by rw[List.take_append_drop];exact hr
  obtain⟨h2,h3,h4⟩:=yJ.1 h1;have h5:∀a∈zs.take k,bl a t=true:=fun a ha=>by
   exact rB
  have h6:∀a∈zs.drop k,bl t a=true:=fun a ha=>by
   cases hd:zs.drop k with
   | nil=>rw[hd] at ha;cases ha
   | cons b r=>
    have hb:zs[k]?=some b:=by rw[<-yC k,<-xX,hd];rfl
    have h7:=hgt b hb;rw[hd] at ha h3
    rcases xV.1 ha with rfl|ha
    ·exact h7
    ·exact dq h7 ((yL.1 h3).1 a ha)
  refine yJ.2 ⟨yJ.2 ⟨h2,List.pairwise_singleton _ _,fun a ha b hb=>?_⟩,h3,fun a ha b hb=>?_⟩
  ·rw[List.mem_singleton.1 hb];exact h5 a ha
  ·rcases List.mem_append.1 ha with ha|ha
   ·exact dq (h5 a ha) (h6 b hb)
   ·rw[List.mem_singleton.1 ha];exact h6 b hb
theorem RQ.ext:∀{xs ys:List Qd},RQ xs->RQ ys->(∀s,s∈xs↔s∈ys)->xs=ys
 | [],[],_,_,_=>rfl
 | [],b ::ys,_,_,h=>by have:=(h b).2 (yD ..);cases this
 | a ::xs,[],_,_,h=>by have:=(h a).1 (yD ..);cases this
 | a ::xs,b ::ys,hx,hy,h=>by
  obtain⟨x1,x2⟩:=yL.1 hx;obtain⟨y1,y2⟩:=yL.1 hy;have hab:a=b:=by
   rcases xV.1 ((h a).1 (yD ..)) with e|ha
   ·exact e
   ·rcases xV.1 ((h b).2 (yD ..)) with e|hb
    ·exact e.symm
    ·have h9:=dq (y1 a ha) (x1 b hb);rw[iJ] at h9;cases h9
  subst hab;have ne:∀{l:List Qd},(∀s∈l,bl a s=true)->∀s∈l,¬s=a:=fun hl s hs e=>by
   have h9:=hl s hs;rw[e,iJ] at h9;cases h9
  rw[RQ.ext x2 y2 (fun s=>⟨fun hs=>(xV.1 ((h s).1 (zd _ hs))).resolve_left (ne x1 s hs),fun hs=>(xV.1 ((h s).2 (zd _ hs))).resolve_left (ne y1 s hs)⟩)]

end Rc
end Go.Proofs.YtbbdcjbfnjlndaaGreatDoor
