import Derived.Lib.ItoaNum
import Derived.Test.YtpejepeekdjfoaaGreatDoorRows
import Derived.WalkKit
import Derived.WalkSpells
import Derived.OwnWalk
import Derived.Outline
import Derived.Laws.Cover1
import Derived.Lib.BufferWrite
import Derived.Laws.CopyOwn
import Derived.Deep.QuietTactic
import Derived.BigQuiet
import Derived.WalkSmall
import Derived.Laws.IdiomStrings
/-
 The mathematics of numbers in digits: what digits say, and that digits are got back.
-/
set_option maxRecDepth 100000
set_option maxHeartbeats 12800000
open And renaming intro→Fl
open Array renaming getD_eq_getD_getElem?→Fu, getElem?_push_size→FB, getElem?_eq_some_iff→FE, getElem?_setIfInBounds→FI, any_eq_true→Hb, getElem?_eq_none→Hy, getElem_mem→Ih, getElem?_setIfInBounds_self_of_lt→IH
open Bool renaming and_eq_true→Gj
open Go.Act renaming put→GL
open Go.Calls renaming quiet_of_same→FW
open Go.Code renaming region→Ix
open Go.Ending renaming returned→Ie
open Go.Lib renaming decDigits→Hj, toList_data→Iz
open Go.Op renaming bytesLess→Fz
open Go.Region renaming binds→FY, ready→F9, wanted→GS
open Go.RowKit.Below renaming heap_setCell→Fm, refl→Ft, heap_alloc→Fw
open Go.Value renaming string→FH
open Go.Value.slice renaming injEq→Ig
open Go.World renaming setCell→Gc, cell?→Hc
open Int renaming lt_of_lt_of_le→FL, le_trans→F6, add_assoc→GX, le_refl→II
open List renaming getElem?_eq_some_iff→Fk, getElem?_eq_getElem→Fs, getElem?_map→FA, take_of_length_le→FD, set_cons_zero→FF, length_take→FO, getElem?_take→FP, mem_of_getElem?→FX, take_add_one→FZ, length_append→F5, getElem?_cons_zero→F7, mem_cons→Gh, getElem?_eq_none→Gl, range→Gq, all_eq_true→GA, append_nil→GC, getElem?_cons_succ→GG, length_drop→GH, drop_eq_getElem_cons→GY, append_assoc→G4, mem_append_left→Hi, mem_range→Hk, pairwise_append→Ht, getElem?_set→Ii, getElem?_append→Ij, ext_getElem?→IG
open Nat renaming le_refl→Fq, le_trans→Fx, lt_of_lt_of_le→FC, zero_add→FV, add_zero→Hg
open Option.some renaming inj→Fo, injEq→Gw
open UInt8 renaming lt_iff_toNat_lt→Ib
namespace Go.Proofs.YtpejepeekdjfoaaGreatDoor
theorem af {p:Prop} (h:p:=by omega):p:=h
theorem ar {p:Prop} (h:p:=by kernel_rfl):p:=h
theorem cC {p:Prop} (h:p:=by unfold maxLen;omega):p:=h
theorem bF {p:Prop} (h:p:=by simp;omega):p:=h
theorem aR {p:Prop} (h:p:=by simp):p:=h
theorem kZ {p:Prop} (h:p:=by rw[FP,if_pos hij];exact Fs _):p:=h
theorem dv {p:Prop} (h:p:=by simpa using hr.1):p:=h
theorem bT {p:Prop} (h:p:=by cases h):p:=h
theorem kU {p:Prop} (h:p:=by rw[FP,if_pos hij];exact hp):p:=h
theorem fN {p:Prop} (h:p:=by simpa using hz):p:=h
theorem gH {p:Prop} (h:p:=by rw[hz2];omega):p:=h
theorem iP {p:Prop} (h:p:=by simpa using h):p:=h
theorem sb {p:Prop} (h:p:=by rw[hk] at hsz;simp at hsz;omega):p:=h
theorem nq {p:Prop} (h:p:=by simpa[Hid] using ho):p:=h
end Go.Proofs.YtpejepeekdjfoaaGreatDoor
namespace Go.Proofs.YtpejepeekdjfoaaGreatDoor
theorem fe {p:Prop} (h:p:=by
 have HN:=aa (fun h=>hq (hr.2 h));clear hr;go_wp2_with fail;go_ret;exact⟨false,rfl,⟨fun h=>bT,fun h=>(HN.out (h.1)).elim⟩,al _ _⟩):p:=h
theorem gO {p:Prop} (h:p:=by
 have HN:=aa (fun h=>hq (hr.2 h));clear hr;go_wp2_with fail;go_ret;exact⟨false,rfl,⟨fun h=>bT,fun h=>(HN.out (h.2.2.1)).elim⟩,al _ _⟩):p:=h
theorem gN {p:Prop} (h:p:=by
 have HN:=aa (fun h=>hq (hr.2 h));clear hr;go_wp2_with fail;go_ret;exact⟨false,rfl,⟨fun h=>bT,fun h=>(HN.out (h.2.1)).elim⟩,al _ _⟩):p:=h
theorem xx {p:Prop} (h:p:=by
 intro j o ho t ht i p hp hd;have hj:j<front.length:=(Fk.1 ho).1;have hi:i<front.length:=(Fk.1 hp).1;have:=GA.1 h3 j (Hk.2 hj);rw[ho] at this;have:=GA.1 this t ht;have:=GA.1 this i (Hk.2 hi);rw[hp] at this;simp only[hd,bne_self_eq_false,Bool.false_or,Gj,decide_eq_true_eq] at this;exact xg):p:=h
theorem CZ {p:Prop} (h:p:=by
 have e:aE a0 (knAll [] front φs) (fun t=>a.tmps.getD t undef)=a:=by
  refine A_ ((dj _ _ _).trans h.size.symm) ((dm _ _ _).trans h.defers.symm) (fun t=>gP a0 a _ (fun p hp=>?_) t (fun hn=>?_))
  ·rcases dy front φs [] hp with ⟨i,o,h1,h2,h3⟩|h1
   ·exact hin o (FX h1) _ h2
   ·simp at h1
  ·refine h.other t (fun i o ho hd=>?_);exfalso;have hi:=(Fk.1 ho).1;have hφ:φs[i]?=some (φs[i]'(by omega)):=Fs _;cases hk:(knAll [] front φs).lookup t with
   | none=>exact (b_ front φs [] hk).2 i o _ ho hφ hd
   | some φ=>
    have:∃p∈knAll [] front φs,p.1=t:=by
     revert hk
     generalize knAll [] front φs=l
     intro hk
     induction l with
     | nil=>simp at hk
     | cons p l ih=>
      rw[List.lookup_cons] at hk
      cases hb:t==p.1 with
      | true=>exact⟨p,by simp,(by simpa using hb:t=p.1).symm⟩
      | false=>
       rw[hb] at hk;obtain⟨q,hq,he⟩:=ih hk;exact⟨q,by simp[hq],he⟩
    obtain⟨p,hp,he⟩:=this;exact hn p hp he
 rw[e] at h1;exact h1):p:=h
theorem lf {p:Prop} (h:p:=by
 have HN:=aa (fun h=>hq (hr.2 h));clear hr;go_wp2_with fail;go_ret;exact⟨false,rfl,⟨fun h=>bT,fun h=>(HN.out (h.2.2.2.1)).elim⟩,al _ _⟩):p:=h
theorem vO {p:Prop} (h:p:=by
 rcases hr with rfl|⟨hr0,hr1,hvl2⟩
 ·go_wp2;go_ret;exact⟨-1,rfl,.inl rfl,HB2.out⟩
 ·go_wp2;refine⟨⟨k+1,r,by omega,by go_num,by go_num,by omega,by omega,fun j x hj hx=>?_,HB2.out⟩,by simp[intOf];omega⟩;by_cases e:j=k
  ·subst e;rw[HV.out] at hx;obtain rfl:=Fo hx;rw[HT.1];exact hvl2
  ·exact HE.out j x af hx):p:=h
theorem vN {p:Prop} (h:p:=by
 obtain⟨φ,hφ,ho,hr⟩:=h;obtain⟨φs,hl,hs,hf⟩:=au.spec l _ hr;refine⟨φ ::φs,by simp[hl],?_,hf⟩;intro i o' φ' h1 h2;cases i with
 | zero=>
  simp only[F7,Gw] at h1 h2;subst h1;subst h2;exact⟨hφ,ho⟩
 | succ i=>
  simp only[GG] at h1 h2
  simpa[knAll] using hs i o' φ' h1 h2):p:=h
theorem nY {p:Prop} (h:p:=by
 have HN:=aa (fun h=>hq (hr.2 h));clear hr;go_wp2_with fail;go_ret;exact⟨false,rfl,⟨fun h=>bT,fun h=>(HN.out (h.2.2.2.2.1)).elim⟩,al _ _⟩):p:=h
theorem nX {p:Prop} (h:p:=by
 refine wpQuiet_nil ?_;rintro _ ⟨q,rfl⟩;go_wp2_with fail;exact⟨⟨k+1,by omega,by go_num,HB.trans (q.b.mono HB.size)⟩,by simp[intOf];omega⟩):p:=h
theorem nV {p:Prop} (h:p:=by
 obtain⟨b,o,r,h1,h2,h3,h4⟩:=h.at hj;rw[FA] at h3;obtain⟨x,h5,rfl⟩:=Option.map_eq_some_iff.1 h3;exact⟨b,o,x,h1,h2,h5,h4⟩):p:=h
theorem nU {p:Prop} (h:p:=by
 refine⟨congrArg (fun z=>Ie (.int .i64 z)) (HN.trans (by rw[e1])),?_,HK.out⟩;have:=HS.out;rw[e2] at this;exact this):p:=h
theorem CQ {p:Prop} (h:p:=by
 induction known with
 | nil=>exact (h (fun p hp=>by simp at hp)).symm
 | cons p l ih=>
  have e:aE a0 (p ::l) (fun t=>a.tmps.getD t undef)=(aE a0 l (fun t=>a.tmps.getD t undef)).put (some p.1) (a.tmps.getD p.1 undef):=rfl;rw[e,fh,dj]
  by_cases hp:p.1=t
  ·subst hp;rw[if_pos ⟨rfl,hk p aR⟩]
  ·rw[if_neg (fun h=>hp h.1)]
   exact ih (fun q hq=>hk q (by simp[hq])) (fun hn=>h (fun q hq=>by
    rcases Gh.1 hq with rfl|hq
    ·exact hp
    ·exact hn q hq))):p:=h
theorem CO {p:Prop} (h:p:=by
 intro t ht;have hne:o.dst≠some t:=fun hd=>by
  have:=ht j o ho hd;simp[Fu,hj] at this
 have h1:=h.other t (fun i p hp hd=>by
  have h2:=ht i p hp hd
  have e:¬j=i:=fun e=>by subst e;exact hne (by rw[Fo (ho.symm.trans hp)];exact hd)
  simpa[Fu,FI,e] using h2)
 exact wV):p:=h
theorem ld {p:Prop} (h:p:=by
 have:=List.count_le_length (a:=false) (l:=(Array.replicate l.toArray.size false).toList);simp at this ⊢):p:=h
theorem sx {p:Prop} (h:p:=by
 cases hk:back with
 | none=>rw[hk] at h1;exact h1
 | some o=>
  have h2:=hb o hk;rw[hall _ (by rw[hsz,hk];simp)] at h2
  cases h2):p:=h
theorem CE {p:Prop} (h:p:=by
 obtain⟨h1,h2⟩:=b_ l φs (kn o.dst ψ known) h;rw[iF] at h1;by_cases hd:o.dst=some t
 ·rw[if_pos hd] at h1;cases h1
 ·rw[if_neg hd] at h1;refine⟨h1,fun i o' φ h3 h4=>?_⟩;cases i with
  | zero=>simp only[F7,Gw] at h3;subst h3;exact hd
  | succ i=>exact h2 i o' φ (by simpa using h3) (by simpa using h4)):p:=h
theorem su {p:Prop} (h:p:=by
 go_wp2;go_round;case rel=>exact⟨k+1,by omega,by go_num,lh hlt HB.out HA.out⟩
 case measure=>simp[intOf];omega):p:=h
theorem CB {p:Prop} (h:p:=by
 obtain⟨h1,h2⟩:=h;rcases h2 with ⟨h3,_⟩|⟨g',cap,cur,hv,hB,hh,_,_,hsz,htk⟩
 ·cases h3
 ·simp only[Ig,Gw,Addr.mk.injEq] at hv;obtain⟨⟨rfl,_,_⟩,_,rfl⟩:=hv;have hl:cur.toList.length<=n*1:=by simp[hsz]
  rw[FD hl] at htk;subst htk;exact⟨by simpa using hh,by simpa using hsz,hB⟩):p:=h
theorem nP {p:Prop} (h:p:=by
 exact⟨congrArg (fun z=>Ie (.int .i64 z)) (HN.trans (by rw[e1])),HB.out⟩):p:=h
theorem vF {p:Prop} (h:p:=by
 obtain rfl:k=len:=af
 go_wp2;go_ret;exact⟨m,rfl,.inr ⟨hm0,hm1,by omega,fun j v hv=>HE.out j v (by have:=(Fk.1 hv).1;omega) hv⟩,HB.out⟩):p:=h
theorem Cw {p:Prop} (h:p:=by
 rcases dy l φs (kn o.dst ψ known) h with ⟨i,o',h1,h2,h3⟩|h
 ·exact .inl ⟨i+1,o',by simpa using h1,h2,by simpa using h3⟩
 ·cases hd:o.dst with
  | none=>rw[hd] at h;exact .inr h
  | some d=>
   rw[hd] at h;simp only[kn,Gh] at h
   rcases h with rfl|h
   ·exact .inl ⟨0,o,rfl,hd,rfl⟩
   ·exact .inr h):p:=h
theorem Cu {p:Prop} (h:p:=by
 go_wp2_with fail;refine (sK a a' len len' cap cap' zs zs _ (HR.below (aF _ _ _)) (HR'.below (aF _ _ _))).mono ?_;rintro e w1 ⟨r,rfl,hr,hb⟩;obtain rfl:r=true:=hr.2 rfl;clear hr;have HB:Hid (Below w.heap.size w w1):=(aF _ _ _).trans (hb.mono bF);go_wp2_with fail;go_ret;exact⟨rfl,HB.out⟩):p:=h
theorem sr {p:Prop} (h:p:=by
 simp only[Gj,beq_iff_eq] at hx;exact⟨_,Ih hk,hx.1,hx.2⟩):p:=h
theorem Ci {p:Prop} (h:p:=by
 go_wp2_with fail;refine (rY a len cap zs _ _ (HR.below (al _ _)) af af).mono ?_;rintro e w1 ⟨r,rfl,hr,rfl⟩;rcases hr with rfl|⟨hr0,hr1,hr2⟩
 ·go_wp2;go_ret;exact⟨-1,rfl,.inl rfl,al _ _⟩
 go_wp2;go_ret;exact⟨_,rfl,.inr ⟨by omega,by omega,by omega⟩,al _ _⟩):p:=h
theorem yR {p:Prop} (h:p:=by
 rcases b8 l φs (kn o.dst ψ known) h with ⟨i,o',h1,h2,h3⟩|h
 ·exact .inl ⟨i+1,o',by simpa using h1,h2,by simpa using h3⟩
 ·rw[iF] at h;by_cases hd:o.dst=some t
  ·rw[if_pos hd] at h;exact .inl ⟨0,o,rfl,hd,by simpa using h⟩
  ·rw[if_neg hd] at h;exact .inr h):p:=h
theorem yL {p:Prop} (h:p:=by
 intro j o ho e he;have hj:j<(front++back.toList).toArray.size:=(FE.1 ho).1;have:=GA.1 h4 j (Hk.2 hj);rw[ho] at this;have:=Array.all_eq_true.1 this;obtain⟨k,hk,rfl⟩:=Array.mem_iff_getElem.1 he;simpa using this k hk):p:=h
theorem jY {p:Prop} (h:p:=by
 obtain rfl:k=len:=af
 go_wp2;go_ret;exact⟨rfl,HB.out⟩):p:=h
theorem qH {p:Prop} (h:p:=by
 go_wp2_with (go_at_call 138;refine (mm _ _ _ _).mono ?_;rintro e w1 ⟨r,rfl,hr,rfl⟩);go_ret;exact⟨r,rfl,hr,rfl⟩):p:=h
theorem yB {p:Prop} (h:p:=by
 cases d with
 | none=>simp[kn]
 | some d=>
  simp only[kn,Gw,List.lookup_cons]
  by_cases h:d=t
  ·subst h;simp
  ·rw[if_neg h]
   have:(t==d)=false:=by simpa using fun e=>h e.symm
   rw[this]):p:=h
theorem yz {p:Prop} (h:p:=by
 intro a w K h1 h2 h3 h4;have hw:GS o (yielded ops a.tmps)=true:=by simp[GS,hg]
 rw[if_pos hw];exact h a w K h1 h2 (fun t ht=>h3 t (by unfold Oper.looksAt;exact Hi _ ht)) h4):p:=h
theorem yx {p:Prop} (h:p:=by
 exact aV af (aV af (aV af (aV af (aV af (aV af (aV af (aV af (aV af (HG.out)))))))))):p:=h
theorem yv {p:Prop} (h:p:=by
 exact ah af (ah af (ah af (ah af (ah af (ah af (ah af (ah af (ah af (HB.out)))))))))):p:=h
theorem yu {p:Prop} (h:p:=by
 obtain⟨h1,h2,h3,h5⟩:=h;refine⟨h1,h2,h3,?_⟩;rcases h5 with h5|⟨b,o,rfl,hlt,hc⟩
 ·exact Or.inl h5
 ·exact Or.inr ⟨b,o,rfl,FC hlt hb.size,fun j v hv=>(hc j v hv).below hlt hb⟩):p:=h
theorem yr {p:Prop} (h:p:=by
 rcases hr with rfl|⟨hr0,hr1,hvl2⟩
 ·go_wp2;go_ret;exact⟨-1,rfl,.inl rfl,HB2.out⟩
 ·go_wp2;exact⟨⟨k+1,r,by omega,by go_num,by go_num,by omega,by omega,HB2.out⟩,by simp[intOf];omega⟩):p:=h
theorem jW {p:Prop} (h:p:=by
 go_wp2;go_ret;exact⟨-1,rfl,.inl rfl,Ft _ _⟩):p:=h
theorem mb {p:Prop} (h:p:=by
 obtain⟨l',rfl⟩:=List.getLast?_eq_some_iff.1 hb;rw[<-hf];simp):p:=h
theorem yo {p:Prop} (h:p:=by
 have HN:=aa (fun h=>hq (hr.2 h));clear hsl hb hb1 hr;go_wp2_with fail;go_ret;exact⟨false,rfl,⟨fun h=>bT,fun h=>(HN.out (iD h.2.2.2.2.2.2)).elim⟩,HB.out⟩):p:=h
theorem l_ {p:Prop} (h:p:=by
 go_wp2;go_ret;exact⟨false,rfl,by unfold aO;simp;omega,rfl⟩):p:=h
theorem lZ {p:Prop} (h:p:=by
 have:=GA.1 h2 o ho;rw[ht] at this;simpa using this):p:=h
theorem qp {p:Prop} (h:p:=by
 go_enter Tryz.func47,Tryz.ntmps47;go_wp2;go_ret;exact⟨-1,rfl,.inl rfl,al _ _⟩):p:=h
theorem yf {p:Prop} (h:p:=by
 rw[Array.getElem?_setIfInBounds_ne (fun e2=>hne (by have:=AR af af e2;exact⟨this.1.symm,this.2.symm⟩))];exact k1):p:=h
theorem xW {p:Prop} (h:p:=by
 go_wp2;go_ret;refine⟨true,rfl,?_,rfl⟩;simp only[true_iff];exact⟨by omega,by omega,fun i h=>HA.out i h af⟩):p:=h
theorem xJ {p:Prop} (h:p:=by
 rcases h5 with h5|⟨b,o,rfl,hlt,hc⟩
 ·subst h5;simp at h1;omega
 ·exact⟨b,o,_,rfl,hlt,hx,hc j _ hx⟩):p:=h
theorem xG {p:Prop} (h:p:=by
 rcases Nat.lt_or_ge b w.heap.size with h1|h1
 ·exact h1
 ·rw[Hy h1] at h;cases h):p:=h
theorem xE {p:Prop} (h:p:=by
 rw[ht,fh,if_pos ⟨rfl,by rw[h.size];exact hin o (FX ho) t ht⟩];exact hv):p:=h
theorem xD {p:Prop} (h:p:=by
 obtain rfl:k=len:=af
 go_wp2;go_ret;exact⟨m,rfl,.inr ⟨hm0,hm1,by omega⟩,HB.out⟩):p:=h
theorem jR {p:Prop} (h:p:=by
 rw[FD af,List.drop_of_length_le af,GC]):p:=h
theorem lV {p:Prop} (h:p:=by
 go_enter Tryz.func46,Tryz.ntmps46;go_wp2;go_ret;exact⟨-1,rfl,.inl rfl,al _ _⟩):p:=h
theorem xg {p:Prop} (h:p:=by
 obtain⟨h6,h7⟩:=this;obtain⟨k,hk,hx⟩:=Hb.1 h7;simp only[Gj,beq_iff_eq] at hx;exact⟨h6,_,Ih hk,hx.1,hx.2⟩):p:=h
theorem xd {p:Prop} (h:p:=by
 rintro e w1 ⟨r,rfl,hr,rfl⟩;go_wp2_with fail;go_ret;exact⟨r,rfl,⟨fun h=>⟨h0.out,h1.out,h2.out,hr.1 h⟩,fun h=>hr.2 h.2.2.2⟩,al _ _⟩):p:=h
theorem wY {p:Prop} (h:p:=by
 intro o ho i hi;subst ho;have:=GA.1 h5 i (Hk.2 hi);obtain⟨k,hk,hx⟩:=Hb.1 this;exact sr):p:=h
theorem wX {p:Prop} (h:p:=by
 rintro e w1 ⟨r,rfl,hr,rfl⟩;go_wp2_with fail;go_ret;exact⟨r,rfl,⟨fun h=>⟨h0.out,hr.1 h⟩,fun h=>hr.2 h.2⟩,al _ _⟩):p:=h
theorem wV {p:Prop} (h:p:=by
 cases hd:o.dst with
 | none=>exact h1
 | some d=>
  rw[fh,if_neg (fun hx=>hne (hd.trans (by rw[hx.1])))];exact h1):p:=h
theorem wR {p:Prop} (h:p:=by
 go_wp2;go_ret;exact⟨false,rfl,⟨fun h=>bT,fun h=>absurd (h.2.2.2.2.2.1 rfl) hm0⟩,al _ _⟩):p:=h
theorem fP {p:Prop} (h:p:=by
 have HR:=aa hr;have hvl:xs.length=len:=dv
 exact Fl HR hvl):p:=h
theorem BY {p:Prop} (h:p:=by
 have hfx:(xs.map pdF)[i]?=some (pdF x):=by rw[FA,hx];rfl
 have HF:=aa hfx;have hbd:mkN n (pdF x)<=1152921504606846976:=by rw[HN.out];exact F6 (ka hfx N) HBd.out
 have hbd':n+5+x.zs.length<=1152921504606846976:=by simpa[mkN,mkN1,pdF,GX,Int.add_comm,Int.add_left_comm] using hbd
 exact Fl hfx (Fl HF (Fl hbd hbd'))):p:=h
theorem nH {p:Prop} (h:p:=by
 have HA0:=aa (HA.below hb q0.b);have HB0:=upB HB q0.b;have hb0:=FC hb q0.b.size;exact Fl HA0 (Fl HB0 hb0)):p:=h
theorem nG {p:Prop} (h:p:=by
 have HA1:=aa (HA.below hb q1.b);have HB1:=upB HB q1.b;have hb1:=FC hb q1.b.size;exact Fl HA1 (Fl HB1 hb1)):p:=h
theorem BS {p:Prop} (h:p:=by
 have hfx:(xs.map ndF)[i]?=some (ndF x):=by rw[FA,hx];rfl
 have HF:=aa hfx;have hbd:mkN n (ndF x)<=1152921504606846976:=by rw[HN.out];exact F6 (ka hfx N) HBd.out
 have hbd':n+6+x.zs.length<=1152921504606846976:=by simpa[mkN,mkN1,ndF,GX] using hbd
 exact Fl hfx (Fl HF (Fl hbd hbd'))):p:=h
theorem BR {p:Prop} (h:p:=by
 have hfx:(xs.map vdF)[i]?=some (vdF x):=by rw[FA,hx];rfl
 have HF:=aa hfx;have hbd:mkN n (vdF x)<=1152921504606846976:=by rw[HN.out];exact F6 (ka hfx N) HBd.out
 have hbd':n+7+x.zs.length<=1152921504606846976:=by simpa[mkN,mkN1,vdF,GX] using hbd
 exact Fl hfx (Fl HF (Fl hbd hbd'))):p:=h
theorem BQ {p:Prop} (h:p:=by
 have hfx:(xs.map kdF)[i]?=some (kdF x):=by rw[FA,hx];rfl
 have HF:=aa hfx;have hbd:mkN n (kdF x)<=1152921504606846976:=by rw[HN.out];exact F6 (ka hfx N) HBd.out
 have hbd':n+3+1<=1152921504606846976:=by simpa[mkN,mkN1,kdF,GX] using hbd
 exact Fl hfx (Fl HF (Fl hbd hbd'))):p:=h
theorem BP {p:Prop} (h:p:=by
 have hfx:(xs.map xdF)[i]?=some (xdF x):=by rw[FA,hx];rfl
 have HF:=aa hfx;have hbd:mkN n (xdF x)<=1152921504606846976:=by rw[HN.out];exact F6 (ka hfx N) HBd.out
 have hbd':n+4+1<=1152921504606846976:=by simpa[mkN,mkN1,xdF,GX] using hbd
 exact Fl hfx (Fl HF (Fl hbd hbd'))):p:=h
theorem ve {p:Prop} (h:p:=by
 have g0:=(hb.block w.heap.size bF).trans (cS _ _ _);have g1:=(hb.block (w.heap.size+1) aR).trans (bE _ _ _);exact Fl g0 g1):p:=h
theorem BJ {p:Prop} (h:p:=by
 have HG:=aa hG;have HB:Hid (Below w.heap.size w w1):=(bH _ _ _ _).trans (hb.mono af);have c20:=ck0 g2;have c10:=ck0 g1;have f10:=av g1 0;have c21:=ck1 g2;have c11:=ck1 g1;have f11:=av g1 1;have c22:=ck2 g2;have c12:=ck2 g1;have f12:=av g1 2;have c23:=ck3 g2;have c13:=ck3 g1;have f13:=av g1 3;have c24:=ck4 g2;have c14:=ck4 g1;have f14:=av g1 4;have c25:=ck5 g2;have c15:=ck5 g1;have f15:=av g1 5;have c26:=ck6 g2;exact Fl HG (Fl HB (Fl c20 (Fl c10 (Fl f10 (Fl c21 (Fl c11 (Fl f11 (Fl c22 (Fl c12 (Fl f12 (Fl c23 (Fl c13 (Fl f13 (Fl c24 (Fl c14 (Fl f14 (Fl c25 (Fl c15 (Fl f15 c26)))))))))))))))))))):p:=h
theorem nz {p:Prop} (h:p:=by
 have HR:=aa hr;have HR':=aa hr';have hlc:=Fx hr.2.1 hr.2.2.1;exact Fl HR (Fl HR' hlc)):p:=h
theorem uV {p:Prop} (h:p:=by
 have h1:=(((H1.out).dt (i:=0) rfl _ (bG af)).ir (i:=1) rfl _).below hb;have H2:=aa h1;exact Fl h1 H2):p:=h
end Go.Proofs.YtpejepeekdjfoaaGreatDoor
namespace Go.Proofs.YtpejepeekdjfoaaGreatDoor

theorem tS {k:Nat} (h:k<10):(UInt8.ofNat (48+k)).toNat=48+k:=by
 rw[UInt8.toNat_ofNat'];omega
theorem sM {u k:Nat} (h:u<10 ^ (k+1)):(Hj u).length<=k+1:=by
 induction k generalizing u with
 | zero=>rw[Hj,dif_pos iP];simp
 | succ k ih=>
  rw[Hj]
  split
  ·simp
  ·rw[F5];have:=@ih (u / 10) (by rw[Nat.pow_succ] at h;omega)
   simp;omega
theorem zO (u:Nat) (h:0<u) (r:List UInt8):(if u / 10=0 then [] else Hj (u / 10))++(UInt8.ofNat (48+u % 10) ::r)=Hj u++r:=by
 conv=>rhs;rw[Hj]
 split
 ·rename_i h1;rw[dif_pos af,Nat.mod_eq_of_lt af];rfl
 ·rename_i h1;rw[dif_neg af];simp

end Go.Proofs.YtpejepeekdjfoaaGreatDoor

namespace Go.Proofs.YtpejepeekdjfoaaGreatDoor
open Go.RowKit

def kH (b:Int):Bool:=decide (97<=b) && decide (b<=122)
def A7 (b:Int):Bool:=decide (48<=b) && decide (b<=57)
def nbB (b:Int):Bool:=kH b || A7 b || decide (b=95)
def okB (i:Nat) (b:Int):Bool:=if i=0 then kH b else nbB b
def aO (s:ByteArray):Prop:=1<=s.size/\s.size<=20/\∀i (h:i<s.size),okB i ((s[i]'h).toNat:Int)=true
def cJ (p:Prop) (w:World) (e:Ending) (w':World):Prop:=∃r:Bool,e=.returned (.bool r)/\(r=true↔p)/\w=w'
theorem np {a b:Bool} (h:a=b):Ie (.bool a)=.returned (.bool b):=by rw[h]

theorem sD (b:Int) (w:World):
  Calls Tryz.prog 215 #[.int .u8 b] w fun e w'=>e=.returned (.bool (kH b))/\w=w':=by
 go_enter Tryz.func215,Tryz.ntmps215;go_wp2;all_goals (go_ret;exact⟨np (by unfold kH;rw[Bool.eq_iff_iff];simp;omega),rfl⟩)

theorem yX (b:Int) (w:World):
  Calls Tryz.prog 216 #[.int .u8 b] w fun e w'=>e=.returned (.bool (nbB b))/\w=w':=by
 go_enter Tryz.func216,Tryz.ntmps216;go_wp2;all_goals (go_ret;exact⟨np (by unfold nbB kH A7;rw[Bool.eq_iff_iff];simp;omega),rfl⟩)

theorem gT {s:ByteArray} {k:Nat} (hlt:k<s.size) (h:okB k ((s[k]'hlt).toNat:Int)=false):(false=true↔aO s):=by
 constructor
 ·intro h;cases h
 ·intro h3;have:=h3.2.2 k hlt;rw[h] at this;exact this
theorem lh {s:ByteArray} {k:Nat} (hlt:k<s.size) (h:okB k ((s[k]'hlt).toNat:Int)=true) (ha:∀i (h:i<s.size),i<k->okB i ((s[i]'h).toNat:Int)=true):
  ∀i (h:i<s.size),i<k+1->okB i ((s[i]'h).toNat:Int)=true:=by
 intro i hi hk;by_cases e:i=k
 ·subst e;exact h
 ·exact ha i hi af

theorem bh (s:ByteArray) (w:World) (hs:s.size<=9223372036854775807):
  Calls Tryz.prog 173 #[.string s] w (cJ (aO s) w):=by
 by_cases h1:s.size<1
 ·go_enter Tryz.func173,Tryz.ntmps173;exact l_
 by_cases h2:20<s.size
 ·go_enter Tryz.func173,Tryz.ntmps173;exact l_
 go_enter Tryz.func173,Tryz.ntmps173;go_wp2;go_loop [3] (fun i=> ∃k:Nat,k<=s.size/\i=.int .i64 k/\∀i (h:i<s.size),i<k->okB i ((s[i]'h).toNat:Int)=true) (fun i=>s.size - (intOf i).toNat);case atStart=>exact⟨0,by omega,rfl,fun i _ h=>by omega⟩
 case round=>
  obtain⟨k,hk,rfl,hall⟩:=hrel;have HA:Hid (∀i (h:i<s.size),i<k->okB i ((s[i]'h).toNat:Int)=true):=hall;clear hall;by_cases hlt:k<s.size
  ·cases hok:okB k ((s[k]'hlt).toNat:Int)
   ·have HB:Hid (okB k ((s[k]'hlt).toNat:Int)=false):=hok;by_cases hk0:k=0
    ·have hkb:((k:Int)==0)=true:=by simp[hk0]
     have hk1:k<1:=af
     unfold okB kH at hok;rw[if_pos hk0] at hok;simp only[Bool.and_eq_false_iff,decide_eq_false_iff_not] at hok;clear hk0;rcases (show ((s[k]'hlt).toNat:Int)<97\/(97<=((s[k]'hlt).toNat:Int)/\122<((s[k]'hlt).toNat:Int)) by omega) with hA|⟨hA,hB⟩;all_goals
      clear hok
      go_wp2
      all_goals first|(exfalso;rename_i hx;simp at hx;omega)|(go_ret;exact⟨false,rfl,gT hlt HB.out,rfl⟩)
    ·have hkb:((k:Int)==0)=false:=by simp[hk0]
     unfold okB nbB kH A7 at hok;rw[if_neg hk0] at hok;simp only[Bool.or_eq_false_iff,Bool.and_eq_false_iff,decide_eq_false_iff_not] at hok;have hne:(((s[k]'hlt).toNat:Int) !=95)=true:=by simp;omega
     rcases (show (((s[k]'hlt).toNat:Int)<97\/(97<=((s[k]'hlt).toNat:Int)/\122<((s[k]'hlt).toNat:Int)))/\(((s[k]'hlt).toNat:Int)<48\/(48<=((s[k]'hlt).toNat:Int)/\57<((s[k]'hlt).toNat:Int))) by omega) with ⟨hA|⟨hA,hB⟩,hC|⟨hC,hD⟩⟩;all_goals
      clear hok
      try omega
     all_goals
      go_wp2
      all_goals first|(exfalso;rename_i hx;simp at hx;omega)|(go_ret;exact⟨false,rfl,gT hlt HB.out,rfl⟩)
   ·have HB:Hid (okB k ((s[k]'hlt).toNat:Int)=true):=hok;by_cases hk0:k=0
    ·have hkb:((k:Int)==0)=true:=by simp[hk0]
     have hk1:k<1:=af
     unfold okB kH at hok;rw[if_pos hk0] at hok;simp only[Gj,decide_eq_true_eq] at hok;obtain⟨hA,hB⟩:=hok;clear hk0;exact su
    ·have hkb:((k:Int)==0)=false:=by simp[hk0]
     unfold okB nbB kH A7 at hok;rw[if_neg hk0] at hok;simp only[Bool.or_eq_true,Gj,decide_eq_true_eq] at hok;rcases (show (97<=((s[k]'hlt).toNat:Int)/\((s[k]'hlt).toNat:Int)<=122)\/(48<=((s[k]'hlt).toNat:Int)/\((s[k]'hlt).toNat:Int)<=57)\/(95<=((s[k]'hlt).toNat:Int)/\((s[k]'hlt).toNat:Int)<=95) by omega) with ⟨hA,hB⟩|⟨hA,hB⟩|⟨hA,hB⟩
     ·clear hok;exact su
     ·clear hok;exact su
     ·clear hok;have hne:(((s[k]'hlt).toNat:Int) !=95)=false:=by simp;omega
      exact su
  ·exact xW

theorem a_ (s:ByteArray) (w:World) (hs:s.size<=9223372036854775807):
  Calls Tryz.prog 204 #[.string s] w (cJ (aO s) w):=by
 by_cases h1:s.size<1
 ·go_enter Tryz.func204,Tryz.ntmps204;exact l_
 by_cases h2:20<s.size
 ·go_enter Tryz.func204,Tryz.ntmps204;exact l_
 have h0:0<s.size:=af
 cases hl:kH ((s[0]'h0).toNat:Int)
 ·have HC:Hid (∀w,Calls Tryz.prog 215 #[.int .u8 ((s[0]'h0).toNat:Int)] w fun e w'=>e=.returned (.bool false)/\w=w'):=fun w=>by rw[<-hl];exact sD _ w
  have HB:Hid (okB 0 ((s[0]'h0).toNat:Int)=false):=hl;clear hl;go_enter Tryz.func204,Tryz.ntmps204;go_wp2_with (go_at_call 215;refine (HC.out _).mono ?_;rintro e w1 ⟨rfl,rfl⟩);go_ret;exact⟨false,rfl,gT h0 HB.out,rfl⟩
 ·have HC:Hid (∀w,Calls Tryz.prog 215 #[.int .u8 ((s[0]'h0).toNat:Int)] w fun e w'=>e=.returned (.bool true)/\w=w'):=fun w=>by rw[<-hl];exact sD _ w
  have HB:Hid (okB 0 ((s[0]'h0).toNat:Int)=true):=hl;clear hl;go_enter Tryz.func204,Tryz.ntmps204;go_wp2_with (go_at_call 215;refine (HC.out _).mono ?_;rintro e w1 ⟨rfl,rfl⟩);go_loop [3] (fun i=> ∃k:Nat,1<=k/\k<=s.size/\i=.int .i64 k/\∀i (h:i<s.size),i<k->okB i ((s[i]'h).toNat:Int)=true) (fun i=>s.size - (intOf i).toNat);case atStart=>exact⟨1,by omega,by omega,rfl,fun i _ h=>by obtain rfl:i=0:=af;exact HB.out⟩
  case round=>
   obtain⟨k,hk1,hk,rfl,hall⟩:=hrel;have HA:Hid (∀i (h:i<s.size),i<k->okB i ((s[i]'h).toNat:Int)=true):=hall;clear hall HC HB;by_cases hlt:k<s.size
   ·cases hok:nbB ((s[k]'hlt).toNat:Int)
    ·have HC:Hid (∀w,Calls Tryz.prog 216 #[.int .u8 ((s[k]'hlt).toNat:Int)] w fun e w'=>e=.returned (.bool false)/\w=w'):=fun w=>by rw[<-hok];exact yX _ w
     have HB:Hid (okB k ((s[k]'hlt).toNat:Int)=false):=by unfold okB;rw[if_neg af];exact hok
     clear hok;go_wp2_with (go_at_call 216;refine (HC.out _).mono ?_;rintro e w1 ⟨rfl,rfl⟩);go_ret;exact⟨false,rfl,gT hlt HB.out,rfl⟩
    ·have HC:Hid (∀w,Calls Tryz.prog 216 #[.int .u8 ((s[k]'hlt).toNat:Int)] w fun e w'=>e=.returned (.bool true)/\w=w'):=fun w=>by rw[<-hok];exact yX _ w
     have HB:Hid (okB k ((s[k]'hlt).toNat:Int)=true):=by unfold okB;rw[if_neg af];exact hok
     clear hok;go_wp2_with (go_at_call 216;refine (HC.out _).mono ?_;rintro e w1 ⟨rfl,rfl⟩);go_round;case rel=>exact⟨k+1,by omega,by omega,by go_num,lh hlt HB.out HA.out⟩
     case measure=>simp[intOf];omega
   ·exact xW

def ay (w:World) (a:Option Addr) (len cap:Nat) (zs:List ByteArray):Prop:=
 zs.length=len/\len<=cap/\cap<=9223372036854775807/\(∀(j:Nat) x,zs[j]?=some x->x.size<=9223372036854775807)/\
 (zs=[]\/∃b o,a=some ⟨b,o,none⟩/\b<w.heap.size/\∀(j:Nat) x,zs[j]?=some x->w.cell? ⟨b,o+j,none⟩=some (.string x))
theorem ak {w w':World} (hb:Below w.heap.size w w') {b o:Nat} (h:b<w.heap.size):w'.cell? ⟨b,o,none⟩=w.cell? ⟨b,o,none⟩:=by
 simp[Hc,hb.block b h]
theorem ay.below {w w':World} {a:Option Addr} {len cap:Nat} {zs:List ByteArray} (h:ay w a len cap zs) (hb:Below w.heap.size w w'):ay w' a len cap zs:=by
 obtain⟨h1,h2,h3,h4,h5⟩:=h;refine⟨h1,h2,h3,h4,?_⟩;rcases h5 with h5|⟨b,o,rfl,hlt,hc⟩
 ·exact Or.inl h5
 ·exact Or.inr ⟨b,o,rfl,FC hlt hb.size,fun j x hx=>by rw[ak hb hlt];exact hc j x hx⟩
theorem ay.at {w:World} {a:Option Addr} {len cap:Nat} {zs:List ByteArray} (h:ay w a len cap zs) {k:Nat} (hk:k<len):
  ∃b o x,a=some ⟨b,o,none⟩/\b<w.heap.size/\zs[k]?=some x/\w.cell? ⟨b,o+k,none⟩=some (.string x)/\x.size<=9223372036854775807:=by
 obtain⟨h1,h2,h3,h4,h5⟩:=h;have hx:zs[k]?=some (zs[k]'(by omega)):=Fs _;rcases h5 with h5|⟨b,o,rfl,hlt,hc⟩
 ·subst h5;simp at h1;omega
 ·exact⟨b,o,_,rfl,hlt,hx,hc k _ hx,h4 k _ hx⟩

def Eu (left:Int) (p:Prop) (w:World) (e:Ending) (w':World):Prop:=∃r:Int,e=.returned (.int .i64 r)/\(r= -1\/(0<=r/\r<=left/\p))/\w=w'

theorem rY (a:Option Addr) (len cap:Nat) (zs:List ByteArray) (left:Int) (w:World) (hr:ay w a len cap zs) (h0:0<=left) (h1:left<=1048576):
  Calls Tryz.prog 84 #[.slice a len cap,.int .i64 left] w (Eu left ((len:Int)<=left) w):=by
 have HR:Hid (ay w a len cap zs):=hr;have hlc:=Fx hr.2.1 hr.2.2.1;clear hr;by_cases hl:left<(len:Int)
 ·go_enter Tryz.func84,Tryz.ntmps84;go_wp2;go_ret;exact⟨-1,rfl,.inl rfl,rfl⟩
 go_enter Tryz.func84,Tryz.ntmps84;go_wp2;go_loop [1,5] (fun l i=> ∃(k:Nat) (m:Int),k<=len/\l=.int .i64 m/\i=.int .i64 k/\0<=m/\m<=left) (fun _ i=>len - (intOf i).toNat);case atStart=>exact⟨0,left - len,by omega,by go_num,rfl,by omega,by omega⟩
 case round=>
  obtain⟨k,m,hk,rfl,rfl,hm0,hm1⟩:=hrel;by_cases hlt:k<len
  ·obtain⟨b,o,x,rfl,hb,hx,hc,hsz⟩:=HR.at hlt;by_cases hs:m<(x.size:Int)
   ·go_wp2;go_ret;exact⟨-1,rfl,.inl rfl,rfl⟩
   ·go_wp2;exact⟨⟨k+1,m - x.size,by omega,by go_num,by go_num,by omega,by omega⟩,by simp[intOf];omega⟩
  ·go_wp2;go_ret;exact⟨m,rfl,.inr ⟨hm0,hm1,by omega⟩,rfl⟩

theorem fC:(Tryz.prog.info? 9).map (fun i=>(i.zero,i.size,i.bytes))=some (some (.string ⟨#[]⟩),1,16):=by kernel_rfl
theorem aA {w:World} {g i:Nat} {cs:Array Value} {t:TypeId} {fr:Nat×Nat} (h:w.heap[g]?=some (.cells cs t fr)) (v:Value):(w.setCell ⟨g,i,none⟩ v).heap[g]?=some (.cells (cs.setIfInBounds i v) t fr):=by
 obtain⟨hl,hh⟩:=FE.1 h;unfold Gc;simp[Array.getElem?_modify,h]
theorem take_set {α:Type} {zs Z:List α} {k:Nat} {x:α} (h:zs[k]?=some x) (hk:k<zs.length) (hZ:Z.length=zs.length):
  ((zs.take k++Z.drop k).toArray.setIfInBounds k x)=(zs.take (k+1)++Z.drop (k+1)).toArray:=by
 apply Array.ext';have hl:(zs.take k).length=k:=by rw[FO];omega
 have hd:Z.drop k=Z[k]'(by omega) ::Z.drop (k+1):=GY af;rw[FZ,h,hd];simp only[List.setIfInBounds_toArray,List.set_append,hl,Nat.lt_irrefl,if_false,Nat.sub_self,FF,Option.toList_some,G4,List.singleton_append]

theorem tP {w:World} {B g n:Nat} {e:TypeId} {xs:List Value} (h:w.ownsRow B e 1 (.slice (some ⟨g,0,none⟩) n n) n xs):
  w.heap[g]?=some (.cells xs.toArray e (0,0))/\xs.length=n/\B<=g:=by
 exact CB

theorem lL (a:Option Addr) (len cap:Nat) (zs:List ByteArray) (w:World) (hr:ay w a len cap zs) (hl:len<=1048576):
  Calls Tryz.prog 86 #[.slice a len cap] w fun e w'=>e=.returned (.slice (some ⟨w.heap.size,0,none⟩) len len)/\w'.heap[w.heap.size]?=some (.cells (zs.map FH).toArray 9 (0,0))/\Below w.heap.size w w':=by
 have HR:Hid (ay w a len cap zs):=hr;have hzl:=hr.1;clear hr;obtain⟨i0,hi,hz0,hz1,hz2⟩:=info_parts fC;go_enter Tryz.func86,Tryz.ntmps86;go_wp2_with (at_make;refine wpList_make_full _ rfl _ _ 55 rfl w.heap.size 9 i0 (.string ⟨#[]⟩) 1 Tryz.underlying55 hi hz0 hz1 _ _ _ _ len rfl rfl af af gH cC (Fq _) ?_);intro w1 hown hgrow;obtain⟨hg1,hz,-⟩:=tP hown;obtain⟨Z,hZ⟩:∃Z,Z=(madeCells #[FH ⟨#[]⟩] len).toList:=⟨_,rfl⟩;have hnx1:=(Ft _ _).grown hgrow (Fq _) (fun k hk=>by cases hk);rw[<-hZ] at hg1 hz;have HG:Hid (w1.heap[w.heap.size]?=some (.cells (((zs.map FH).take 0++Z.drop 0)).toArray 9 (0,0))):=by simpa[Hid] using hg1
 have HB:Hid (Below w.heap.size w w1):=hnx1;clear hZ hown hgrow hg1 hi hz0 hz1 hz2 hnx1;go_wp2;go_loopw [4] (fun i wr=> ∃k:Nat,k<=len/\i=.int .i64 k/\Hid (wr.heap[w.heap.size]?=some (.cells (((zs.map FH).take k++Z.drop k)).toArray 9 (0,0)))/\Hid (Below w.heap.size w wr)) (fun i _=>len - (intOf i).toNat);case atStart=>exact⟨0,by omega,rfl,HG,HB⟩
 case round=>
  obtain⟨k,hk,rfl,HG,HB⟩:=hrel;by_cases hlt:k<len
  ·obtain⟨b,o,x,rfl,hb,hx,hc,hsz⟩:=(HR.below HB.out).at hlt;have hlz:(zs.map FH).length=len:=by simp[hzl]
   have hcl:(((zs.map FH).take k++Z.drop k)).length=len:=by rw[F5,FO,GH,hlz,hz];omega
   have hcw:wr.cell? ⟨w.heap.size,k,none⟩=some ((((zs.map FH).take k++Z.drop k))[k]'(by omega)):=by
    simp only[Hc,HG.out];simp
   have hfw:wr.frozen? ⟨w.heap.size,k,none⟩=false:=by simp[World.frozen?,HG.out]
   go_wp2;refine⟨⟨k+1,by omega,by go_num,?_,HB.setCell (Fq _) _⟩,by simp[intOf];omega⟩;show _=_;rw[aA HG.out,take_set (by simp[hx]) af af]
  ·obtain rfl:k=len:=af
   go_wp2;go_ret;refine⟨rfl,?_,HB.out⟩;rw[HG.out,FD (by simp[hzl]),List.drop_eq_nil_of_le af,GC]

theorem bB {a b:ByteArray} (h:¬a=b):(a.toList==b.toList)=false:=by
 rw[beq_eq_false_iff_ne];intro e;rw[Iz,Iz] at e;exact h (by cases a;cases b;simp at e;rw[e])
def aq (p:Prop) (w:World) (e:Ending) (w':World):Prop:=∃r:Bool,e=.returned (.bool r)/\(r=true↔p)/\Below w.heap.size w w'

theorem sK (a a':Option Addr) (len len' cap cap':Nat) (zs zs':List ByteArray) (w:World) (hr:ay w a len cap zs) (hr':ay w a' len' cap' zs'):
  Calls Tryz.prog 100 #[.slice a len cap,.slice a' len' cap'] w (aq (zs=zs') w):=by
 have HR:Hid (ay w a len cap zs):=hr;have HR':Hid (ay w a' len' cap' zs'):=hr';have hlc:=Fx hr.2.1 hr.2.2.1;have hlc':=Fx hr'.2.1 hr'.2.2.1;have hzl:=hr.1;have hzl':=hr'.1;clear hr hr';by_cases hne:len=len'
 ·subst hne;go_enter Tryz.func100,Tryz.ntmps100;go_wp2;go_loopw [5] (fun i wr=> ∃k:Nat,k<=len/\i=.int .i64 k/\Hid (∀j,j<k->zs[j]?=zs'[j]?)/\Hid (Below w.heap.size w wr)) (fun i _=>len - (intOf i).toNat);case atStart=>exact⟨0,by omega,rfl,fun j hj=>by omega,Ft _ _⟩
  case round=>
   obtain⟨k,hk,rfl,HE,HB⟩:=hrel;by_cases hlt:k<len
   ·obtain⟨b,o,x,rfl,hb,hx,hc,hsz⟩:=(HR.below HB.out).at hlt;obtain⟨b',o',x',rfl,hb',hx',hc',hsz'⟩:=(HR'.below HB.out).at hlt;by_cases hxx:x=x'
    ·have hq:(x.toList==x'.toList)=true:=by rw[hxx];simp
     go_wp2;go_quiet (fail);go_wp2;refine⟨⟨k+1,by omega,by go_num,fun j hj=>?_,below_drewN HB.out _⟩,by simp[intOf];omega⟩;by_cases e:j=k
     ·subst e;rw[hx,hx',hxx]
     ·exact HE.out j af
    ·have hq:=bB hxx;go_wp2;go_quiet (fail);go_wp2;go_ret;refine⟨false,rfl,⟨fun h=>bT,fun h=>?_⟩,below_drewN HB.out _⟩;subst h;rw[hx] at hx';exact absurd (Fo hx') hxx
   ·obtain rfl:k=len:=af
    go_wp2;go_ret;refine⟨true,rfl,⟨fun _=>IG fun j=>?_,fun _=>rfl⟩,HB.out⟩;by_cases hj:j<zs.length
    ·exact HE.out j af
    ·rw[Gl af,Gl af]
 ·have hne':¬(len:Int)=len':=af
  go_enter Tryz.func100,Tryz.ntmps100;go_wp2;go_ret;exact⟨false,rfl,⟨fun h=>bT,fun h=>absurd (congrArg List.length h) af⟩,Ft _ _⟩

def fm (zs:List ByteArray):Prop:=∀(i:Nat) x,zs[i]?=some x->aO x/\∀y,0<i->zs[i - 1]?=some y->Fz y.toList x.toList=true
def dF (zs:List ByteArray) (most:Int):Prop:=(zs.length:Int)<=most/\fm zs
theorem gW:∀x y:List UInt8,(Fz y x || y==x)=!Fz x y
 | [],[]=>by simp[Fz]
 | _ ::_,[]=>by simp[Fz]
 | [],_ ::_=>by simp[Fz]
 | a ::x,b ::y=>by
  have ih:=gW x y;simp only[Fz];rcases Nat.lt_trichotomy a.toNat b.toNat with h|h|h
  ·have h1:=Ib.2 h;have h2:¬b<a:=fun h'=>by have:=Ib.1 h';omega
   have h3:¬b=a:=fun h'=>by subst h';omega
   simp[h1,h2,h3]
  ·obtain rfl:a=b:=UInt8.toNat_inj.1 h;have h2:¬a<a:=fun h'=>by have:=Ib.1 h';omega
   simp[h2];simpa using ih
  ·have h1:=Ib.2 h;have h2:¬a<b:=fun h'=>by have:=Ib.1 h';omega
   have h3:¬a=b:=fun h'=>by subst h';omega
   simp[h1,h2,h3]

theorem cJ.yes {p:Prop} {w w':World} {e:Ending} (h:cJ p w e w') (hp:p):e=.returned (.bool true)/\w'=w:=by
 obtain⟨r,rfl,hr,rfl⟩:=h;exact⟨by rw[hr.2 hp],rfl⟩
theorem cJ.no {p:Prop} {w w':World} {e:Ending} (h:cJ p w e w') (hp:¬p):e=.returned (.bool false)/\w'=w:=by
 obtain⟨r,rfl,hr,rfl⟩:=h;cases r
 ·exact⟨rfl,rfl⟩
 ·exact absurd (hr.1 rfl) hp
theorem fm.step {zs:List ByteArray} {k:Nat} {x:ByteArray} (h:fm (zs.take k)) (hx:zs[k]?=some x) (hn:aO x) (hy:∀y,0<k->zs[k - 1]?=some y->Fz y.toList x.toList=true):fm (zs.take (k+1)):=by
 intro i z hz;rw[FP] at hz;split at hz
 ·rename_i hi;by_cases e:i=k
  ·subst e;rw[hx] at hz;obtain rfl:=Fo hz;refine⟨hn,fun y h0 h1=>hy y h0 ?_⟩;rw[FP,if_pos af] at h1;exact h1
  ·have:=h i z (by rw[FP,if_pos af];exact hz);refine⟨this.1,fun y h0 h1=>this.2 y h0 ?_⟩;rw[FP,if_pos af] at h1 ⊢;exact h1
 ·cases hz

theorem eG (a:Option Addr) (len cap:Nat) (zs:List ByteArray) (most:Int) (w:World) (hr:ay w a len cap zs):
  Calls Tryz.prog 175 #[.slice a len cap,.int .i64 most] w (aq (dF zs most) w):=by
 have HR:Hid (ay w a len cap zs):=hr;have hlc:=Fx hr.2.1 hr.2.2.1;have hzl:=hr.1;clear hr;go_enter Tryz.func175,Tryz.ntmps175;go_wp2;go_loopw [5] (fun i wr=> ∃k:Nat,k<=len/\i=.int .i64 k/\Hid (fm (zs.take k))/\Hid (Below w.heap.size w wr)) (fun i _=>len - (intOf i).toNat);case atStart=>exact⟨0,by omega,rfl,fun i x h=>by simp at h,Ft _ _⟩
 case round=>
  obtain⟨k,hk,rfl,HE,HB⟩:=hrel;by_cases hlt:k<len
  ·obtain⟨b,o,x,rfl,hb,hx,hc,hsz⟩:=(HR.below HB.out).at hlt;by_cases hn:aO x
   ·have HY:Hid (∀w,Calls Tryz.prog 173 #[.string x] w fun e w'=>e=.returned (.bool true)/\w'=w):=fun w=>(bh x w hsz).mono fun _ _ h=>h.yes hn;by_cases hk0:0<k
    ·obtain⟨b',o',y,e',hb',hy,hcy,-⟩:=(HR.below HB.out).at (k:=k - 1) af;cases e';have ek:((k:Int) - 1).toNat=k - 1:=af
     cases hless:Fz y.toList x.toList
     ·go_wp2;go_quiet ((go_at_call 173;exact FW (HY.out _)));go_wp2;go_ret;exact⟨false,rfl,⟨fun h=>bT,fun h=>absurd ((h.2 k x hx).2 y hk0 hy) (by rw[hless];decide)⟩,below_drewN HB.out _⟩
     ·go_wp2;go_quiet ((go_at_call 173;exact FW (HY.out _)));go_wp2;exact⟨⟨k+1,by omega,by go_num,HE.step hx hn (fun y' _ hy'=>by rw[hy] at hy';obtain rfl:=Fo hy';exact hless),below_drewN HB.out _⟩,by simp[intOf];omega⟩
    ·have hd:decide ((0:Int)<k)=false:=by simp;omega
     go_wp2;go_quiet ((go_at_call 173;exact FW (HY.out _)));go_wp2;exact⟨⟨k+1,by omega,by go_num,HE.step hx hn (fun y' h0 _=>absurd h0 hk0),below_drewN HB.out _⟩,by simp[intOf];omega⟩
   ·have HY:Hid (∀w,Calls Tryz.prog 173 #[.string x] w fun e w'=>e=.returned (.bool false)/\w'=w):=fun w=>(bh x w hsz).mono fun _ _ h=>h.no hn;go_wp2;go_quiet ((go_at_call 173;exact FW (HY.out _)));go_wp2;go_ret;exact⟨false,rfl,⟨fun h=>bT,fun h=>absurd (h.2 k x hx).1 hn⟩,below_drewN HB.out _⟩
  ·obtain rfl:k=len:=af
   go_wp2;go_ret;refine⟨_,rfl,?_,HB.out⟩;have hR:=HE.out;rw[FD af] at hR;unfold dF;simp[hR,hzl]

theorem oC {x:ByteArray} (h:1<=x.size):Fz (⟨#[]⟩:ByteArray).toList x.toList=true:=by
 rw[Iz,Iz];rw[Lib.size_eq] at h;cases e:x.data.toList with
 | nil=>rw[e] at h;simp at h
 | cons a l=>rfl

theorem eN (a:Option Addr) (len cap:Nat) (zs:List ByteArray) (most:Int) (w:World) (hr:ay w a len cap zs):
  Calls Tryz.prog 222 #[.slice a len cap,.int .i64 most] w (cJ (dF zs most) w):=by
 have HR:Hid (ay w a len cap zs):=hr;have hlc:=Fx hr.2.1 hr.2.2.1;have hzl:=hr.1;clear hr;by_cases hm:most<(len:Int)
 ·go_enter Tryz.func222,Tryz.ntmps222;go_wp2;go_ret;exact⟨false,rfl,⟨fun h=>bT,fun h=>absurd h.1 af⟩,rfl⟩
 go_enter Tryz.func222,Tryz.ntmps222;go_wp2;go_loop [5,14] (fun p i=> ∃(k:Nat) (y:ByteArray),k<=len/\p=.string y/\i=.int .i64 k/\Hid (k=0->y=⟨#[]⟩)/\Hid (0<k->zs[k - 1]?=some y)/\Hid (fm (zs.take k))) (fun _ i=>len - (intOf i).toNat);case atStart=>exact⟨0,_,by omega,rfl,rfl,fun _=>rfl,fun h=>absurd h af,fun i x h=>by simp at h⟩
 case round=>
  obtain⟨k,y,hk,rfl,rfl,H0,H1,HE⟩:=hrel;by_cases hlt:k<len
  ·obtain⟨b,o,x,rfl,hb,hx,hc,hsz⟩:=HR.at hlt;by_cases hn:aO x
   ·have HY:Hid (∀w,Calls Tryz.prog 204 #[.string x] w fun e w'=>e=.returned (.bool true)/\w'=w):=fun w=>(a_ x w hsz).mono fun _ _ h=>h.yes hn;have htri:=gW y.toList x.toList;cases hless:Fz y.toList x.toList
    ·rw[hless] at htri;go_wp2_with (go_at_call 204;refine (HY.out _).mono ?_;rintro e w1 ⟨rfl,rfl⟩);go_ret;refine⟨false,rfl,⟨fun h=>bT,fun h=>?_⟩,rfl⟩;by_cases hk0:0<k
     ·exact absurd ((h.2 k x hx).2 y hk0 (H1.out hk0)) (by rw[hless];decide)
     ·have:=H0.out af;subst this;rw[oC hn.1] at hless;cases hless
    ·rw[hless] at htri;go_wp2_with (go_at_call 204;refine (HY.out _).mono ?_;rintro e w1 ⟨rfl,rfl⟩);refine⟨⟨k+1,x,by omega,rfl,by go_num,fun h=>absurd h af,fun _=>hx,HE.step hx hn (fun y' h0 hy'=>?_)⟩,by simp[intOf];omega⟩;rw[H1.out h0] at hy';obtain rfl:=Fo hy';exact hless
   ·have HY:Hid (∀w,Calls Tryz.prog 204 #[.string x] w fun e w'=>e=.returned (.bool false)/\w'=w):=fun w=>(a_ x w hsz).mono fun _ _ h=>h.no hn;go_wp2_with (go_at_call 204;refine (HY.out _).mono ?_;rintro e w1 ⟨rfl,rfl⟩);go_ret;exact⟨false,rfl,⟨fun h=>bT,fun h=>absurd (h.2 k x hx).1 hn⟩,rfl⟩
  ·obtain rfl:k=len:=af
   have hR:=HE.out;rw[FD af] at hR;go_wp2;go_ret;exact⟨true,rfl,⟨fun _=>⟨by omega,hR⟩,fun _=>rfl⟩,rfl⟩

def cV (s:ByteArray):Prop:=s=⟨#[]⟩\/aO s
def Inn (n a b:Int):Prop:=a<=n/\n<=b

theorem mm (n a b:Int) (w:World):
  Calls Tryz.prog 138 #[.int .i64 n,.int .i64 a,.int .i64 b] w (cJ (Inn n a b) w):=by
 go_enter Tryz.func138,Tryz.ntmps138;go_wp2;all_goals (go_ret;exact⟨_,rfl,by unfold Inn;simp;omega,rfl⟩)

theorem cd (n a b:Int) (w:World):
  Calls Tryz.prog 115 #[.int .i64 n,.int .i64 a,.int .i64 b] w (cJ (Inn n a b) w):=by
 go_enter Tryz.func115,Tryz.ntmps115;go_wp2;all_goals (go_ret;exact⟨_,rfl,by unfold Inn;simp;omega,rfl⟩)

theorem oG (n:Int) (w:World):
  Calls Tryz.prog 174 #[.int .i64 n] w (cJ (Inn n 0 1000000) w):=by
 go_enter Tryz.func174,Tryz.ntmps174;exact qH

theorem fB (n:Int) (w:World):
  Calls Tryz.prog 177 #[.int .i64 n] w (cJ (Inn n 1 1048576) w):=by
 go_enter Tryz.func177,Tryz.ntmps177;exact qH

theorem lj (n:Int) (w:World):
  Calls Tryz.prog 109 #[.int .i64 n] w (cJ (Inn n 0 1000000) w):=by
 go_enter Tryz.func109,Tryz.ntmps109;exact qH

theorem aa {p:Prop} (h:p):Hid p:=h
theorem bc {s:ByteArray} (h:¬s=⟨#[]⟩):s.toList.isEmpty=false:=by
 have:=bB h;rw[Iz] at this ⊢;cases e:s.data.toList with
 | nil=>exact absurd (by cases s;simp at e;rw[e]) h
 | cons a l=>rfl
theorem sH:(⟨#[]⟩:ByteArray).toList.isEmpty=true:=by rw[Iz];rfl
theorem cD {w w1:World} {vs:Array Value} {T:TypeId} (hb:Below (w.alloc (.cells vs T)).heap.size (w.alloc (.cells vs T)) w1):
  w1.heap[w.heap.size]?=some (.cells vs T (0,0))/\Below w.heap.size w w1/\w.heap.size<w1.heap.size:=by
 have hs:(w.alloc (.cells vs T)).heap.size=w.heap.size+1:=aR
 have h1:=hb.size;refine⟨?_,?_,by omega⟩
 ·rw[hb.block _ af];show (w.heap.push _)[w.heap.size]?=_;simp
 ·exact ((Ft w.heap.size w).alloc (Fq _) _).trans (hb.mono af)
theorem il {w w1:World} {vs:Array Value} {T:TypeId} (hb:Below (w.alloc (.cells vs T)).drew.heap.size (w.alloc (.cells vs T)).drew w1):
  w1.heap[w.heap.size]?=some (.cells vs T (0,0))/\Below w.heap.size w w1/\w.heap.size<w1.heap.size:=cD ⟨hb.os,hb.tape,hb.output,hb.size,hb.block⟩
theorem aw {w:World} {b:Nat} {vs:Array Value} {T:TypeId} {f:Nat×Nat} (h:w.heap[b]?=some (.cells vs T f)) (i:Nat):w.cell? ⟨b,i,none⟩=vs[i]?:=by simp[Hc,h]
theorem ck0 {w:World} {b:Nat} {T:TypeId} {f:Nat×Nat} {v0:Value} {r:List Value} (h:w.heap[b]?=some (.cells (v0 ::r).toArray T f)):w.cell? ⟨b,0,none⟩=some v0:=aw h 0
theorem ck1 {w:World} {b:Nat} {T:TypeId} {f:Nat×Nat} {v0 v1:Value} {r:List Value} (h:w.heap[b]?=some (.cells (v0::v1 ::r).toArray T f)):w.cell? ⟨b,1,none⟩=some v1:=aw h 1
theorem ck2 {w:World} {b:Nat} {T:TypeId} {f:Nat×Nat} {v0 v1 v2:Value} {r:List Value} (h:w.heap[b]?=some (.cells (v0::v1::v2 ::r).toArray T f)):w.cell? ⟨b,2,none⟩=some v2:=aw h 2
theorem ck3 {w:World} {b:Nat} {T:TypeId} {f:Nat×Nat} {v0 v1 v2 v3:Value} {r:List Value} (h:w.heap[b]?=some (.cells (v0::v1::v2::v3 ::r).toArray T f)):w.cell? ⟨b,3,none⟩=some v3:=aw h 3
theorem ck4 {w:World} {b:Nat} {T:TypeId} {f:Nat×Nat} {v0 v1 v2 v3 v4:Value} {r:List Value} (h:w.heap[b]?=some (.cells (v0::v1::v2::v3::v4 ::r).toArray T f)):w.cell? ⟨b,4,none⟩=some v4:=aw h 4
theorem ck5 {w:World} {b:Nat} {T:TypeId} {f:Nat×Nat} {v0 v1 v2 v3 v4 v5:Value} {r:List Value} (h:w.heap[b]?=some (.cells (v0::v1::v2::v3::v4::v5 ::r).toArray T f)):w.cell? ⟨b,5,none⟩=some v5:=aw h 5
theorem ck6 {w:World} {b:Nat} {T:TypeId} {f:Nat×Nat} {v0 v1 v2 v3 v4 v5 v6:Value} {r:List Value} (h:w.heap[b]?=some (.cells (v0::v1::v2::v3::v4::v5::v6 ::r).toArray T f)):w.cell? ⟨b,6,none⟩=some v6:=aw h 6
theorem ck7 {w:World} {b:Nat} {T:TypeId} {f:Nat×Nat} {v0 v1 v2 v3 v4 v5 v6 v7:Value} {r:List Value} (h:w.heap[b]?=some (.cells (v0::v1::v2::v3::v4::v5::v6::v7 ::r).toArray T f)):w.cell? ⟨b,7,none⟩=some v7:=aw h 7
theorem ck8 {w:World} {b:Nat} {T:TypeId} {f:Nat×Nat} {v0 v1 v2 v3 v4 v5 v6 v7 v8:Value} {r:List Value} (h:w.heap[b]?=some (.cells (v0::v1::v2::v3::v4::v5::v6::v7::v8 ::r).toArray T f)):w.cell? ⟨b,8,none⟩=some v8:=aw h 8
theorem Ep {w:World} {b:Nat} {T:TypeId} {f:Nat×Nat} {v0 v1 v2 v3 v4 v5 v6 v7 v8 v9 v10 v11 v12:Value} {r:List Value} (h:w.heap[b]?=some (.cells (v0::v1::v2::v3::v4::v5::v6::v7::v8::v9::v10::v11::v12 ::r).toArray T f)):w.cell? ⟨b,12,none⟩=some v12:=aw h 12
theorem E4 {w:World} {b:Nat} {T:TypeId} {f:Nat×Nat} {v0 v1 v2 v3 v4 v5 v6 v7 v8 v9 v10 v11 v12 v13 v14 v15:Value} {r:List Value} (h:w.heap[b]?=some (.cells (v0::v1::v2::v3::v4::v5::v6::v7::v8::v9::v10::v11::v12::v13::v14::v15 ::r).toArray T f)):w.cell? ⟨b,15,none⟩=some v15:=aw h 15
theorem al (w:World) (o:Obj):Below w.heap.size w (w.alloc o):=(Ft _ _).alloc (Fq _) o

theorem dW (s:ByteArray) (w:World) (hs:s.size<=9223372036854775807):
  Calls Tryz.prog 176 #[.string s] w (cJ (cV s) w):=by
 by_cases h0:s=⟨#[]⟩
 ·subst h0;go_enter Tryz.func176,Tryz.ntmps176;go_wp2;go_ret;exact⟨_,rfl,by unfold cV;simp,rfl⟩
 ·have hq:=bc h0;go_enter Tryz.func176,Tryz.ntmps176;go_wp2_with (go_at_call 173;refine (bh _ _ hs).mono ?_;rintro e w1 ⟨r,rfl,hr,rfl⟩);go_ret;exact⟨r,rfl,by unfold cV;simp[h0,hr],rfl⟩

theorem cQ (s:ByteArray) (w:World) (hs:s.size<=9223372036854775807):
  Calls Tryz.prog 198 #[.string s] w (cJ (cV s) w):=by
 by_cases h0:s=⟨#[]⟩
 ·subst h0;go_enter Tryz.func198,Tryz.ntmps198;go_wp2;go_ret;exact⟨_,rfl,by unfold cV;simp,rfl⟩
 ·have hq:=bc h0;go_enter Tryz.func198,Tryz.ntmps198;go_wp2_with (go_at_call 204;refine (a_ _ _ hs).mono ?_;rintro e w1 ⟨r,rfl,hr,rfl⟩);go_ret;exact⟨r,rfl,by unfold cV;simp[h0,hr],rfl⟩

def rR (n z:ByteArray) (c s u:Int) (zs:List ByteArray):Prop:=aO n/\aO z/\Inn c 0 1000000/\Inn s 0 8/\Inn u 0 1000000/\dF zs 8
theorem fx (n z:ByteArray) (c s u:Int) (d:Bool) (a:Option Addr) (len cap:Nat) (zs:List ByteArray) (w:World) (hn:n.size<=9223372036854775807) (hz:z.size<=9223372036854775807) (hr:ay w a len cap zs):
  Calls Tryz.prog 139 #[.agg #[.string n,.string z,.int .i64 c,.int .i64 s,.int .i64 u,.bool d,.slice a len cap]] w (aq (rR n z c s u zs) w):=by
 have HR:Hid (ay w a len cap zs):=hr;clear hr;go_enter Tryz.func139,Tryz.ntmps139;go_wp2_with fail;refine (bh n _ hn).mono ?_;rintro e w1 ⟨r,rfl,hr,rfl⟩;by_cases hq:r=true;case neg=>
  exact fe
 have h0:=aa (hr.1 hq);subst hq;clear hr;go_wp2_with fail;refine (bh z _ hz).mono ?_;rintro e w1 ⟨r,rfl,hr,rfl⟩;by_cases hq:r=true;case neg=>
  exact gN
 have h1:=aa (hr.1 hq);subst hq;clear hr;go_wp2_with fail;refine (oG c _).mono ?_;rintro e w1 ⟨r,rfl,hr,rfl⟩;by_cases hq:r=true;case neg=>
  exact gO
 have h2:=aa (hr.1 hq);subst hq;clear hr;go_wp2_with fail;refine (mm s 0 8 _).mono ?_;rintro e w1 ⟨r,rfl,hr,rfl⟩;by_cases hq:r=true;case neg=>
  exact lf
 have h3:=aa (hr.1 hq);subst hq;clear hr;go_wp2_with fail;refine (lj u _).mono ?_;rintro e w1 ⟨r,rfl,hr,rfl⟩;by_cases hq:r=true;case neg=>
  exact nY
 have h4:=aa (hr.1 hq);subst hq;clear hr;go_wp2_with fail;refine (eG a len cap zs 8 _ (HR.below (al _ _))).mono ?_;rintro e w1 ⟨r,rfl,hr,hb⟩;go_wp2_with fail;go_ret;exact⟨r,rfl,⟨fun h=>⟨h0.out,h1.out,h2.out,h3.out,h4.out,hr.1 h⟩,fun h=>hr.2 h.2.2.2.2.2⟩,(cD hb).2.1⟩

theorem tJ (n z:ByteArray) (c s u:Int) (d:Bool) (a:Option Addr) (len cap:Nat) (zs:List ByteArray) (w:World) (hn:n.size<=9223372036854775807) (hz:z.size<=9223372036854775807) (hr:ay w a len cap zs):
  Calls Tryz.prog 245 #[.agg #[.string n,.string z,.int .i64 c,.int .i64 s,.int .i64 u,.bool d,.slice a len cap]] w (aq (rR n z c s u zs) w):=by
 have HR:Hid (ay w a len cap zs):=hr;clear hr;go_enter Tryz.func245,Tryz.ntmps245;go_wp2_with fail;refine (a_ n _ hn).mono ?_;rintro e w1 ⟨r,rfl,hr,rfl⟩;by_cases hq:r=true;case neg=>
  exact fe
 have h0:=aa (hr.1 hq);subst hq;clear hr;go_wp2_with fail;refine (a_ z _ hz).mono ?_;rintro e w1 ⟨r,rfl,hr,rfl⟩;by_cases hq:r=true;case neg=>
  exact gN
 have h1:=aa (hr.1 hq);subst hq;clear hr;go_wp2_with fail;refine (cd c 0 1000000 _).mono ?_;rintro e w1 ⟨r,rfl,hr,rfl⟩;by_cases hq:r=true;case neg=>
  exact gO
 have h2:=aa (hr.1 hq);subst hq;clear hr;go_wp2_with fail;refine (cd s 0 8 _).mono ?_;rintro e w1 ⟨r,rfl,hr,rfl⟩;by_cases hq:r=true;case neg=>
  exact lf
 have h3:=aa (hr.1 hq);subst hq;clear hr;go_wp2_with fail;refine (cd u 0 1000000 _).mono ?_;rintro e w1 ⟨r,rfl,hr,rfl⟩;by_cases hq:r=true;case neg=>
  exact nY
 have h4:=aa (hr.1 hq);subst hq;clear hr;go_wp2_with fail;refine (eN a len cap zs 8 _ (HR.below (al _ _))).mono ?_;rintro e w1 ⟨r,rfl,hr,rfl⟩;go_wp2_with fail;go_ret;exact⟨r,rfl,⟨fun h=>⟨h0.out,h1.out,h2.out,h3.out,h4.out,hr.1 h⟩,fun h=>hr.2 h.2.2.2.2.2⟩,al _ _⟩

def ic (n z:ByteArray):Prop:=aO n/\cV z

theorem eI (n z:ByteArray) (x y:Bool) (w:World) (hn:n.size<=9223372036854775807) (hz:z.size<=9223372036854775807):
  Calls Tryz.prog 140 #[.agg #[.string n,.bool x,.bool y,.string z]] w (aq (ic n z) w):=by
 go_enter Tryz.func140,Tryz.ntmps140;go_wp2_with fail;refine (bh n _ hn).mono ?_;rintro e w1 ⟨r,rfl,hr,rfl⟩;by_cases hq:r=true;case neg=>
  exact fe
 have h0:=aa (hr.1 hq);subst hq;clear hr;go_wp2_with fail;refine (dW z _ hz).mono ?_;exact wX

theorem gi (n z:ByteArray) (x y:Bool) (w:World) (hn:n.size<=9223372036854775807) (hz:z.size<=9223372036854775807):
  Calls Tryz.prog 203 #[.agg #[.string n,.bool x,.bool y,.string z]] w (aq (ic n z) w):=by
 go_enter Tryz.func203,Tryz.ntmps203;go_wp2_with fail;refine (a_ n _ hn).mono ?_;rintro e w1 ⟨r,rfl,hr,rfl⟩;by_cases hq:r=true;case neg=>
  exact fe
 have h0:=aa (hr.1 hq);subst hq;clear hr;go_wp2_with fail;refine (cQ z _ hz).mono ?_;exact wX

def fI (n:ByteArray) (z:Int) (k v:ByteArray):Prop:=aO n/\Inn z 1 1048576/\aO k/\cV v

theorem eJ (n:ByteArray) (z:Int) (k:ByteArray) (x:Bool) (v:ByteArray) (w:World) (hn:n.size<=9223372036854775807) (hk:k.size<=9223372036854775807) (hv:v.size<=9223372036854775807):
  Calls Tryz.prog 142 #[.agg #[.string n,.int .i64 z,.string k,.bool x,.string v]] w (aq (fI n z k v) w):=by
 go_enter Tryz.func142,Tryz.ntmps142;go_wp2_with fail;refine (bh n _ hn).mono ?_;rintro e w1 ⟨r,rfl,hr,rfl⟩;by_cases hq:r=true;case neg=>
  exact fe
 have h0:=aa (hr.1 hq);subst hq;clear hr;go_wp2_with fail;refine (fB z _).mono ?_;rintro e w1 ⟨r,rfl,hr,rfl⟩;by_cases hq:r=true;case neg=>
  exact gN
 have h1:=aa (hr.1 hq);subst hq;clear hr;go_wp2_with fail;refine (bh k _ hk).mono ?_;rintro e w1 ⟨r,rfl,hr,rfl⟩;by_cases hq:r=true;case neg=>
  exact gO
 have h2:=aa (hr.1 hq);subst hq;clear hr;go_wp2_with fail;refine (dW v _ hv).mono ?_;exact xd

theorem eP (n:ByteArray) (z:Int) (k:ByteArray) (x:Bool) (v:ByteArray) (w:World) (hn:n.size<=9223372036854775807) (hk:k.size<=9223372036854775807) (hv:v.size<=9223372036854775807):
  Calls Tryz.prog 197 #[.agg #[.string n,.int .i64 z,.string k,.bool x,.string v]] w (aq (fI n z k v) w):=by
 go_enter Tryz.func197,Tryz.ntmps197;go_wp2_with fail;refine (a_ n _ hn).mono ?_;rintro e w1 ⟨r,rfl,hr,rfl⟩;by_cases hq:r=true;case neg=>
  exact fe
 have h0:=aa (hr.1 hq);subst hq;clear hr;go_wp2_with fail;refine (cd z 1 1048576 _).mono ?_;rintro e w1 ⟨r,rfl,hr,rfl⟩;by_cases hq:r=true;case neg=>
  exact gN
 have h1:=aa (hr.1 hq);subst hq;clear hr;go_wp2_with fail;refine (a_ k _ hk).mono ?_;rintro e w1 ⟨r,rfl,hr,rfl⟩;by_cases hq:r=true;case neg=>
  exact gO
 have h2:=aa (hr.1 hq);subst hq;clear hr;go_wp2_with fail;refine (cQ v _ hv).mono ?_;exact xd

def eo (d:ByteArray) (p:Int):Prop:=(p=0/\d=⟨#[]⟩)\/((p=1\/p=2)/\aO d)
def zV (n:ByteArray) (c:Int) (z:ByteArray) (zs:List ByteArray) (d:ByteArray) (p:Int):Prop:=aO n/\Inn c 0 1000000/\cV z/\dF zs 3/\eo d p
theorem eF (d:ByteArray):eo d 0↔d=⟨#[]⟩:=by unfold eo;simp
theorem gC {p:Int} (d:ByteArray) (h:p=1\/p=2):eo d p↔aO d:=by
 unfold eo;constructor
 ·rintro (⟨h1,_⟩|⟨_,h1⟩)
  ·omega
  ·exact h1
 ·exact fun h1=>Or.inr ⟨h,h1⟩
theorem mU {p:Int} {d:ByteArray} (h:p<0\/2<p):¬eo d p:=by
 unfold eo;rintro (⟨h1,_⟩|⟨h1,_⟩) <;> omega
theorem dP (s:ByteArray):s.toList.isEmpty=true↔s=⟨#[]⟩:=by
 constructor
 ·intro h;by_cases h0:s=⟨#[]⟩
  ·exact h0
  ·rw[bc h0] at h;cases h
 ·rintro rfl;exact sH

theorem rn (n:ByteArray) (c:Int) (z:ByteArray) (a:Option Addr) (len cap:Nat) (d:ByteArray) (p:Int) (w:World) (hd:d.size<=9223372036854775807):
  Calls Tryz.prog 249 #[.agg #[.string n,.int .i64 c,.string z,.slice a len cap,.string d,.int .i64 p]] w (aq (eo d p) w):=by
 by_cases h0:p=0
 ·subst h0;go_enter Tryz.func249,Tryz.ntmps249;go_wp2;go_ret;exact⟨_,rfl,by rw[eF,dP],al _ _⟩
 have hq0:(p==0)=false:=by simp[h0]
 by_cases h1:p=1
 ·subst h1;go_enter Tryz.func249,Tryz.ntmps249;go_wp2_with (go_at_call 204;refine (a_ _ _ hd).mono ?_;rintro e w1 ⟨r,rfl,hr,rfl⟩);go_ret;exact⟨r,rfl,by rw[gC d (Or.inl rfl),hr],al _ _⟩
 have hq1:(p==1)=false:=by simp[h1]
 by_cases h2:p=2
 ·subst h2;go_enter Tryz.func249,Tryz.ntmps249;go_wp2_with (go_at_call 204;refine (a_ _ _ hd).mono ?_;rintro e w1 ⟨r,rfl,hr,rfl⟩);go_ret;exact⟨r,rfl,by rw[gC d (Or.inr rfl),hr],al _ _⟩
 have hq2:(p==2)=false:=by simp[h2]
 go_enter Tryz.func249,Tryz.ntmps249;go_wp2;go_ret;exact⟨false,rfl,⟨fun h=>bT,fun h=>absurd h (mU af)⟩,al _ _⟩

theorem zv (n:ByteArray) (c:Int) (z:ByteArray) (a:Option Addr) (len cap:Nat) (zs:List ByteArray) (d:ByteArray) (p:Int) (w:World) (hn:n.size<=9223372036854775807) (hz:z.size<=9223372036854775807) (hd:d.size<=9223372036854775807) (hr:ay w a len cap zs):
  Calls Tryz.prog 248 #[.agg #[.string n,.int .i64 c,.string z,.slice a len cap,.string d,.int .i64 p]] w (aq (zV n c z zs d p) w):=by
 have HR:Hid (ay w a len cap zs):=hr;clear hr;go_enter Tryz.func248,Tryz.ntmps248;go_wp2_with fail;refine (a_ n _ hn).mono ?_;rintro e w1 ⟨r,rfl,hr,rfl⟩;by_cases hq:r=true;case neg=>
  exact fe
 have h0:=aa (hr.1 hq);subst hq;clear hr;go_wp2_with fail;refine (cd c 0 1000000 _).mono ?_;rintro e w1 ⟨r,rfl,hr,rfl⟩;by_cases hq:r=true;case neg=>
  exact gN
 have h1:=aa (hr.1 hq);subst hq;clear hr;go_wp2_with fail;refine (cQ z _ hz).mono ?_;rintro e w1 ⟨r,rfl,hr,rfl⟩;by_cases hq:r=true;case neg=>
  exact gO
 have h2:=aa (hr.1 hq);subst hq;clear hr;go_wp2_with fail;refine (eN a len cap zs 3 _ (HR.below (al _ _))).mono ?_;rintro e w1 ⟨r,rfl,hr,rfl⟩;by_cases hq:r=true;case neg=>
  exact lf
 have h3:=aa (hr.1 hq);subst hq;clear hr;go_wp2_with fail;refine (rn n c z a len cap d p _ hd).mono ?_;rintro e w1 ⟨r,rfl,hr,hb⟩;go_wp2_with fail;go_ret;exact⟨r,rfl,⟨fun h=>⟨h0.out,h1.out,h2.out,h3.out,hr.1 h⟩,fun h=>hr.2 h.2.2.2.2⟩,(cD hb).2.1⟩

theorem gD (n:ByteArray) (c:Int) (z:ByteArray) (a:Option Addr) (len cap:Nat) (zs:List ByteArray) (d:ByteArray) (p:Int) (w:World) (hn:n.size<=9223372036854775807) (hz:z.size<=9223372036854775807) (hd:d.size<=9223372036854775807) (hr:ay w a len cap zs):
  Calls Tryz.prog 143 #[.agg #[.string n,.int .i64 c,.string z,.slice a len cap,.string d,.int .i64 p]] w (aq (zV n c z zs d p) w):=by
 have HR:Hid (ay w a len cap zs):=hr;clear hr;go_enter Tryz.func143,Tryz.ntmps143;go_wp2_with fail;refine (bh n _ hn).mono ?_;rintro e w1 ⟨r,rfl,hr,rfl⟩;by_cases hq:r=true;case neg=>
  exact fe
 have h0:=aa (hr.1 hq);subst hq;clear hr;go_wp2_with fail;refine (oG c _).mono ?_;rintro e w1 ⟨r,rfl,hr,rfl⟩;by_cases hq:r=true;case neg=>
  exact gN
 have h1:=aa (hr.1 hq);subst hq;clear hr;go_wp2_with fail;refine (dW z _ hz).mono ?_;rintro e w1 ⟨r,rfl,hr,rfl⟩;by_cases hq:r=true;case neg=>
  exact gO
 have h2:=aa (hr.1 hq);subst hq;clear hr;go_wp2_with fail;refine (eG a len cap zs 3 _ (HR.below (al _ _))).mono ?_;rintro e w1 ⟨r,rfl,hr,hb⟩;obtain⟨hsl,hb1,-⟩:=cD hb;have HB:Hid (Below w.heap.size w w1):=hb1;by_cases hq:r=true;case neg=>
  have HN:=aa (fun h=>hq (hr.2 h));clear hsl hb hb1 hr;go_wp2_with fail;go_ret;exact⟨false,rfl,⟨fun h=>bT,fun h=>(HN.out h.2.2.2.1).elim⟩,HB.out⟩
 have h3:=aa (hr.1 hq);subst hq;have hc4:=ck4 hsl;have hc5:=ck5 hsl;clear hr hsl hb hb1;go_wp2_with fail;refine (mm p 0 2 _).mono ?_;rintro e w2 ⟨r,rfl,hr,rfl⟩;by_cases hq:r=true;case neg=>
  have HN:=aa (fun h=>hq (hr.2 h));clear hr;go_wp2_with fail;go_ret;exact⟨false,rfl,⟨fun h=>bT,fun h=>absurd h.2.2.2.2 (mU (by have h9:¬(0<=p/\p<=2):=HN.out;omega))⟩,HB.out⟩
 have h4:=hr.1 hq;subst hq;clear hr;by_cases hp:p=0
 ·subst hp;go_wp2_with fail;go_ret;exact⟨_,rfl,⟨fun h=>⟨h0.out,h1.out,h2.out,h3.out,(eF d).2 ((dP d).1 h)⟩,fun h=>(dP d).2 ((eF d).1 h.2.2.2.2)⟩,HB.out⟩
 have hq:(p==0)=false:=by simp[hp]
 have hp2:p=1\/p=2:=by unfold Inn at h4;omega
 go_wp2_with fail;refine (bh d _ hd).mono ?_;rintro e w2 ⟨r,rfl,hr,rfl⟩;go_wp2_with fail;go_ret;exact⟨r,rfl,⟨fun h=>⟨h0.out,h1.out,h2.out,h3.out,(gC d hp2).2 (hr.1 h)⟩,fun h=>hr.2 ((gC d hp2).1 h.2.2.2.2)⟩,HB.out⟩

def sQ (n:ByteArray) (c:Int) (z k:ByteArray) (x:Bool) (m:ByteArray) (y:Bool) (zs:List ByteArray):Prop:=
 aO n/\Inn c 1 1048576/\aO z/\aO k/\cV m/\(y=true->m=⟨#[]⟩)/\dF zs (if x=true then 1 else 6)

theorem j_ (n:ByteArray) (c:Int) (z k:ByteArray) (x:Bool) (m:ByteArray) (y:Bool) (a:Option Addr) (len cap:Nat) (w:World):
  Calls Tryz.prog 223 #[.agg #[.string n,.int .i64 c,.string z,.string k,.bool x,.string m,.bool y,.slice a len cap]] w fun e w'=>e=.returned (.int .i64 (if x=true then 1 else 6))/\Below w.heap.size w w':=by
 cases x;all_goals (
  go_enter Tryz.func223,Tryz.ntmps223
  go_wp2
  go_ret
  exact⟨rfl,al _ _⟩)

theorem iD {zs:List ByteArray} {x:Bool} (h:dF zs (if x=true then 1 else 6)):dF zs 6:=by
 refine⟨?_,h.2⟩;have:=h.1;split at this <;> omega

theorem gA (n:ByteArray) (c:Int) (z k:ByteArray) (x:Bool) (m:ByteArray) (y:Bool) (a:Option Addr) (len cap:Nat) (zs:List ByteArray) (w:World) (hn:n.size<=9223372036854775807) (hz:z.size<=9223372036854775807) (hk:k.size<=9223372036854775807) (hm:m.size<=9223372036854775807) (hr:ay w a len cap zs):
  Calls Tryz.prog 141 #[.agg #[.string n,.int .i64 c,.string z,.string k,.bool x,.string m,.bool y,.slice a len cap]] w (aq (sQ n c z k x m y zs) w):=by
 have HR:Hid (ay w a len cap zs):=hr;have hzl:=hr.1;have hlc:=Fx hr.2.1 hr.2.2.1;clear hr;cases y
 ·have HY:Hid (false=true->m=⟨#[]⟩):=fun h=>bT;go_enter Tryz.func141,Tryz.ntmps141;go_wp2_with fail;refine (bh n _ hn).mono ?_;rintro e w1 ⟨r,rfl,hr,rfl⟩;by_cases hq:r=true;case neg=>
   exact fe
  have h0:=aa (hr.1 hq);subst hq;clear hr;go_wp2_with fail;refine (fB c _).mono ?_;rintro e w1 ⟨r,rfl,hr,rfl⟩;by_cases hq:r=true;case neg=>
   exact gN
  have h1:=aa (hr.1 hq);subst hq;clear hr;go_wp2_with fail;refine (bh z _ hz).mono ?_;rintro e w1 ⟨r,rfl,hr,rfl⟩;by_cases hq:r=true;case neg=>
   exact gO
  have h2:=aa (hr.1 hq);subst hq;clear hr;go_wp2_with fail;refine (bh k _ hk).mono ?_;rintro e w1 ⟨r,rfl,hr,rfl⟩;by_cases hq:r=true;case neg=>
   exact lf
  have h3:=aa (hr.1 hq);subst hq;clear hr;go_wp2_with fail;refine (dW _ _ hm).mono ?_;rintro e w1 ⟨r,rfl,hr,rfl⟩;by_cases hq:r=true;case neg=>
   exact nY
  have h4:=aa (hr.1 hq);subst hq;clear hr;go_wp2_with fail;refine (eG a len cap zs 6 _ (HR.below (al _ _))).mono ?_;rintro e w1 ⟨r,rfl,hr,hb⟩;obtain⟨hsl,hb1,-⟩:=cD hb;have HB:Hid (Below w.heap.size w w1):=hb1;by_cases hq:r=true;case neg=>
   exact yo
  have h6:=aa (hr.1 hq);subst hq;have hc4:=ck4 hsl;have hc7:=ck7 hsl;clear hr hsl hb hb1;cases x
  ·go_wp2_with fail;go_ret;exact⟨true,rfl,⟨fun _=>⟨h0.out,h1.out,h2.out,h3.out,h4.out,HY.out,by simpa using h6.out⟩,fun _=>rfl⟩,HB.out⟩
  ·go_wp2_with fail;go_ret;refine⟨_,rfl,⟨fun h=>⟨h0.out,h1.out,h2.out,h3.out,h4.out,HY.out,?_,h6.2⟩,fun h=>?_⟩,HB.out⟩
   ·simp at h ⊢;omega
   ·have:=h.2.2.2.2.2.2.1;simp at this ⊢;omega
 by_cases hm0:m=⟨#[]⟩
 ·subst hm0;have HY:Hid True:=trivial;go_enter Tryz.func141,Tryz.ntmps141;go_wp2_with fail;refine (bh n _ hn).mono ?_;rintro e w1 ⟨r,rfl,hr,rfl⟩;by_cases hq:r=true;case neg=>
   exact fe
  have h0:=aa (hr.1 hq);subst hq;clear hr;go_wp2_with fail;refine (fB c _).mono ?_;rintro e w1 ⟨r,rfl,hr,rfl⟩;by_cases hq:r=true;case neg=>
   exact gN
  have h1:=aa (hr.1 hq);subst hq;clear hr;go_wp2_with fail;refine (bh z _ hz).mono ?_;rintro e w1 ⟨r,rfl,hr,rfl⟩;by_cases hq:r=true;case neg=>
   exact gO
  have h2:=aa (hr.1 hq);subst hq;clear hr;go_wp2_with fail;refine (bh k _ hk).mono ?_;rintro e w1 ⟨r,rfl,hr,rfl⟩;by_cases hq:r=true;case neg=>
   exact lf
  have h3:=aa (hr.1 hq);subst hq;clear hr;go_wp2_with fail;refine (dW _ _ hm).mono ?_;rintro e w1 ⟨r,rfl,hr,rfl⟩;by_cases hq:r=true;case neg=>
   exact nY
  have h4:=aa (hr.1 hq);subst hq;clear hr;go_wp2_with fail;refine (eG a len cap zs 6 _ (HR.below (al _ _))).mono ?_;rintro e w1 ⟨r,rfl,hr,hb⟩;obtain⟨hsl,hb1,-⟩:=cD hb;have HB:Hid (Below w.heap.size w w1):=hb1;by_cases hq:r=true;case neg=>
   exact yo
  have h6:=aa (hr.1 hq);subst hq;have hc4:=ck4 hsl;have hc7:=ck7 hsl;clear hr hsl hb hb1;cases x
  ·go_wp2_with fail;go_ret;exact⟨true,rfl,⟨fun _=>⟨h0.out,h1.out,h2.out,h3.out,h4.out,(fun _=>rfl),by simpa using h6.out⟩,fun _=>rfl⟩,HB.out⟩
  ·go_wp2_with fail;go_ret;refine⟨_,rfl,⟨fun h=>⟨h0.out,h1.out,h2.out,h3.out,h4.out,(fun _=>rfl),?_,h6.2⟩,fun h=>?_⟩,HB.out⟩
   ·simp at h ⊢;omega
   ·have:=h.2.2.2.2.2.2.1;simp at this ⊢;omega
 have hq9:=bc hm0;go_enter Tryz.func141,Tryz.ntmps141;go_wp2_with fail;refine (bh n _ hn).mono ?_;rintro e w1 ⟨r,rfl,hr,rfl⟩;by_cases hq:r=true;case neg=>
  exact fe
 have h0:=aa (hr.1 hq);subst hq;clear hr;go_wp2_with fail;refine (fB c _).mono ?_;rintro e w1 ⟨r,rfl,hr,rfl⟩;by_cases hq:r=true;case neg=>
  exact gN
 have h1:=aa (hr.1 hq);subst hq;clear hr;go_wp2_with fail;refine (bh z _ hz).mono ?_;rintro e w1 ⟨r,rfl,hr,rfl⟩;by_cases hq:r=true;case neg=>
  exact gO
 have h2:=aa (hr.1 hq);subst hq;clear hr;go_wp2_with fail;refine (bh k _ hk).mono ?_;rintro e w1 ⟨r,rfl,hr,rfl⟩;by_cases hq:r=true;case neg=>
  exact lf
 have h3:=aa (hr.1 hq);subst hq;clear hr;go_wp2_with fail;refine (dW _ _ hm).mono ?_;rintro e w1 ⟨r,rfl,hr,rfl⟩;by_cases hq:r=true;case neg=>
  exact nY
 have h4:=aa (hr.1 hq);subst hq;clear hr;exact wR

theorem av {w:World} {b:Nat} {vs:Array Value} {T:TypeId} (h:w.heap[b]?=some (.cells vs T (0,0))) (i:Nat):w.frozen? ⟨b,i,none⟩=false:=by simp[World.frozen?,h]
theorem ay.copy {w:World} {b len:Nat} {zs:List ByteArray} {T:TypeId} (h:w.heap[b]?=some (.cells (zs.map FH).toArray T (0,0))) (hl:zs.length=len) (hl2:len<=1048576) (hs:∀(j:Nat) x,zs[j]?=some x->x.size<=9223372036854775807):
  ay w (some ⟨b,0,none⟩) len len zs:=by
 refine⟨hl,Fq _,by omega,hs,?_⟩;by_cases hz:zs=[]
 ·exact Or.inl hz
 refine Or.inr ⟨b,0,rfl,?_,fun j x hx=>?_⟩
 ·exact xG
 ·rw[aw h];simp[hx]

theorem aV {w1:World} {b i k:Nat} {v:Value} {o:Option Obj} (hk:k≠b) (h:w1.heap[k]?=o):(w1.setCell ⟨b,i,none⟩ v).heap[k]?=o:=by rw[Fm _ _ _ _ hk];exact h
theorem ah {w w1:World} {B b i:Nat} {v:Value} (hB:B<=b) (h:Below B w w1):Below B w (w1.setCell ⟨b,i,none⟩ v):=h.setCell hB v
theorem ae {w:World} {b:Nat} {o:Obj} (h:w.heap[b]?=some o):b<w.heap.size:=by
 exact xG
theorem upK {w w':World} {k:Nat} {o:Obj} (h:Hid (w.heap[k]?=some o)) (hb:Below w.heap.size w w'):Hid (w'.heap[k]?=some o):=(hb.block _ (ae h)).trans h
theorem upB {w w1 w2:World} (h:Hid (Below w.heap.size w w1)) (hb:Below w1.heap.size w1 w2):Hid (Below w.heap.size w w2):=Below.trans h (hb.mono (Below.size h))
theorem sb1 {w w1:World} {i:Nat} {v:Value} (h:Below w.heap.size w w1):Below w.heap.size w (w1.setCell ⟨w.heap.size+1,i,none⟩ v):=ah (by omega) h
theorem sb2 {w w1:World} {i:Nat} {v:Value} (h:Below w.heap.size w w1):Below w.heap.size w (w1.setCell ⟨w.heap.size+1+1,i,none⟩ v):=ah (by omega) h
theorem sb3 {w w1:World} {i:Nat} {v:Value} (h:Below w.heap.size w w1):Below w.heap.size w (w1.setCell ⟨w.heap.size+1+1+1,i,none⟩ v):=ah (by omega) h
theorem cS (w:World) (o p:Obj):((w.alloc o).alloc p).heap[w.heap.size]?=some o:=by
 rw[Fw _ _ _ aR];exact FB
theorem bE (w:World) (o p:Obj):((w.alloc o).alloc p).heap[w.heap.size+1]?=some p:=by
 have h:w.heap.size+1=(w.alloc o).heap.size:=aR
 rw[h];exact FB
theorem fE (w:World) (o p q:Obj):(((w.alloc o).alloc p).alloc q).heap[w.heap.size]?=some o:=by
 rw[Fw _ _ _ bF,Fw _ _ _ aR];show (w.heap.push _)[w.heap.size]?=_;simp
theorem dC (w:World) (o p q:Obj):(((w.alloc o).alloc p).alloc q).heap[w.heap.size+1]?=some p:=by
 rw[Fw _ _ _ aR];have h:w.heap.size+1=(w.alloc o).heap.size:=aR
 rw[h];show ((w.alloc o).heap.push _)[(w.alloc o).heap.size]?=_;exact FB
theorem cR (w:World) (o p q:Obj):(((w.alloc o).alloc p).alloc q).heap[w.heap.size+1+1]?=some q:=by
 have h:w.heap.size+1+1=((w.alloc o).alloc p).heap.size:=aR
 rw[h];show (((w.alloc o).alloc p).heap.push _)[((w.alloc o).alloc p).heap.size]?=_;exact FB
def SzB (left:Int) (p:Prop) (w:World) (e:Ending) (w':World):Prop:=∃r:Int,e=.returned (.int .i64 r)/\(r= -1\/(0<=r/\r<=left/\p))/\Below w.heap.size w w'
theorem aF (w:World) (o p:Obj):Below w.heap.size w ((w.alloc o).alloc p):=(al w o).alloc (by simp) p
theorem bH (w:World) (o p q:Obj):Below w.heap.size w (((w.alloc o).alloc p).alloc q):=(aF w o p).alloc (by simp;omega) q
theorem a9 {a b:ByteArray} (h:a=b):(a.toList==b.toList)=true:=by rw[h];simp

theorem mQ (n:ByteArray) (x:Bool) (y:Bool) (z:ByteArray) (left:Int) (w:World) (hn:n.size<=9223372036854775807) (hz:z.size<=9223372036854775807) (h0:0<=left) (h1:left<=1048576):
  Calls Tryz.prog 45 #[.agg #[.string n,.bool x,.bool y,.string z],.int .i64 left] w (SzB left True w):=by
 by_cases h9n:left<(n.size:Int)
 ·go_enter Tryz.func45,Tryz.ntmps45;go_wp2;go_ret;exact⟨-1,rfl,.inl rfl,al _ _⟩
 by_cases h9z:left<(n.size:Int)+(z.size:Int)
 ·go_enter Tryz.func45,Tryz.ntmps45;go_wp2;go_ret;exact⟨-1,rfl,.inl rfl,al _ _⟩
 go_enter Tryz.func45,Tryz.ntmps45;go_wp2;go_ret;exact⟨_,rfl,.inr ⟨by omega,by omega,trivial⟩,al _ _⟩

theorem mO (n:ByteArray) (x:Bool) (y:Bool) (z:ByteArray) (w:World):
  Calls Tryz.prog 54 #[.agg #[.string n,.bool x,.bool y,.string z]] w fun e w'=>e=.returned (.agg #[.string n,.bool x,.bool y,.string z])/\Below w.heap.size w w':=by
 go_enter Tryz.func54,Tryz.ntmps54;go_wp2;exact bodyPost_ret (v:=.agg #[.string n,.bool x,.bool y,.string z]) (by simp[results,Tryz.results54,go_sem]) rfl ⟨rfl,bH _ _ _ _⟩

theorem mS (n:ByteArray) (z:Int) (k:ByteArray) (x:Bool) (v:ByteArray) (left:Int) (w:World) (hn:n.size<=9223372036854775807) (hk:k.size<=9223372036854775807) (hv:v.size<=9223372036854775807) (h0:0<=left) (h1:left<=1048576):
  Calls Tryz.prog 47 #[.agg #[.string n,.int .i64 z,.string k,.bool x,.string v],.int .i64 left] w (SzB left True w):=by
 by_cases h9n:left<(n.size:Int)
 ·exact qp
 by_cases h9k:left<(n.size:Int)+(k.size:Int)
 ·exact qp
 by_cases h9v:left<(n.size:Int)+(k.size:Int)+(v.size:Int)
 ·exact qp
 go_enter Tryz.func47,Tryz.ntmps47;go_wp2;go_ret;exact⟨_,rfl,.inr ⟨by omega,by omega,trivial⟩,al _ _⟩

theorem mP (n:ByteArray) (z:Int) (k:ByteArray) (x:Bool) (v:ByteArray) (w:World):
  Calls Tryz.prog 56 #[.agg #[.string n,.int .i64 z,.string k,.bool x,.string v]] w fun e w'=>e=.returned (.agg #[.string n,.int .i64 z,.string k,.bool x,.string v])/\Below w.heap.size w w':=by
 go_enter Tryz.func56,Tryz.ntmps56;go_wp2;exact bodyPost_ret (v:=.agg #[.string n,.int .i64 z,.string k,.bool x,.string v]) (by simp[results,Tryz.results56,go_sem]) rfl ⟨rfl,bH _ _ _ _⟩

theorem po (n:ByteArray) (z:ByteArray) (c:Int) (s:Int) (u:Int) (d:Bool) (a:Option Addr) (len cap:Nat) (zs:List ByteArray) (left:Int) (w:World) (hn:n.size<=9223372036854775807) (hz:z.size<=9223372036854775807) (hr:ay w a len cap zs) (h0:0<=left) (h1:left<=1048576):
  Calls Tryz.prog 44 #[.agg #[.string n,.string z,.int .i64 c,.int .i64 s,.int .i64 u,.bool d,.slice a len cap],.int .i64 left] w (SzB left (len<=1048576) w):=by
 have HR:Hid (ay w a len cap zs):=hr;clear hr;by_cases h9n:left<(n.size:Int)
 ·go_enter Tryz.func44,Tryz.ntmps44;go_wp2;go_ret;exact⟨-1,rfl,.inl rfl,al _ _⟩
 by_cases h9z:left<(n.size:Int)+(z.size:Int)
 ·go_enter Tryz.func44,Tryz.ntmps44;go_wp2;go_ret;exact⟨-1,rfl,.inl rfl,al _ _⟩
 go_enter Tryz.func44,Tryz.ntmps44;exact Ci

theorem pj (n:ByteArray) (z:ByteArray) (c:Int) (s:Int) (u:Int) (d:Bool) (a:Option Addr) (len cap:Nat) (zs:List ByteArray) (w:World) (hr:ay w a len cap zs) (hl:len<=1048576):
  Calls Tryz.prog 53 #[.agg #[.string n,.string z,.int .i64 c,.int .i64 s,.int .i64 u,.bool d,.slice a len cap]] w fun e w'=>e=.returned (.agg #[.string n,.string z,.int .i64 c,.int .i64 s,.int .i64 u,.bool d,.slice (some ⟨w.heap.size+1+1+1,0,none⟩) len len])/\w'.heap[w.heap.size+1+1+1]?=some (.cells (zs.map FH).toArray 9 (0,0))/\Below w.heap.size w w':=by
 have HR:Hid (ay w a len cap zs):=hr;clear hr;go_enter Tryz.func53,Tryz.ntmps53;go_wp2_with fail;refine (lL a len cap zs _ (HR.below (bH _ _ _ _)) hl).mono ?_;rintro e w1 ⟨rfl,hG,hb⟩;have hsz:(((w.alloc (.cells #[.string n,.string z,.int .i64 c,.int .i64 s,.int .i64 u,.bool d,.slice a len cap] 85)).alloc (.cells #[.string ⟨#[]⟩,.string ⟨#[]⟩,.int .i64 0,.int .i64 0,.int .i64 0,.bool false,.slice none 0 0] 57)).alloc (.cells #[.string n,.string z,.int .i64 c,.int .i64 s,.int .i64 u,.bool d,.slice none 0 0] 57)).heap.size=w.heap.size+1+1+1:=aR
 rw[hsz] at hG hb ⊢;have g1:w1.heap[w.heap.size+1]?=some (.cells #[.string ⟨#[]⟩,.string ⟨#[]⟩,.int .i64 0,.int .i64 0,.int .i64 0,.bool false,.slice none 0 0] 57 (0,0)):=by rw[hb.block _ af];exact dC _ _ _ _
 have g2:w1.heap[w.heap.size+1+1]?=some (.cells #[.string n,.string z,.int .i64 c,.int .i64 s,.int .i64 u,.bool d,.slice none 0 0] 57 (0,0)):=by rw[hb.block _ af];exact cR _ _ _ _
 obtain⟨HG,HB,c20,c10,f10,c21,c11,f11,c22,c12,f12,c23,c13,f13,c24,c14,f14,c25,c15,f15,c26⟩:=BJ;have f26:=av g2 6;have c16:=ck6 g1;have f16:=av g1 6;clear g1 g2 hG hb hsz;go_wp2;refine bodyPost_ret (v:=.agg #[.string n,.string z,.int .i64 c,.int .i64 s,.int .i64 u,.bool d,.slice (some ⟨w.heap.size+1+1+1,0,none⟩) len len]) (by simp[results,Tryz.results53,go_sem, *]) rfl ⟨rfl,?_,?_⟩
 ·exact aV af (aV af (aV af (aV af (aV af (aV af (aV af (aV af (HG.out))))))))
 ·exact ah af (ah af (ah af (ah af (ah af (ah af (ah af (ah af (HB.out))))))))

theorem rM (n:ByteArray) (z:ByteArray) (c:Int) (s:Int) (u:Int) (d:Bool) (a:Option Addr) (len cap:Nat) (zs:List ByteArray) (a':Option Addr) (len' cap':Nat) (w:World) (hr:ay w a len cap zs) (hr':ay w a' len' cap' zs):
  Calls Tryz.prog 68 #[.agg #[.string n,.string z,.int .i64 c,.int .i64 s,.int .i64 u,.bool d,.slice a len cap],.agg #[.string n,.string z,.int .i64 c,.int .i64 s,.int .i64 u,.bool d,.slice a' len' cap']] w fun e w'=>e=.returned (.bool true)/\Below w.heap.size w w':=by
 have HR:Hid (ay w a len cap zs):=hr;have HR':Hid (ay w a' len' cap' zs):=hr';clear hr hr';go_enter Tryz.func68,Tryz.ntmps68;exact Cu

theorem lO (n:ByteArray) (c:Int) (z:ByteArray) (k:ByteArray) (x:Bool) (m:ByteArray) (y:Bool) (a:Option Addr) (len cap:Nat) (zs:List ByteArray) (left:Int) (w:World) (hn:n.size<=9223372036854775807) (hz:z.size<=9223372036854775807) (hk:k.size<=9223372036854775807) (hm:m.size<=9223372036854775807) (hr:ay w a len cap zs) (h0:0<=left) (h1:left<=1048576):
  Calls Tryz.prog 46 #[.agg #[.string n,.int .i64 c,.string z,.string k,.bool x,.string m,.bool y,.slice a len cap],.int .i64 left] w (SzB left (len<=1048576) w):=by
 have HR:Hid (ay w a len cap zs):=hr;clear hr;by_cases h9n:left<(n.size:Int)
 ·exact lV
 by_cases h9z:left<(n.size:Int)+(z.size:Int)
 ·exact lV
 by_cases h9k:left<(n.size:Int)+(z.size:Int)+(k.size:Int)
 ·exact lV
 by_cases h9m:left<(n.size:Int)+(z.size:Int)+(k.size:Int)+(m.size:Int)
 ·exact lV
 go_enter Tryz.func46,Tryz.ntmps46;exact Ci

theorem lK (n:ByteArray) (c:Int) (z:ByteArray) (k:ByteArray) (x:Bool) (m:ByteArray) (y:Bool) (a:Option Addr) (len cap:Nat) (zs:List ByteArray) (w:World) (hr:ay w a len cap zs) (hl:len<=1048576):
  Calls Tryz.prog 55 #[.agg #[.string n,.int .i64 c,.string z,.string k,.bool x,.string m,.bool y,.slice a len cap]] w fun e w'=>e=.returned (.agg #[.string n,.int .i64 c,.string z,.string k,.bool x,.string m,.bool y,.slice (some ⟨w.heap.size+1+1+1,0,none⟩) len len])/\w'.heap[w.heap.size+1+1+1]?=some (.cells (zs.map FH).toArray 9 (0,0))/\Below w.heap.size w w':=by
 have HR:Hid (ay w a len cap zs):=hr;clear hr;go_enter Tryz.func55,Tryz.ntmps55;go_wp2_with fail;refine (lL a len cap zs _ (HR.below (bH _ _ _ _)) hl).mono ?_;rintro e w1 ⟨rfl,hG,hb⟩;have hsz:(((w.alloc (.cells #[.string n,.int .i64 c,.string z,.string k,.bool x,.string m,.bool y,.slice a len cap] 91)).alloc (.cells #[.string ⟨#[]⟩,.int .i64 0,.string ⟨#[]⟩,.string ⟨#[]⟩,.bool false,.string ⟨#[]⟩,.bool false,.slice none 0 0] 99)).alloc (.cells #[.string n,.int .i64 c,.string z,.string k,.bool x,.string m,.bool y,.slice none 0 0] 99)).heap.size=w.heap.size+1+1+1:=aR
 rw[hsz] at hG hb ⊢;have g1:w1.heap[w.heap.size+1]?=some (.cells #[.string ⟨#[]⟩,.int .i64 0,.string ⟨#[]⟩,.string ⟨#[]⟩,.bool false,.string ⟨#[]⟩,.bool false,.slice none 0 0] 99 (0,0)):=by rw[hb.block _ af];exact dC _ _ _ _
 have g2:w1.heap[w.heap.size+1+1]?=some (.cells #[.string n,.int .i64 c,.string z,.string k,.bool x,.string m,.bool y,.slice none 0 0] 99 (0,0)):=by rw[hb.block _ af];exact cR _ _ _ _
 obtain⟨HG,HB,c20,c10,f10,c21,c11,f11,c22,c12,f12,c23,c13,f13,c24,c14,f14,c25,c15,f15,c26⟩:=BJ;have c16:=ck6 g1;have f16:=av g1 6;have c27:=ck7 g2;have f27:=av g2 7;have c17:=ck7 g1;have f17:=av g1 7;clear g1 g2 hG hb hsz;go_wp2;refine bodyPost_ret (v:=.agg #[.string n,.int .i64 c,.string z,.string k,.bool x,.string m,.bool y,.slice (some ⟨w.heap.size+1+1+1,0,none⟩) len len]) (by simp[results,Tryz.results55,go_sem, *]) rfl ⟨rfl,?_,?_⟩
 ·exact yx
 ·exact yv

theorem mz (n:ByteArray) (c:Int) (z:ByteArray) (k:ByteArray) (x:Bool) (m:ByteArray) (y:Bool) (a:Option Addr) (len cap:Nat) (zs:List ByteArray) (a':Option Addr) (len' cap':Nat) (w:World) (hr:ay w a len cap zs) (hr':ay w a' len' cap' zs):
  Calls Tryz.prog 70 #[.agg #[.string n,.int .i64 c,.string z,.string k,.bool x,.string m,.bool y,.slice a len cap],.agg #[.string n,.int .i64 c,.string z,.string k,.bool x,.string m,.bool y,.slice a' len' cap']] w fun e w'=>e=.returned (.bool true)/\Below w.heap.size w w':=by
 have HR:Hid (ay w a len cap zs):=hr;have HR':Hid (ay w a' len' cap' zs):=hr';clear hr hr';go_enter Tryz.func70,Tryz.ntmps70;exact Cu

theorem s_ (n:ByteArray) (c:Int) (z:ByteArray) (a:Option Addr) (len cap:Nat) (zs:List ByteArray) (d:ByteArray) (p:Int) (left:Int) (w:World) (hn:n.size<=9223372036854775807) (hz:z.size<=9223372036854775807) (hd:d.size<=9223372036854775807) (hr:ay w a len cap zs) (h0:0<=left) (h1:left<=1048576):
  Calls Tryz.prog 48 #[.agg #[.string n,.int .i64 c,.string z,.slice a len cap,.string d,.int .i64 p],.int .i64 left] w (SzB left (len<=1048576) w):=by
 have HR:Hid (ay w a len cap zs):=hr;clear hr;by_cases h9n:left<(n.size:Int)
 ·go_enter Tryz.func48,Tryz.ntmps48;go_wp2;go_ret;exact⟨-1,rfl,.inl rfl,al _ _⟩
 by_cases h9z:left<(n.size:Int)+(z.size:Int)
 ·go_enter Tryz.func48,Tryz.ntmps48;go_wp2;go_ret;exact⟨-1,rfl,.inl rfl,al _ _⟩
 go_enter Tryz.func48,Tryz.ntmps48;go_wp2_with fail;refine (rY a len cap zs _ _ (HR.below (al _ _)) af af).mono ?_;rintro e w1 ⟨r,rfl,hr,rfl⟩;rcases hr with rfl|⟨hr0,hr1,hr2⟩
 ·go_wp2;go_ret;exact⟨-1,rfl,.inl rfl,al _ _⟩
 by_cases h9d:r<(d.size:Int)
 ·go_wp2;go_ret;exact⟨-1,rfl,.inl rfl,al _ _⟩
 go_wp2;go_ret;exact⟨_,rfl,.inr ⟨by omega,by omega,by omega⟩,al _ _⟩

theorem sZ (n:ByteArray) (c:Int) (z:ByteArray) (a:Option Addr) (len cap:Nat) (zs:List ByteArray) (d:ByteArray) (p:Int) (w:World) (hr:ay w a len cap zs) (hl:len<=1048576):
  Calls Tryz.prog 57 #[.agg #[.string n,.int .i64 c,.string z,.slice a len cap,.string d,.int .i64 p]] w fun e w'=>e=.returned (.agg #[.string n,.int .i64 c,.string z,.slice (some ⟨w.heap.size+1+1+1,0,none⟩) len len,.string d,.int .i64 p])/\w'.heap[w.heap.size+1+1+1]?=some (.cells (zs.map FH).toArray 9 (0,0))/\Below w.heap.size w w':=by
 have HR:Hid (ay w a len cap zs):=hr;clear hr;go_enter Tryz.func57,Tryz.ntmps57;go_wp2_with fail;refine (lL a len cap zs _ (HR.below (bH _ _ _ _)) hl).mono ?_;rintro e w1 ⟨rfl,hG,hb⟩;have hsz:(((w.alloc (.cells #[.string n,.int .i64 c,.string z,.slice a len cap,.string d,.int .i64 p] 96)).alloc (.cells #[.string ⟨#[]⟩,.int .i64 0,.string ⟨#[]⟩,.slice none 0 0,.string ⟨#[]⟩,.int .i64 0] 64)).alloc (.cells #[.string n,.int .i64 c,.string z,.slice none 0 0,.string ⟨#[]⟩,.int .i64 0] 64)).heap.size=w.heap.size+1+1+1:=aR
 rw[hsz] at hG hb ⊢;have g0:w1.heap[w.heap.size]?=some (.cells #[.string n,.int .i64 c,.string z,.slice a len cap,.string d,.int .i64 p] 96 (0,0)):=by rw[hb.block _ af];exact fE _ _ _ _
 have g1:w1.heap[w.heap.size+1]?=some (.cells #[.string ⟨#[]⟩,.int .i64 0,.string ⟨#[]⟩,.slice none 0 0,.string ⟨#[]⟩,.int .i64 0] 64 (0,0)):=by rw[hb.block _ af];exact dC _ _ _ _
 have g2:w1.heap[w.heap.size+1+1]?=some (.cells #[.string n,.int .i64 c,.string z,.slice none 0 0,.string ⟨#[]⟩,.int .i64 0] 64 (0,0)):=by rw[hb.block _ af];exact cR _ _ _ _
 have HG:=aa hG;have HB:Hid (Below w.heap.size w w1):=(bH _ _ _ _).trans (hb.mono af);have c04:=ck4 g0;have c05:=ck5 g0;have c20:=ck0 g2;have c10:=ck0 g1;have f10:=av g1 0;have c21:=ck1 g2;have c11:=ck1 g1;have f11:=av g1 1;have c22:=ck2 g2;have c12:=ck2 g1;have f12:=av g1 2;have c23:=ck3 g2;have f23:=av g2 3;have c13:=ck3 g1;have f13:=av g1 3;have c24:=ck4 g2;have f24:=av g2 4;have c14:=ck4 g1;have f14:=av g1 4;have c25:=ck5 g2;have f25:=av g2 5;have c15:=ck5 g1;have f15:=av g1 5;clear g0 g1 g2 hG hb hsz;go_wp2;refine bodyPost_ret (v:=.agg #[.string n,.int .i64 c,.string z,.slice (some ⟨w.heap.size+1+1+1,0,none⟩) len len,.string d,.int .i64 p]) (by simp[results,Tryz.results57,go_sem, *]) rfl ⟨rfl,?_,?_⟩
 ·exact yx
 ·exact yv

theorem tR (n:ByteArray) (c:Int) (z:ByteArray) (a:Option Addr) (len cap:Nat) (zs:List ByteArray) (d:ByteArray) (p:Int) (a':Option Addr) (len' cap':Nat) (w:World) (hr:ay w a len cap zs) (hr':ay w a' len' cap' zs):
  Calls Tryz.prog 72 #[.agg #[.string n,.int .i64 c,.string z,.slice a len cap,.string d,.int .i64 p],.agg #[.string n,.int .i64 c,.string z,.slice a' len' cap',.string d,.int .i64 p]] w fun e w'=>e=.returned (.bool true)/\Below w.heap.size w w':=by
 have HR:Hid (ay w a len cap zs):=hr;have HR':Hid (ay w a' len' cap' zs):=hr';clear hr hr';go_enter Tryz.func72,Tryz.ntmps72;go_wp2_with fail;refine (sK a a' len len' cap cap' zs zs _ (HR.below (aF _ _ _)) (HR'.below (aF _ _ _))).mono ?_;rintro e w1 ⟨r,rfl,hr,hb⟩;obtain rfl:r=true:=hr.2 rfl;clear hr;have HB:Hid (Below w.heap.size w w1):=(aF _ _ _).trans (hb.mono bF);obtain⟨g0,g1⟩:=ve;have c04:=ck4 g0;have c05:=ck5 g0;have c14:=ck4 g1;have c15:=ck5 g1;clear g0 g1 hb;go_wp2_with fail;go_ret;exact⟨rfl,HB.out⟩

theorem cs1 {w:World} {b:Nat} {T:TypeId} {v0:Value} (h:w.heap[b]?=some (.cells #[v0] T (0,0))):w.cell? ⟨b,0,none⟩=some v0:=aw h 0
theorem cs4 {w:World} {b:Nat} {T:TypeId} {v0 v1 v2 v3:Value} (h:w.heap[b]?=some (.cells #[v0,v1,v2,v3] T (0,0))):w.cell? ⟨b,0,none⟩=some v0/\w.cell? ⟨b,1,none⟩=some v1/\w.cell? ⟨b,2,none⟩=some v2/\w.cell? ⟨b,3,none⟩=some v3:=⟨aw h 0,aw h 1,aw h 2,aw h 3⟩
theorem cs5 {w:World} {b:Nat} {T:TypeId} {v0 v1 v2 v3 v4:Value} (h:w.heap[b]?=some (.cells #[v0,v1,v2,v3,v4] T (0,0))):w.cell? ⟨b,0,none⟩=some v0/\w.cell? ⟨b,1,none⟩=some v1/\w.cell? ⟨b,2,none⟩=some v2/\w.cell? ⟨b,3,none⟩=some v3/\w.cell? ⟨b,4,none⟩=some v4:=⟨aw h 0,aw h 1,aw h 2,aw h 3,aw h 4⟩
theorem cs6 {w:World} {b:Nat} {T:TypeId} {v0 v1 v2 v3 v4 v5:Value} (h:w.heap[b]?=some (.cells #[v0,v1,v2,v3,v4,v5] T (0,0))):w.cell? ⟨b,0,none⟩=some v0/\w.cell? ⟨b,1,none⟩=some v1/\w.cell? ⟨b,2,none⟩=some v2/\w.cell? ⟨b,3,none⟩=some v3/\w.cell? ⟨b,4,none⟩=some v4/\w.cell? ⟨b,5,none⟩=some v5:=⟨aw h 0,aw h 1,aw h 2,aw h 3,aw h 4,aw h 5⟩
theorem cs7 {w:World} {b:Nat} {T:TypeId} {v0 v1 v2 v3 v4 v5 v6:Value} (h:w.heap[b]?=some (.cells #[v0,v1,v2,v3,v4,v5,v6] T (0,0))):w.cell? ⟨b,0,none⟩=some v0/\w.cell? ⟨b,1,none⟩=some v1/\w.cell? ⟨b,2,none⟩=some v2/\w.cell? ⟨b,3,none⟩=some v3/\w.cell? ⟨b,4,none⟩=some v4/\w.cell? ⟨b,5,none⟩=some v5/\w.cell? ⟨b,6,none⟩=some v6:=⟨aw h 0,aw h 1,aw h 2,aw h 3,aw h 4,aw h 5,aw h 6⟩
theorem cs8 {w:World} {b:Nat} {T:TypeId} {v0 v1 v2 v3 v4 v5 v6 v7:Value} (h:w.heap[b]?=some (.cells #[v0,v1,v2,v3,v4,v5,v6,v7] T (0,0))):w.cell? ⟨b,0,none⟩=some v0/\w.cell? ⟨b,1,none⟩=some v1/\w.cell? ⟨b,2,none⟩=some v2/\w.cell? ⟨b,3,none⟩=some v3/\w.cell? ⟨b,4,none⟩=some v4/\w.cell? ⟨b,5,none⟩=some v5/\w.cell? ⟨b,6,none⟩=some v6/\w.cell? ⟨b,7,none⟩=some v7:=⟨aw h 0,aw h 1,aw h 2,aw h 3,aw h 4,aw h 5,aw h 6,aw h 7⟩
theorem dH (w:World) (o:Obj):(w.alloc o).heap.size=w.heap.size+1:=by simp
theorem aL {w w':World} {o:Obj} (h:Below (w.alloc o).heap.size (w.alloc o) w'):w'.heap[w.heap.size]?=some o/\Below w.heap.size w w':=by
 rw[dH] at h;exact⟨(h.block _ (Nat.lt_succ_self _)).trans (heap_alloc_new w o),(al w o).trans (h.mono (Nat.le_succ _))⟩
theorem cG {w w':World} {o p:Obj} (h:Below ((w.alloc o).alloc p).heap.size ((w.alloc o).alloc p) w'):w'.heap[w.heap.size]?=some o/\w'.heap[w.heap.size+1]?=some p/\Below w.heap.size w w':=by
 obtain⟨h1,h2⟩:=aL h;rw[dH] at h1;obtain⟨h3,h4⟩:=aL h2;exact⟨h3,h1,h4⟩
theorem lQ {w w':World} {o p q:Obj} (h:Below (((w.alloc o).alloc p).alloc q).heap.size (((w.alloc o).alloc p).alloc q) w'):w'.heap[w.heap.size]?=some o/\w'.heap[w.heap.size+1]?=some p/\w'.heap[w.heap.size+1+1]?=some q/\Below w.heap.size w w':=by
 obtain⟨h1,h2⟩:=aL h;rw[dH,dH] at h1;obtain⟨h3,h4,h5⟩:=cG h2;exact⟨h3,h4,h1,h5⟩

def Wd (W:World):Type:={ x:World // Below W.heap.size W x }
def Wd.w {W:World} (i:Wd W):World:=i.1
theorem Wd.b {W:World} (i:Wd W):Below W.heap.size W i.w:=i.2
theorem Wd.ne (W:World):Nonempty (Wd W):=⟨⟨W,Ft _ _⟩⟩
theorem Wd.cell {W:World} (i:Wd W) {b o:Nat} (h:b<W.heap.size):i.w.cell? ⟨b,o,none⟩=W.cell? ⟨b,o,none⟩:=ak i.b h
theorem Wd.heap {W:World} (i:Wd W) {b:Nat} (h:b<W.heap.size):i.w.heap[b]?=W.heap[b]?:=i.b.block b h
theorem Wd.slot {W:World} (i:Wd W) {b o:Nat} {vs:Array Value} {T:TypeId} {f:Nat×Nat} {v:Value} (h:W.heap[b]?=some (.cells vs T f)) (hv:vs[o]?=some v):i.w.cell? ⟨b,o,none⟩=some v:=by
 have hb:b<W.heap.size:=by
  rcases Nat.lt_or_ge b W.heap.size with h1|h1
  ·exact h1
  ·rw[Hy h1] at h;cases h
 rw[i.cell hb,aw h,hv]

theorem sl1 {W:World} {b:Nat} {T:TypeId} {v0:Value} {r:List Value} (h:Hid (W.heap[b]?=some (.cells (v0 ::r).toArray T (0,0)))):(∀q:Wd W,q.w.cell? ⟨b,0,none⟩=some v0):=fun q=>q.slot h rfl
theorem sl2 {W:World} {b:Nat} {T:TypeId} {v0 v1:Value} {r:List Value} (h:Hid (W.heap[b]?=some (.cells (v0 ::v1 ::r).toArray T (0,0)))):(∀q:Wd W,q.w.cell? ⟨b,0,none⟩=some v0)/\(∀q:Wd W,q.w.cell? ⟨b,1,none⟩=some v1):=⟨fun q=>q.slot h rfl,fun q=>q.slot h rfl⟩
theorem sl3 {W:World} {b:Nat} {T:TypeId} {v0 v1 v2:Value} {r:List Value} (h:Hid (W.heap[b]?=some (.cells (v0 ::v1 ::v2 ::r).toArray T (0,0)))):(∀q:Wd W,q.w.cell? ⟨b,0,none⟩=some v0)/\(∀q:Wd W,q.w.cell? ⟨b,1,none⟩=some v1)/\(∀q:Wd W,q.w.cell? ⟨b,2,none⟩=some v2):=⟨fun q=>q.slot h rfl,fun q=>q.slot h rfl,fun q=>q.slot h rfl⟩
theorem sl4 {W:World} {b:Nat} {T:TypeId} {v0 v1 v2 v3:Value} {r:List Value} (h:Hid (W.heap[b]?=some (.cells (v0 ::v1 ::v2 ::v3 ::r).toArray T (0,0)))):(∀q:Wd W,q.w.cell? ⟨b,0,none⟩=some v0)/\(∀q:Wd W,q.w.cell? ⟨b,1,none⟩=some v1)/\(∀q:Wd W,q.w.cell? ⟨b,2,none⟩=some v2)/\(∀q:Wd W,q.w.cell? ⟨b,3,none⟩=some v3):=⟨fun q=>q.slot h rfl,fun q=>q.slot h rfl,fun q=>q.slot h rfl,fun q=>q.slot h rfl⟩
theorem sl5 {W:World} {b:Nat} {T:TypeId} {v0 v1 v2 v3 v4:Value} {r:List Value} (h:Hid (W.heap[b]?=some (.cells (v0 ::v1 ::v2 ::v3 ::v4 ::r).toArray T (0,0)))):(∀q:Wd W,q.w.cell? ⟨b,0,none⟩=some v0)/\(∀q:Wd W,q.w.cell? ⟨b,1,none⟩=some v1)/\(∀q:Wd W,q.w.cell? ⟨b,2,none⟩=some v2)/\(∀q:Wd W,q.w.cell? ⟨b,3,none⟩=some v3)/\(∀q:Wd W,q.w.cell? ⟨b,4,none⟩=some v4):=⟨fun q=>q.slot h rfl,fun q=>q.slot h rfl,fun q=>q.slot h rfl,fun q=>q.slot h rfl,fun q=>q.slot h rfl⟩
theorem sl6 {W:World} {b:Nat} {T:TypeId} {v0 v1 v2 v3 v4 v5:Value} {r:List Value} (h:Hid (W.heap[b]?=some (.cells (v0 ::v1 ::v2 ::v3 ::v4 ::v5 ::r).toArray T (0,0)))):(∀q:Wd W,q.w.cell? ⟨b,0,none⟩=some v0)/\(∀q:Wd W,q.w.cell? ⟨b,1,none⟩=some v1)/\(∀q:Wd W,q.w.cell? ⟨b,2,none⟩=some v2)/\(∀q:Wd W,q.w.cell? ⟨b,3,none⟩=some v3)/\(∀q:Wd W,q.w.cell? ⟨b,4,none⟩=some v4)/\(∀q:Wd W,q.w.cell? ⟨b,5,none⟩=some v5):=⟨fun q=>q.slot h rfl,fun q=>q.slot h rfl,fun q=>q.slot h rfl,fun q=>q.slot h rfl,fun q=>q.slot h rfl,fun q=>q.slot h rfl⟩
theorem sl7 {W:World} {b:Nat} {T:TypeId} {v0 v1 v2 v3 v4 v5 v6:Value} {r:List Value} (h:Hid (W.heap[b]?=some (.cells (v0 ::v1 ::v2 ::v3 ::v4 ::v5 ::v6 ::r).toArray T (0,0)))):(∀q:Wd W,q.w.cell? ⟨b,0,none⟩=some v0)/\(∀q:Wd W,q.w.cell? ⟨b,1,none⟩=some v1)/\(∀q:Wd W,q.w.cell? ⟨b,2,none⟩=some v2)/\(∀q:Wd W,q.w.cell? ⟨b,3,none⟩=some v3)/\(∀q:Wd W,q.w.cell? ⟨b,4,none⟩=some v4)/\(∀q:Wd W,q.w.cell? ⟨b,5,none⟩=some v5)/\(∀q:Wd W,q.w.cell? ⟨b,6,none⟩=some v6):=⟨fun q=>q.slot h rfl,fun q=>q.slot h rfl,fun q=>q.slot h rfl,fun q=>q.slot h rfl,fun q=>q.slot h rfl,fun q=>q.slot h rfl,fun q=>q.slot h rfl⟩
theorem sl8 {W:World} {b:Nat} {T:TypeId} {v0 v1 v2 v3 v4 v5 v6 v7:Value} {r:List Value} (h:Hid (W.heap[b]?=some (.cells (v0 ::v1 ::v2 ::v3 ::v4 ::v5 ::v6 ::v7 ::r).toArray T (0,0)))):(∀q:Wd W,q.w.cell? ⟨b,0,none⟩=some v0)/\(∀q:Wd W,q.w.cell? ⟨b,1,none⟩=some v1)/\(∀q:Wd W,q.w.cell? ⟨b,2,none⟩=some v2)/\(∀q:Wd W,q.w.cell? ⟨b,3,none⟩=some v3)/\(∀q:Wd W,q.w.cell? ⟨b,4,none⟩=some v4)/\(∀q:Wd W,q.w.cell? ⟨b,5,none⟩=some v5)/\(∀q:Wd W,q.w.cell? ⟨b,6,none⟩=some v6)/\(∀q:Wd W,q.w.cell? ⟨b,7,none⟩=some v7):=⟨fun q=>q.slot h rfl,fun q=>q.slot h rfl,fun q=>q.slot h rfl,fun q=>q.slot h rfl,fun q=>q.slot h rfl,fun q=>q.slot h rfl,fun q=>q.slot h rfl,fun q=>q.slot h rfl⟩
theorem ag {P:Program} {id:Nat} {Q:Exit->Act->World->Prop} {a:Act} {w:World} {l:List Oper} (hm:P.follows .mixedOrders=true) (hB:Region.lexB .any l.toArray=true)
  (h:wpQuiet P l.toArray (fun w'=> ∃i:Wd w,w'=i.w) (fun a'=> ∀w',(∃i:Wd w,w'=i.w)->Q .normal a' w') l a):(Ix id l.toArray true).wp P Q a w:=
 wp_region_quiet (C:=fun w'=> ∃i:Wd w,w'=i.w) hm hB ⟨⟨_,(Ft w.heap.size w).drew⟩,rfl⟩ iP

theorem Calls.wide {P:Program} {f:FuncId} {args:Array Value} {W:World} {i:Wd W} {v:Value} (h:Calls P f args i.w fun e w'=>e=.returned v/\Below i.w.heap.size i.w w'):Calls P f args i.w fun e w''=>e=.returned v/\∃j:Wd W,w''=j.w:=
 h.mono fun _ w' ⟨he,hb⟩=>⟨he,⟨w',i.b.trans (hb.mono i.b.size)⟩,rfl⟩
namespace Mk

def ku (u n:Nat) (r:ByteArray):Prop:=n<=u/\(if n=0 then [] else Hj n)++r.data.toList=Hj u

def dgB (n:Nat):UInt8:=UInt8.ofNat (48+n % 10)
theorem ku.len {u n:Nat} {r:ByteArray} (h:ku u n r) (h1:u<=9223372036854775807):r.size<=19:=by
 have h2:=congrArg List.length h.2;have h3:=sM (u:=u) (k:=18) af;rw[F5] at h2;rw[Lib.size_eq];omega
theorem ku.step {u n:Nat} {r:ByteArray} (h:ku u n r) (hn:¬n=0):ku u (n / 10) (⟨#[dgB n]⟩++r):=by
 obtain⟨h1,h2⟩:=h;refine⟨by omega,?_⟩;rw[if_neg hn] at h2;rw[<-h2,<-zO n af];simp[dgB]

theorem zP (w:World) (n:Nat):(convert 155 9 (.slice (some ⟨w.heap.size,0,none⟩) 1 1)).run Tryz.prog (w.alloc (.cells #[.int .u8 (48+(n:Int) % 10)] 5))=.ok (.string ⟨#[dgB n]⟩) (w.alloc (.cells #[.int .u8 (48+(n:Int) % 10)] 5)):=
 run_convert_bytes_back (P:=Tryz.prog) _ 155 9 5 ⟨w.heap.size,0,none⟩ 1 [UInt8.ofNat (48+n % 10)] Tryz.underlying155 Tryz.underlying5 Tryz.underlying9 (fun j hj=>by
  simp at hj;subst hj;simp[Addr.add];have:=tS (k:=n % 10) af;omega)

def bm (u:Nat):ByteArray:=⟨#[109]⟩++⟨(Hj u).toArray⟩

theorem gU (u:Nat) (w:World) (h0:0<u) (h1:u<=1152921504606846976):
  Calls Tryz.prog 73 #[.int .i64 u] w fun e w'=>e=.returned (.string (bm u))/\Below w.heap.size w w':=by
 go_enter Tryz.func73,Tryz.ntmps73;go_wp2;go_loopw [0,3] (fun vn vr wr=> ∃(n:Nat) (r:ByteArray),vn=.int .i64 n/\vr=.string r/\ku u n r/\Below w.heap.size w wr) (fun vn _ _=>(intOf vn).toNat);case atStart=>exact⟨u,_,rfl,rfl,⟨Fq _,by rw[if_neg af];simp⟩,Ft _ _⟩
 case round=>
  obtain⟨n,r,rfl,rfl,hd,hb⟩:=hrel;have hle:=Fx hd.1 h1;have hr:=hd.len af;have hr2:(⟨#[dgB n]⟩:ByteArray).size+r.size<=9223372036854775807:=by rw[show (⟨#[dgB n]⟩:ByteArray).size=1 from rfl];omega
  have HD:Hid (ku u n r):=hd;clear hd h1;by_cases hn:n=0
  ·have hn1:¬(0:Int)<n:=af
   have hr3:(⟨#[109]⟩:ByteArray).size+r.size<=9223372036854775807:=by rw[show (⟨#[109]⟩:ByteArray).size=1 from rfl];omega
   go_wp2;go_ret;refine⟨?_,hb⟩;have:=HD.2;rw[if_pos hn] at this;unfold bm;rw[<-this];rfl
  ·have hn1:(0:Int)<n:=af
   have hcv:=zP wr n;have hmd:(0:Int)<=(n:Int) % 10:=af
   go_wp2;go_roundw;case rel=>
    refine⟨n / 10,_,by go_num,rfl,HD.step hn,?_⟩;exact hb.alloc (by have:=hb.size;omega) _
   case measure=>simp[intOf];omega

structure Kept (g:Nat) (w w':World):Prop where
 os:w'.os=w.os
 tape:w'.tape=w.tape
 output:w'.output=w.output
 size:w.heap.size<=w'.heap.size
 block:∀k,k<w.heap.size->¬k=g->w'.heap[k]?=w.heap[k]?
theorem Kept.bZ {g:Nat} {w w':World} (h:Below w.heap.size w w'):Kept g w w':=⟨h.os,h.tape,h.output,h.size,fun k hk _=>h.block k hk⟩
theorem Kept.trans {g:Nat} {a b c:World} (h:Kept g a b) (k:Kept g b c):Kept g a c:=⟨k.os.trans h.os,k.tape.trans h.tape,k.output.trans h.output,Fx h.size k.size,fun i hi hn=>(k.block i (FC hi h.size) hn).trans (h.block i hi hn)⟩
theorem Kept.set {g i:Nat} {w w':World} {v:Value} (h:Kept g w w'):Kept g w (w'.setCell ⟨g,i,none⟩ v):=
 ⟨h.os,h.tape,h.output,by simpa[Gc] using h.size,fun k hk hn=>(Fm _ _ _ _ hn).trans (h.block k hk hn)⟩
def zW (k n:Nat) (cur:Array Value):Prop:=∀j,j<n->cur[j]?=some (.string (bm (k+j)))
def Bd (g k len n:Nat) (w:World) (e:Ending) (w':World):Prop:=
 e=.returned (.int .i64 ((k+len:Nat):Int))/\Kept g w w'/\∃cur,w'.heap[g]?=some (.cells cur 9 (0,0))/\zW k len cur/\cur.size=n

theorem C6 (k i:Nat) (h0:0<k) (h1:k+i<=1152921504606846976) (w:World):Calls Tryz.prog 73 #[.int .i64 ((k:Int)+(i:Int))] w fun e w'=>e=.returned (.string (bm (k+i)))/\Below w.heap.size w w':=by
 have h:=gU (k+i) w af h1;rw[Int.natCast_add] at h;exact h

theorem tv (g len cap k:Nat) (cur:Array Value) (w:World) (hg:w.heap[g]?=some (.cells cur 9 (0,0))) (hl:len<=cur.size) (hk:0<k) (hk2:k+len<=1152921504606846976):
  Calls Tryz.prog 74 #[.slice (some ⟨g,0,none⟩) len cap,.int .i64 k] w (Bd g k len cur.size w):=by
 have HG:=aa hg;clear hg;go_enter Tryz.func74,Tryz.ntmps74;go_wp2;go_loopw [1,5] (fun vk vi wr=> ∃(i:Nat) (cu:Array Value),i<=len/\vk=.int .i64 ((k+i:Nat):Int)/\vi=.int .i64 i/\cu.size=cur.size/\Hid (wr.heap[g]?=some (.cells cu 9 (0,0)))/\Hid (zW k i cu)/\Hid (Kept g w wr)) (fun _ vi _=>len - (intOf vi).toNat);case atStart=>exact⟨0,cur,by omega,by simp,rfl,rfl,HG,fun j hj=>by omega,Kept.bZ (Ft _ _)⟩
 case round=>
  obtain⟨i,cu,hi,rfl,rfl,hcs,HC,HM,HK⟩:=hrel;by_cases hlt:i<len
  ·have HT:=aa (C6 k i af af);go_wp2_with fail;refine (HT.out _).mono ?_;rintro e w2 ⟨rfl,hb2⟩;have g2:=(hb2.block g (ae HC.out)).trans HC.out;have hcl:w2.cell? ⟨g,i,none⟩=some (cu[i]'(by omega)):=by rw[aw g2];exact Array.getElem?_eq_getElem _
   have hfr:w2.frozen? ⟨g,i,none⟩=false:=by simp[World.frozen?,g2]
   have HG2:=aa g2;have HK2:=aa (HK.trans (Kept.bZ (g:=g) hb2));clear hb2 g2;go_wp2_with fail;refine⟨⟨i+1,cu.setIfInBounds i (.string (bm (k+i))),by omega,by go_num,by go_num,by simp[hcs],?_,?_,HK2.set⟩,by simp[intOf];omega⟩
   ·exact aA HG2.out _
   ·intro j hj;rw[FI];by_cases e:i=j
    ·subst e;rw[if_pos rfl,if_pos af]
    ·rw[if_neg e];exact HM.out j af
  ·obtain rfl:i=len:=af
   go_wp2;go_ret;exact⟨rfl,HK.out,cu,HC.out,HM.out,hcs⟩

theorem tO (a:Option Addr) (len cap k:Nat) (zs:List ByteArray) (w:World) (hr:ay w a len cap zs) (hk:0<k) (hk2:k+len<=1152921504606846976) (hz:∀(j:Nat) x,zs[j]?=some x->x=bm (k+j)):
  Calls Tryz.prog 101 #[.slice a len cap,.int .i64 k] w fun e w'=>e=.returned (.int .i64 ((k+len:Nat):Int))/\Below w.heap.size w w':=by
 have HR:=aa hr;have HZ:=aa hz;clear hr hz;go_enter Tryz.func101,Tryz.ntmps101;go_wp2;go_loopw [1,5] (fun vk vi wr=> ∃(i:Nat),i<=len/\vk=.int .i64 ((k+i:Nat):Int)/\vi=.int .i64 i/\Hid (Below w.heap.size w wr)) (fun _ vi _=>len - (intOf vi).toNat);case atStart=>exact⟨0,by omega,by simp,rfl,Ft _ _⟩
 case round=>
  obtain⟨i,hi,rfl,rfl,HB⟩:=hrel;by_cases hlt:i<len
  ·obtain⟨b,o,x,rfl,hb,hx,hc,-⟩:=(HR.below HB.out).at hlt;obtain rfl:=HZ.out i x hx;have HT:=aa (C6 k i af af);have hb':=aa hb;go_wp2_with fail;have hne:=Wd.ne wr;have cc:∀q:Wd wr,q.w.cell? ⟨b,o+i,none⟩=some (.string (bm (k+i))):=fun q=>(q.cell hb'.out).trans hc;refine ag ar ar ?_;repeat (go_big_quiet_step (first|(go_at_call 73;exact Calls.wide (HT.out _))|fail))
   refine wpQuiet_nil ?_;rintro _ ⟨q,rfl⟩;go_wp2_with fail;exact⟨⟨i+1,by omega,by go_num,by go_num,HB.trans (q.b.mono HB.size)⟩,by simp[intOf];omega⟩
  ·obtain rfl:i=len:=af
   go_wp2;go_ret;exact⟨rfl,HB.out⟩

theorem qY (a:Option Addr) (cap:Nat) (u:Int) (w:World):
  Calls Tryz.prog 74 #[.slice a 0 cap,.int .i64 u] w fun e w'=>e=.returned (.int .i64 u)/\Below w.heap.size w w':=by
 go_enter Tryz.func74,Tryz.ntmps74;go_wp2;go_loopw [1,5] (fun vk vi wr=>vk=.int .i64 u/\vi=.int .i64 0/\wr=w) (fun _ vi _=>(intOf vi).toNat);case atStart=>exact⟨rfl,rfl,rfl⟩
 case round=>
  obtain⟨rfl,rfl,rfl⟩:=hrel;go_wp2;go_ret;exact⟨rfl,Ft _ _⟩

theorem bG {u:Nat} (h:u<=1152921504606846976):(bm u).size<=9223372036854775807:=by
 have h3:=sM (u:=u) (k:=18) af;unfold bm;rw[ByteArray.size_append];have:(⟨(Hj u).toArray⟩:ByteArray).size=(Hj u).length:=by simp[ByteArray.size]
 rw[this,show (⟨#[109]⟩:ByteArray).size=1 from rfl];omega
end Mk
end Go.Proofs.YtpejepeekdjfoaaGreatDoor

namespace Go.Proofs.YtpejepeekdjfoaaGreatDoor
open Go.RowKit
namespace Rc
open Mk

inductive Fv where
 | s (b:ByteArray)
 | i (n:Int)
 | b (x:Bool)
 | l (zs:List ByteArray)
def Fv.val:Fv->Option Value
 | .s t=>some (.string t)
 | .i n=>some (.int .i64 n)
 | .b x=>some (.bool x)
 | .l _=>none
def Fv.fit:Fv->Prop
 | .s t=>t.size<=9223372036854775807
 | _=>True
def Fv.Is (w:World):Fv->Value->Prop
 | .s t,v=>v=.string t/\t.size<=9223372036854775807
 | .i n,v=>v=.int .i64 n
 | .b x,v=>v=.bool x
 | .l zs,v=> ∃a len cap,v=.slice a len cap/\ay w a len cap zs
theorem Fv.Is.below {w w':World} {f:Fv} {v:Value} (h:f.Is w v) (hb:Below w.heap.size w w'):f.Is w' v:=by
 cases f with
 | l zs=>obtain⟨a,len,cap,h1,h2⟩:=h;exact⟨a,len,cap,h1,h2.below hb⟩
 | _=>exact h
def RAt (w:World) (b o:Nat) (r:List Fv):Prop:=∀(i:Nat) f,r[i]?=some f->∃v,w.cell? ⟨b,o+i,none⟩=some v/\f.Is w v
theorem RAt.below {w w':World} {b o:Nat} {r:List Fv} (h:RAt w b o r) (hl:b<w.heap.size) (hb:Below w.heap.size w w'):RAt w' b o r:=by
 intro i f hi;obtain⟨v,h1,h2⟩:=h i f hi;exact⟨v,(ak hb hl).trans h1,h2.below hb⟩
def aN (w:World) (a:Option Addr) (len cap m:Nat) (rs:List (List Fv)):Prop:=
 rs.length=len/\len<=cap/\cap<=9223372036854775807/\(rs=[]\/∃b o,a=some ⟨b,o,none⟩/\b<w.heap.size/\∀(j:Nat) r,rs[j]?=some r->RAt w b (o+j*m) r)
theorem aN.below {w w':World} {a:Option Addr} {len cap m:Nat} {rs:List (List Fv)} (h:aN w a len cap m rs) (hb:Below w.heap.size w w'):aN w' a len cap m rs:=by
 exact yu
theorem aN.at {w:World} {a:Option Addr} {len cap m:Nat} {rs:List (List Fv)} (h:aN w a len cap m rs) {j:Nat} (hj:j<len):
  ∃b o r,a=some ⟨b,o,none⟩/\b<w.heap.size/\rs[j]?=some r/\RAt w b (o+j*m) r:=by
 obtain⟨h1,h2,h3,h5⟩:=h;have hx:rs[j]?=some (rs[j]'(by omega)):=Fs _;exact xJ
structure aC (S:Nat->Prop) (w w':World):Prop where
 os:w'.os=w.os
 tape:w'.tape=w.tape
 output:w'.output=w.output
 size:w.heap.size<=w'.heap.size
 block:∀k,k<w.heap.size->¬S k->w'.heap[k]?=w.heap[k]?
theorem aC.refl (S:Nat->Prop) (w:World):aC S w w:=⟨rfl,rfl,rfl,Fq _,fun _ _ _=>rfl⟩
theorem aC.trans {S:Nat->Prop} {a b c:World} (h:aC S a b) (k:aC S b c):aC S a c:=⟨k.os.trans h.os,k.tape.trans h.tape,k.output.trans h.output,Fx h.size k.size,fun i hi hn=>(k.block i (FC hi h.size) hn).trans (h.block i hi hn)⟩
theorem aC.bZ {S:Nat->Prop} {w w':World} (k:Below w.heap.size w w'):aC S w w':=⟨k.os,k.tape,k.output,k.size,fun i hi _=>k.block i hi⟩
theorem aC.below {S:Nat->Prop} {a b c:World} (h:aC S a b) (k:Below b.heap.size b c):aC S a c:=h.trans (aC.bZ k)
theorem aC.mono {S S':Nat->Prop} {w w':World} (h:aC S w w') (hs:∀k,S k->S' k):aC S' w w':=⟨h.os,h.tape,h.output,h.size,fun k hk hn=>h.block k hk (fun x=>hn (hs k x))⟩
theorem aC.set {S:Nat->Prop} {g i:Nat} {w w':World} {v:Value} (h:aC S w w') (h1:S g):aC S w (w'.setCell ⟨g,i,none⟩ v):=
 ⟨h.os,h.tape,h.output,by simpa[Gc] using h.size,fun k hk hn=>(Fm _ _ _ _ (show k≠g from fun e=>hn (e ▸ h1))).trans (h.block k hk hn)⟩
theorem aC.kept {S:Nat->Prop} {g:Nat} {w w1 w2:World} (h:aC S w w1) (h1:S g) (k:Kept g w1 w2):aC S w w2:=
 h.trans ⟨k.os,k.tape,k.output,k.size,fun i hi hn=>k.block i hi (fun e=>hn (e ▸ h1))⟩
theorem aC.low {S:Nat->Prop} {X:Nat} {w w':World} (h:aC S w w') (hX:X<=w.heap.size) (hS:∀k,S k->X<=k):Below X w w':=⟨h.os,h.tape,h.output,h.size,fun k hk=>h.block k (FC hk hX) (fun s=>by have:=hS k s;omega)⟩

def oW (w:World) (h:Nat) (S:Nat->Prop) (g:Nat) (zs:List ByteArray) (v:Value):Prop:=
 ∃a len cap,v=.slice a len cap/\zs.length=len/\len<=cap/\cap<=9223372036854775807/\(∀(j:Nat) x,zs[j]?=some x->x.size<=9223372036854775807)/\
  (zs=[]\/(a=some ⟨h,0,none⟩/\S h/\¬h=g/\∃cu,w.heap[h]?=some (.cells cu 9 (0,0))/\∀(j:Nat) x,zs[j]?=some x->cu[j]?=some (.string x)))
theorem oW.row {w:World} {h:Nat} {S:Nat->Prop} {g:Nat} {zs:List ByteArray} {a:Option Addr} {len cap:Nat} (k:oW w h S g zs (.slice a len cap)):ay w a len cap zs:=by
 obtain⟨a',l',c',h1,h2,h3,h4,h5,h6⟩:=k;cases h1;refine⟨h2,h3,h4,h5,h6.imp id ?_⟩;rintro⟨q1,q2,q3,cu,q4,q5⟩;exact⟨h,0,q1,ae q4,fun j x hx=>by rw[FV,aw q4];exact q5 j x hx⟩
def Fv.Own (w:World) (h:Nat) (S:Nat->Prop) (g:Nat):Fv->Value->Prop
 | .s t,v=>v=.string t/\t.size<=9223372036854775807
 | .i n,v=>v=.int .i64 n
 | .b x,v=>v=.bool x
 | .l zs,v=>oW w h S g zs v
theorem Fv.Own.is {w:World} {h:Nat} {S:Nat->Prop} {g:Nat} {f:Fv} {v:Value} (k:f.Own w h S g v):f.Is w v:=by
 cases f with
 | l zs=>
  obtain⟨a,len,cap,h1,h2⟩:=k;exact⟨a,len,cap,h1,oW.row (h:=h) (S:=S) (g:=g) (h1 ▸ ⟨a,len,cap,h1,h2⟩)⟩
 | _=>exact k
theorem Fv.Own.Dw {w:World} {h:Nat} {S:Nat->Prop} {g:Nat} {f:Fv} {v:Value} (hv:f.val=some v) (hf:f.fit):f.Own w h S g v:=by
 cases f with
 | s t=>cases hv;exact⟨rfl,hf⟩
 | i n=>cases hv;exact rfl
 | b x=>cases hv;exact rfl
 | l zs=>cases hv

structure dL (w:World) (g m:Nat) (T:TypeId) (rs:List (List Fv)) (S:Nat->Prop) (cur:Array Value) (H:Nat->Nat->Nat):Prop where
 blk:w.heap[g]?=some (.cells cur T (0,0))
 inS:S g
 len:∀(j:Nat) r,rs[j]?=some r->r.length=m
 cell:∀(j:Nat) r,rs[j]?=some r->∀(i:Nat) f,r[i]?=some f->∃v,cur[j*m+i]?=some v/\f.Own w (H j i) S g v
 inj:∀(j:Nat) r (i:Nat) zs (j':Nat) r' (i':Nat) zs',rs[j]?=some r->r[i]?=some (.l zs)->zs≠[]->rs[j']?=some r'->r'[i']?=some (.l zs')->zs'≠[]->H j i=H j' i'->j=j'/\i=i'
def az (w:World) (a:Option Addr) (len cap m:Nat) (T:TypeId) (rs:List (List Fv)) (S:Nat->Prop):Prop:=
 rs.length=len/\len<=cap/\cap<=9223372036854775807/\(rs=[]\/∃g cur H,a=some ⟨g,0,none⟩/\dL w g m T rs S cur H)
theorem dL.aM {w w':World} {g m:Nat} {T:TypeId} {rs:List (List Fv)} {S S':Nat->Prop} {cur:Array Value} {H:Nat->Nat->Nat} (h:dL w g m T rs S cur H) (hk:∀k,k<w.heap.size->S k->w'.heap[k]?=w.heap[k]?) (hs:∀k,k<w.heap.size->S k->S' k):dL w' g m T rs S' cur H:=by
 refine⟨(hk g (ae h.blk) h.inS).trans h.blk,hs g (ae h.blk) h.inS,h.len,fun j r hj i f hi=>?_,h.inj⟩;obtain⟨v,h1,h2⟩:=h.cell j r hj i f hi;refine⟨v,h1,?_⟩;cases f with
 | l zs=>
  obtain⟨a',l',c',h1,h2,h3,h4,h5,h6⟩:=h2;refine⟨a',l',c',h1,h2,h3,h4,h5,h6.imp id ?_⟩;rintro⟨q1,q2,q3,cu,q4,q5⟩;exact⟨q1,hs _ (ae q4) q2,q3,cu,(hk _ (ae q4) q2).trans q4,q5⟩
 | _=>exact h2
theorem az.aM {w w':World} {a:Option Addr} {len cap m:Nat} {T:TypeId} {rs:List (List Fv)} {S S':Nat->Prop} (h:az w a len cap m T rs S) (hk:∀k,k<w.heap.size->S k->w'.heap[k]?=w.heap[k]?) (hs:∀k,k<w.heap.size->S k->S' k):az w' a len cap m T rs S':=by
 obtain⟨h1,h2,h3,h4⟩:=h;refine⟨h1,h2,h3,h4.imp id ?_⟩;rintro⟨g,cur,H,h5,h6⟩;exact⟨g,cur,H,h5,h6.aM hk hs⟩
theorem az.below {w w':World} {a:Option Addr} {len cap m:Nat} {T:TypeId} {rs:List (List Fv)} {S:Nat->Prop} (h:az w a len cap m T rs S) (hb:Below w.heap.size w w'):az w' a len cap m T rs S:=h.aM (fun k hk _=>hb.block k hk) (fun _ _ s=>s)
theorem az.kept {w w':World} {a:Option Addr} {len cap m:Nat} {T:TypeId} {rs:List (List Fv)} {S S':Nat->Prop} (h:az w a len cap m T rs S) (hb:aC S' w w') (hd:∀k,S k->¬S' k):az w' a len cap m T rs S:=h.aM (fun k hk s=>hb.block k hk (hd k s)) (fun _ _ s=>s)
theorem az.bA {w:World} {a:Option Addr} {len cap m:Nat} {T:TypeId} {rs:List (List Fv)} {S S':Nat->Prop} (h:az w a len cap m T rs S) (hs:∀k,k<w.heap.size->S k->S' k):az w a len cap m T rs S':=h.aM (fun _ _ _=>rfl) hs
theorem dL.rat {w:World} {g m:Nat} {T:TypeId} {rs:List (List Fv)} {S:Nat->Prop} {cur:Array Value} {H:Nat->Nat->Nat} (h:dL w g m T rs S cur H) {j:Nat} {r:List Fv} (hj:rs[j]?=some r):RAt w g (j*m) r:=by
 intro i f hi;obtain⟨v,h1,h2⟩:=h.cell j r hj i f hi;exact⟨v,(aw h.blk _).trans h1,h2.is⟩
theorem az.row {w:World} {a:Option Addr} {len cap m:Nat} {T:TypeId} {rs:List (List Fv)} {S:Nat->Prop} (h:az w a len cap m T rs S):aN w a len cap m rs:=by
 obtain⟨h1,h2,h3,h4⟩:=h;refine⟨h1,h2,h3,h4.imp id ?_⟩;rintro⟨g,cur,H,h5,h6⟩;exact⟨g,0,h5,ae h6.blk,fun j r hj=>by rw[FV];exact h6.rat hj⟩
theorem az.nil {w:World} (a:Option Addr) (cap m:Nat) (T:TypeId) (S:Nat->Prop) (h:cap<=9223372036854775807):az w a 0 cap m T [] S:=⟨rfl,Nat.zero_le _,h,.inl rfl⟩

theorem AR {m j i j' i':Nat} (hi:i<m) (hi':i'<m) (h:j*m+i=j'*m+i'):j=j'/\i=i':=by
 have hm:0<m:=af
 have e1:(j*m+i) / m=j:=by rw[Nat.mul_comm,Nat.mul_add_div hm,Nat.div_eq_of_lt hi];rfl
 have e2:(j'*m+i') / m=j':=by rw[Nat.mul_comm,Nat.mul_add_div hm,Nat.div_eq_of_lt hi'];rfl
 have:j=j':=by rw[<-e1,<-e2,h]
 subst this;exact⟨rfl,by omega⟩
theorem dD {α:Type} {rs:List α} {j k:Nat} {r:α} (hj:j<rs.length):(rs.set j r)[k]?=if j=k then some r else rs[k]?:=by
 rw[Ii];by_cases h:j=k
 ·subst h;simp[hj]
 ·simp[h]
def NoH (N:Nat->Prop) (rs:List (List Fv)) (H:Nat->Nat->Nat):Prop:=∀(j:Nat) r (i:Nat) zs,rs[j]?=some r->r[i]?=some (.l zs)->zs≠[]->¬N (H j i)
structure StJ (g m:Nat) (T:TypeId) (S N:Nat->Prop) (w wr:World) (rs:List (List Fv)) (j:Nat) (r:List Fv):Prop where
 own:∃cur H,dL wr g m T (rs.set j r) S cur H/\NoH N (rs.set j r) H
 kept:aC S w wr
 lt:j<rs.length
section
variable {g m:Nat} {T:TypeId} {S N:Nat->Prop} {w wr w2:World} {rs:List (List Fv)} {j:Nat} {r:List Fv}
theorem StJ.below (h:StJ g m T S N w wr rs j r) (hb:Below wr.heap.size wr w2):StJ g m T S N w w2 rs j r:=by
 obtain⟨⟨cur,H,h1,hN⟩,h2,h3⟩:=h;exact⟨⟨cur,H,h1.aM (fun k hk _=>hb.block k hk) (fun _ _ s=>s),hN⟩,h2.below hb,h3⟩
theorem StJ.fresh (h:StJ g m T S N w wr rs j r) (hb:Below wr.heap.size wr w2):StJ g m T S (fun k=>wr.heap.size<=k) w w2 rs j r:=by
 obtain⟨⟨cur,H,h1,hN⟩,h2,h3⟩:=h;refine⟨⟨cur,H,h1.aM (fun k hk _=>hb.block k hk) (fun _ _ s=>s),fun j' r' i' zs hj hi hz hk=>?_⟩,h2.below hb,h3⟩;obtain⟨v,h4,a,len,cap,rfl,h5,h6,h7,h8,h9⟩:=h1.cell j' r' hj i' _ hi;rcases h9 with h9|⟨q1,q2,q3,cu,q4,q5⟩
 ·exact hz h9
 ·have:=ae q4;omega
theorem StJ.get (h:StJ g m T S N w wr rs j r):(rs.set j r)[j]?=some r:=by rw[dD h.lt,if_pos rfl]
theorem StJ.cell (h:StJ g m T S N w wr rs j r) {i:Nat} {f:Fv} (hi:r[i]?=some f):∃v,wr.cell? ⟨g,j*m+i,none⟩=some v:=by
 obtain⟨⟨cur,H,h1,hN⟩,h2,h3⟩:=h;obtain⟨v,h4,h5⟩:=h1.cell j r (by rw[dD h3,if_pos rfl]) i f hi;exact⟨v,(aw h1.blk _).trans h4⟩
theorem StJ.cH (h:StJ g m T S N w wr rs j r) (i:Nat):wr.frozen? ⟨g,i,none⟩=false:=by
 obtain⟨⟨cur,H,h1,hN⟩,h2,h3⟩:=h;exact av h1.blk i
theorem StJ.slice (h:StJ g m T S N w wr rs j r) {i:Nat} {zs:List ByteArray} (hi:r[i]?=some (.l zs)):∃a len cap,wr.cell? ⟨g,j*m+i,none⟩=some (.slice a len cap)/\zs.length=len:=by
 obtain⟨⟨cur,H,h1,hN⟩,h2,h3⟩:=h;obtain⟨v,h4,a,len,cap,rfl,h5,-⟩:=h1.cell j r (by rw[dD h3,if_pos rfl]) i _ hi;exact⟨a,len,cap,(aw h1.blk _).trans h4,h5⟩
theorem lR (hlt:j<rs.length) {f:Fv} {i:Nat} (hl:∀(j':Nat) r',(rs.set j r)[j']?=some r'->r'.length=m):∀(j':Nat) r',(rs.set j (r.set i f))[j']?=some r'->r'.length=m:=by
 intro j' r' hj';rw[dD hlt] at hj';split at hj'
 ·cases hj';rw[List.length_set];exact hl j r (by rw[dD hlt,if_pos rfl])
 ·exact hl j' r' (by rw[dD hlt,if_neg (by assumption)];exact hj')
theorem eH (hlt:j<rs.length) {f:Fv} {i:Nat} (hil:i<r.length) {j':Nat} {r':List Fv} {i':Nat} {f':Fv} (hj':(rs.set j (r.set i f))[j']?=some r') (hi':r'[i']?=some f'):
  (j'=j/\i'=i/\f'=f)\/(¬(j'=j/\i'=i)/\∃r0,(rs.set j r)[j']?=some r0/\r0[i']?=some f'):=by
 rw[dD hlt] at hj' ⊢;split at hj'
 ·next e=>
  cases hj';rw[if_pos e];rw[Ii] at hi';split at hi'
  ·next e2=>
   try rw[if_pos hil] at hi'
   exact .inl ⟨e.symm,e2.symm,(Fo hi').symm⟩
  ·next e2=>exact .inr ⟨fun q=>e2 q.2.symm,r,rfl,hi'⟩
 ·next e=>
  rw[if_neg e];exact .inr ⟨fun q=>e q.1.symm,r',hj',hi'⟩
theorem Fv.Own.bC {k:Nat} {v:Value} {u:Fv} {z:Value} {h:Nat} (hu:u.Own wr h S g z):u.Own (wr.setCell ⟨g,k,none⟩ v) h S g z:=by
 cases u with
 | l zs=>
  obtain⟨a',l',c',k1,k2,k3,k4,k5,k6⟩:=hu;refine⟨a',l',c',k1,k2,k3,k4,k5,k6.imp id ?_⟩;rintro⟨q1,q2,q3,cu,q4,q5⟩;exact⟨q1,q2,q3,cu,(Fm _ _ _ _ q3).trans q4,q5⟩
 | _=>exact hu
theorem StJ.set (h:StJ g m T S N w wr rs j r) {i:Nat} {old:Fv} (hi:r[i]?=some old) (f:Fv) {v:Value} (hv:f.val=some v) (hf:f.fit):StJ g m T S N w (wr.setCell ⟨g,j*m+i,none⟩ v) rs j (r.set i f):=by
 have hget:=h.get;obtain⟨⟨cur,H,h1,hN⟩,h2,h3⟩:=h;have hil:i<r.length:=(Fk.1 hi).1;have hrm:=h1.len j r hget;obtain⟨v0,hc0,-⟩:=h1.cell j r hget i _ hi;have hin:j*m+i<cur.size:=(FE.1 hc0).1;have hnl:∀zs,¬.l zs=f:=fun zs e=>by subst e;cases hv
 have back:∀(j':Nat) r' (i':Nat) zs',(rs.set j (r.set i f))[j']?=some r'->r'[i']?=some (.l zs')->∃r0,(rs.set j r)[j']?=some r0/\r0[i']?=some (.l zs'):=by
  intro j' r' i' zs' hj' hi';rcases eH h3 hil hj' hi' with ⟨_,_,e⟩|⟨_,q⟩
  ·exact absurd e (hnl _)
  ·exact q
 refine⟨⟨cur.setIfInBounds (j*m+i) v,H,⟨aA h1.blk v,h1.inS,lR h3 h1.len,fun j' r' hj' i' f' hi'=>?_,fun j' r' i' zs' j2 r2 i2 zs2 hj' hi' hz' hj2 hi2 hz2 hH=>?_⟩,fun j' r' i' zs' hj' hi' hz'=>?_⟩,h2.set h1.inS,h3⟩
 ·rcases eH h3 hil hj' hi' with ⟨rfl,rfl,rfl⟩|⟨hne,r0,q1,q2⟩
  ·exact⟨v,by rw[IH hin],Fv.Own.Dw hv hf⟩
  ·obtain⟨v',k1,k2⟩:=h1.cell j' r0 q1 i' f' q2;have hil':i'<r0.length:=(Fk.1 q2).1;have hrm':=h1.len j' r0 q1;refine⟨v',?_,k2.bC⟩;exact yf
 ·obtain⟨r0,b1,b2⟩:=back j' r' i' zs' hj' hi';obtain⟨r3,b3,b4⟩:=back j2 r2 i2 zs2 hj2 hi2;exact h1.inj j' r0 i' zs' j2 r3 i2 zs2 b1 b2 hz' b3 b4 hz2 hH
 ·obtain⟨r0,b1,b2⟩:=back j' r' i' zs' hj' hi';exact hN j' r0 i' zs' b1 b2 hz'
theorem StJ.Dc (h:StJ g m T S N w wr rs j r) {i:Nat} {old:Fv} (hi:r[i]?=some old) {b:Nat} (zs:List ByteArray) {len cap:Nat} (hb:zs≠[]->N b) (hv:oW wr b S g zs (.slice (some ⟨b,0,none⟩) len cap)):
  StJ g m T S (fun k=>N k/\¬k=b) w (wr.setCell ⟨g,j*m+i,none⟩ (.slice (some ⟨b,0,none⟩) len cap)) rs j (r.set i (.l zs)):=by
 have hget:=h.get;obtain⟨⟨cur,H,h1,hN⟩,h2,h3⟩:=h;have hil:i<r.length:=(Fk.1 hi).1;have hrm:=h1.len j r hget;obtain⟨v0,hc0,-⟩:=h1.cell j r hget i _ hi;have hin:j*m+i<cur.size:=(FE.1 hc0).1;have hH:∀j' i',¬(j'=j/\i'=i)->(if j'=j/\i'=i then b else H j' i')=H j' i':=fun j' i' hn=>if_neg hn;refine⟨⟨cur.setIfInBounds (j*m+i) (.slice (some ⟨b,0,none⟩) len cap),fun j' i'=>if j'=j/\i'=i then b else H j' i',⟨aA h1.blk _,h1.inS,lR h3 h1.len,fun j' r' hj' i' f' hi'=>?_,fun j' r' i' zs' j2 r2 i2 zs2 hj' hi' hz' hj2 hi2 hz2 hHH=>?_⟩,fun j' r' i' zs' hj' hi' hz'=>?_⟩,h2.set h1.inS,h3⟩
 ·rcases eH h3 hil hj' hi' with ⟨rfl,rfl,rfl⟩|⟨hne,r0,q1,q2⟩
  ·refine⟨_,by rw[IH hin],?_⟩;rw[if_pos ⟨rfl,rfl⟩];exact Fv.Own.bC (u:=.l zs) hv
  ·obtain⟨v',k1,k2⟩:=h1.cell j' r0 q1 i' f' q2;have hil':i'<r0.length:=(Fk.1 q2).1;have hrm':=h1.len j' r0 q1;refine⟨v',?_,?_⟩
   ·exact yf
   ·rw[if_neg hne];exact k2.bC
 ·try simp only[] at hHH
  rcases eH h3 hil hj' hi' with ⟨rfl,rfl,e1⟩|⟨hne,r0,q1,q2⟩
  ·rcases eH h3 hil hj2 hi2 with ⟨rfl,rfl,e2⟩|⟨hne2,r3,q3,q4⟩
   ·exact⟨rfl,rfl⟩
   ·rw[if_pos ⟨rfl,rfl⟩,if_neg hne2] at hHH;cases e1;exact absurd (hHH ▸ hb hz') (hN _ _ _ _ q3 q4 hz2)
  ·rcases eH h3 hil hj2 hi2 with ⟨rfl,rfl,e2⟩|⟨hne2,r3,q3,q4⟩
   ·rw[if_neg hne,if_pos ⟨rfl,rfl⟩] at hHH;cases e2;exact absurd (hHH ▸ hb hz2) (hN _ _ _ _ q1 q2 hz')
   ·rw[if_neg hne,if_neg hne2] at hHH;exact h1.inj _ _ _ _ _ _ _ _ q1 q2 hz' q3 q4 hz2 hHH
 ·try simp only[]
  rcases eH h3 hil hj' hi' with ⟨rfl,rfl,e1⟩|⟨hne,r0,q1,q2⟩
  ·rw[if_pos ⟨rfl,rfl⟩];exact fun q=>q.2 rfl
  ·rw[if_neg hne];exact fun q=>hN _ _ _ _ q1 q2 hz' q.1
end

def dJ (u:Int) (l:Nat):List ByteArray:=(Gq l).map fun j=>bm (u.toNat+j)
theorem aY (u:Int) (l:Nat):(dJ u l).length=l:=by simp[dJ]
theorem iE {u:Int} {l j:Nat} {y:ByteArray} (h:(dJ u l)[j]?=some y):y=bm (u.toNat+j)/\j<l:=by
 have hj:j<l:=by have:=(Fk.1 h).1;rw[aY] at this;exact this
 unfold dJ at h;rw[FA,List.getElem?_range hj] at h;simp at h;exact⟨h.symm,hj⟩
theorem mZ {α:Type} {l:List α} {i:Nat} {x:α} (h:l[i]?=some x):l.set i x=l:=by
 apply IG;intro k;rw[Ii];split
 ·next e=>
  subst e;rw[if_pos (Fk.1 h).1,h]
 ·rfl

theorem StJ.ze {g m:Nat} {T:TypeId} {S N:Nat->Prop} {w wr:World} {rs:List (List Fv)} {j:Nat} {r:List Fv} (h:StJ g m T S N w wr rs j r) {i:Nat} {zs:List ByteArray} (hi:r[i]?=some (.l zs)) {a:Option Addr} {l c:Nat} (hc:wr.cell? ⟨g,j*m+i,none⟩=some (.slice a l c)) (u:Int) (hu0:0<u) (hu1:u+l<=1152921504606846976):
  Calls Tryz.prog 74 #[.slice a l c,.int .i64 u] wr fun e w'=>e=.returned (.int .i64 (u+l))/\StJ g m T S N w w' rs j (r.set i (.l (dJ u l))):=by
 have hget:=h.get;have hst:=h;obtain⟨⟨cur,H,h1,hN⟩,h2,h3⟩:=h;have hil:i<r.length:=(Fk.1 hi).1;obtain⟨v0,hc0,a',l',c',rfl,k2,k3,k4,k5,k6⟩:=h1.cell j r hget i _ hi;rw[aw h1.blk,hc0] at hc;cases hc;obtain⟨n,rfl⟩:∃n:Nat,u=n:=⟨u.toNat,by omega⟩;by_cases hz:zs=[]
 ·subst hz;obtain rfl:l=0:=by simpa using k2.symm
  refine (qY a c n wr).mono ?_;rintro e w' ⟨rfl,hb⟩;refine⟨by simp,?_⟩;have:dJ (n:Int) 0=[]:=rfl;rw[this,mZ hi];exact hst.below hb
 rcases k6 with k6|⟨q1,q2,q3,cu,q4,q5⟩
 ·exact absurd k6 hz
 subst q1;have hls:l<=cu.size:=by
  rcases Nat.eq_zero_or_pos l with e|e
  ·omega
  ·have hx:zs[l - 1]?=some (zs[l - 1]'(by omega)):=Fs _;have:=(FE.1 (q5 _ _ hx)).1;omega
 refine (tv (H j i) l c n cu wr q4 hls af af).mono ?_;rintro e w' ⟨rfl,hk,cu',hg',hm,hsz⟩;refine⟨by simp,?_⟩;have back:∀(j':Nat) r' (i':Nat) zs',(rs.set j (r.set i (.l (dJ (n:Int) l))))[j']?=some r'->r'[i']?=some (.l zs')->zs'≠[]->∃r0 zs0,(rs.set j r)[j']?=some r0/\r0[i']?=some (.l zs0)/\zs0≠[]:=by
  intro j' r' i' zs' hj' hi' hz';rcases eH h3 hil hj' hi' with ⟨rfl,rfl,e⟩|⟨_,r0,p1,p2⟩
  ·exact⟨r,zs,hget,hi,hz⟩
  ·exact⟨r0,zs',p1,p2,hz'⟩
 refine⟨⟨cur,H,⟨(hk.block _ (ae h1.blk) (fun e=>q3 e.symm)).trans h1.blk,h1.inS,lR h3 h1.len,fun j' r' hj' i' f' hi'=>?_,fun j' r' i' zs' j2 r2 i2 zs2 hj' hi' hz' hj2 hi2 hz2 hH=>?_⟩,fun j' r' i' zs' hj' hi' hz'=>?_⟩,h2.kept q2 hk,h3⟩
 ·rcases eH h3 hil hj' hi' with ⟨rfl,rfl,rfl⟩|⟨hne,r0,p1,p2⟩
  ·refine⟨_,hc0,_,_,_,rfl,aY _ _,k3,k4,fun t x hx=>?_,.inr ⟨rfl,q2,q3,cu',hg',fun t x hx=>?_⟩⟩
   ·obtain⟨rfl,ht⟩:=iE hx;exact bG bF
   ·obtain⟨rfl,ht⟩:=iE hx;have:=hm t ht;simpa using this
  ·obtain⟨v',p3,p4⟩:=h1.cell j' r0 p1 i' f' p2;refine⟨v',p3,?_⟩;cases f' with
   | l zs'=>
    obtain⟨a',l',c',e1,e2,e3,e4,e5,e6⟩:=p4;refine⟨a',l',c',e1,e2,e3,e4,e5,?_⟩
    by_cases hz':zs'=[]
    ·exact .inl hz'
    rcases e6 with e6|⟨z1,z2,z3,cz,z4,z5⟩
    ·exact .inl e6
    ·refine .inr ⟨z1,z2,z3,cz,(hk.block _ (ae z4) (fun e=>hne (h1.inj _ _ _ _ _ _ _ _ p1 p2 hz' hget hi hz e))).trans z4,z5⟩
   | _=>exact p4
 ·obtain⟨r0,z0,b1,b2,b5⟩:=back j' r' i' zs' hj' hi' hz';obtain⟨r3,z3,b3,b4,b6⟩:=back j2 r2 i2 zs2 hj2 hi2 hz2;exact h1.inj j' r0 i' z0 j2 r3 i2 z3 b1 b2 b5 b3 b4 b6 hH
 ·obtain⟨r0,z0,b1,b2,b5⟩:=back j' r' i' zs' hj' hi' hz';exact hN j' r0 i' z0 b1 b2 b5

theorem StJ.dt {g m:Nat} {T:TypeId} {S N:Nat->Prop} {w wr:World} {rs:List (List Fv)} {j:Nat} {r:List Fv} (h:StJ g m T S N w wr rs j r) {i:Nat} {old:Fv} (hi:r[i]?=some old) (t:ByteArray) (hf:t.size<=9223372036854775807):StJ g m T S N w (wr.setCell ⟨g,j*m+i,none⟩ (.string t)) rs j (r.set i (.s t)):=h.set hi (.s t) rfl hf
theorem StJ.ir {g m:Nat} {T:TypeId} {S N:Nat->Prop} {w wr:World} {rs:List (List Fv)} {j:Nat} {r:List Fv} (h:StJ g m T S N w wr rs j r) {i:Nat} {old:Fv} (hi:r[i]?=some old) (t:Int):StJ g m T S N w (wr.setCell ⟨g,j*m+i,none⟩ (.int .i64 t)) rs j (r.set i (.i t)):=h.set hi (.i t) rfl trivial
theorem StJ.jg {g m:Nat} {T:TypeId} {S N:Nat->Prop} {w wr:World} {rs:List (List Fv)} {j:Nat} {r:List Fv} (h:StJ g m T S N w wr rs j r) {i:Nat} {old:Fv} (hi:r[i]?=some old) (t:Bool):StJ g m T S N w (wr.setCell ⟨g,j*m+i,none⟩ (.bool t)) rs j (r.set i (.b t)):=h.set hi (.b t) rfl trivial
theorem az.st {w wr:World} {a:Option Addr} {len cap m:Nat} {T:TypeId} {rs:List (List Fv)} {S:Nat->Prop} (h:az wr a len cap m T rs S) (hk:aC S w wr) {i:Nat} {r:List Fv} (hi:rs[i]?=some r):∃g,a=some ⟨g,0,none⟩/\StJ g m T S (fun _=>False) w wr rs i r:=by
 obtain⟨h1,h2,h3,h4⟩:=h;rcases h4 with h4|⟨g,cur,H,h5,h6⟩
 ·subst h4;simp at hi
 ·refine⟨g,h5,⟨cur,H,?_,fun _ _ _ _ _ _ _ q=>q⟩,hk,(Fk.1 hi).1⟩;rw[mZ hi];exact h6
theorem cB {w:World} {g i j:Nat} {v:Value} (h:¬i=j):(w.setCell ⟨g,i,none⟩ v).cell? ⟨g,j,none⟩=w.cell? ⟨g,j,none⟩:=by
 cases hg:w.heap[g]? with
 | none=>
  have hs:(w.setCell ⟨g,i,none⟩ v).heap[g]?=none:=by
   have h1:=Array.getElem?_eq_none_iff.1 hg;exact Array.getElem?_eq_none_iff.2 (by simpa[Gc] using h1)
  simp[Hc,hg,hs]
 | some o=>
  cases o with
  | cells cs t fr=>
   have:=aA (i:=i) hg v;simp only[Hc,hg,this]
   simp[Array.getElem?_setIfInBounds_ne h]
  | _=>simp[Hc,Gc,Array.getElem?_modify,hg]

theorem cq (u:Int) (w:World) (h0:0<u) (h1:u<=1152921504606846976):Calls Tryz.prog 73 #[.int .i64 u] w fun e w'=>e=.returned (.string (bm u.toNat))/\Below w.heap.size w w':=by
 obtain⟨n,rfl⟩:∃n:Nat,u=n:=⟨u.toNat,by omega⟩;exact gU n w af af

theorem zE (a:Option Addr) (len cap:Nat) (u:Int) (w:World) (hr:ay w a len cap (dJ u len)) (h0:0<u) (h1:u+len<=1152921504606846976):
  Calls Tryz.prog 101 #[.slice a len cap,.int .i64 u] w fun e w'=>e=.returned (.int .i64 (u+len))/\Below w.heap.size w w':=by
 obtain⟨n,rfl⟩:∃n:Nat,u=n:=⟨u.toNat,by omega⟩;refine (tO a len cap n _ w hr af af (fun j x hx=>?_)).mono ?_
 ·have:=(iE hx).1;simpa using this
 ·rintro e w' ⟨rfl,hb⟩;exact⟨by simp,hb⟩

def mkF (k:Int):Fv->Fv
 | .s _=>.s (bm k.toNat)
 | .i _=>.i k
 | .b _=>.b (k % 3==0)
 | .l zs=>.l (dJ k zs.length)
def mkN1 (k:Int):Fv->Int
 | .l zs=>k+zs.length
 | _=>k+1
def mkR:Int->List Fv->List Fv
 | _,[]=> []
 | k,f ::r=>mkF k f ::mkR (mkN1 k f) r
def mkN:Int->List Fv->Int
 | k,[]=>k
 | k,f ::r=>mkN (mkN1 k f) r
def mkRs:Int->List (List Fv)->List (List Fv)
 | _,[]=> []
 | k,r ::rs=>mkR k r ::mkRs (mkN k r) rs
def aI:Int->List (List Fv)->Int
 | k,[]=>k
 | k,r ::rs=>aI (mkN k r) rs
theorem bL:∀(rs:List (List Fv)) (k:Int),(mkRs k rs).length=rs.length
 | [],_=>rfl
 | r ::rs,k=>by simp[mkRs,bL rs]
theorem eL:∀(rs:List (List Fv)) (k:Int) (i:Nat),(mkRs k rs)[i]?=(rs[i]?).map (mkR (aI k (rs.take i)))
 | [],_,_=>by simp[mkRs]
 | r ::rs,k,0=>by simp[mkRs,aI]
 | r ::rs,k,i+1=>by simp[mkRs,aI,eL rs]
theorem fg:∀(rs ts:List (List Fv)) (k:Int),aI k (rs++ts)=aI (aI k rs) ts
 | [],_,_=>rfl
 | r ::rs,ts,k=>by simp[aI,fg rs]
theorem cw {rs:List (List Fv)} {i:Nat} {r:List Fv} (h:rs[i]?=some r) (k:Int):aI k (rs.take (i+1))=mkN (aI k (rs.take i)) r:=by
 rw[FZ,h,fg];rfl
theorem AL (f:Fv) (k:Int):k<=mkN1 k f:=by
 cases f <;> simp[mkN1] <;> omega
theorem yZ:∀(r:List Fv) (k:Int),k<=mkN k r
 | [],_=>II _
 | f ::r,k=>F6 (AL f k) (yZ r _)
theorem aH:∀(rs:List (List Fv)) (k:Int),k<=aI k rs
 | [],_=>II _
 | r ::rs,k=>F6 (yZ r k) (aH rs _)
theorem ka {rs:List (List Fv)} {i:Nat} {r:List Fv} (h:rs[i]?=some r) (k:Int):mkN (aI k (rs.take i)) r<=aI k rs:=by
 rw[<-cw h];have h2:=fg (rs.take (i+1)) (rs.drop (i+1)) k;rw[List.take_append_drop] at h2;rw[h2];exact aH _ _
theorem cE {α:Type} {A B:List α} {i:Nat} {x:α} (hl:A.length=B.length) (hi:A[i]?=some x):(A.take i++B.drop i).set i x=A.take (i+1)++B.drop (i+1):=by
 have hlt:i<A.length:=(Fk.1 hi).1;have h1:(A.take i).length=i:=by rw[FO];omega
 have hd:B.drop i=B[i]'(by omega) ::B.drop (i+1):=GY af;rw[FZ,hi,hd];simp only[List.set_append,h1,Nat.lt_irrefl,if_false,Nat.sub_self,FF,Option.toList_some,G4,List.singleton_append]
theorem cN {α:Type} {A B:List α} {i:Nat} (hl:A.length=B.length) (hi:i<=A.length):(A.take i++B.drop i)[i]?=B[i]?:=by
 have h1:(A.take i).length=i:=by rw[FO];omega
 rw[List.getElem?_append_right af,h1,Nat.sub_self,List.getElem?_drop,Hg]
theorem fM {α:Type} {A B:List α} {i:Nat} (hl:A.length=B.length) (hi:i<=A.length):(A.take i++B.drop i).length=B.length:=by
 rw[F5,FO,GH];omega
theorem az.ot {g len cap m:Nat} {T:TypeId} {S N:Nat->Prop} {w wr:World} {rs:List (List Fv)} {k:Int} {i:Nat} {r r':List Fv} (h:StJ g m T S N w wr ((mkRs k rs).take i++rs.drop i) i r') (hl:rs.length=len) (hm:(mkRs k rs).length=rs.length) (hc:len<=cap) (hc2:cap<=9223372036854775807) (hi:rs[i]?=some r) (e:r'=mkR (aI k (rs.take i)) r):az wr (some ⟨g,0,none⟩) len cap m T ((mkRs k rs).take (i+1)++rs.drop (i+1)) S:=by
 subst e;have hlt:i<rs.length:=(Fk.1 hi).1;have h1:(mkRs k rs)[i]?=some (mkR (aI k (rs.take i)) r):=by rw[eL,hi];rfl
 obtain⟨⟨cur,H,h2,-⟩,-,-⟩:=h;rw[cE hm h1] at h2;exact⟨by rw[fM hm af];exact hl,hc,hc2,.inr ⟨g,cur,H,rfl,h2⟩⟩

theorem Ai {α:Type} {A B:List α} {x y:α} {j:Nat} (hj:A.length+1=j):((A++y ::x ::B).set j y).set (j - 1) x=A++x ::y ::B/\((A++y ::x ::B).set (j - 1) x).set j y=A++x ::y ::B:=by
 subst hj;constructor <;> simp
section
variable {α:Type} (f:α->Int) (lt:α->α->Prop)
def Bf (a b:α):Prop:=f b<f a\/(f a=f b/\lt a b)
def ef (ms ls:List α) (k:Nat):Prop:=∃P,ls=P++ms.drop k/\P.length=k/\P.Perm (ms.take k)/\P.Pairwise (Bf f lt)
def gq (ms ls:List α) (k j:Nat) (x:α):Prop:=∃A B,ls=A++x ::(B++ms.drop (k+1))/\A.length=j/\A.length+B.length=k/\ms[k]?=some x/\(A++B).Perm (ms.take k)/\(A++B).Pairwise (Bf f lt)/\∀y∈B,f y<f x
variable {f lt} {ms ls:List α} {k j:Nat} {x:α}
theorem ef.len (h:ef f lt ms ls k) (hk:k<=ms.length):ls.length=ms.length:=by
 obtain⟨P,rfl,h1,_,_⟩:=h;simp[h1];omega
theorem gq.len (h:gq f lt ms ls k j x):ls.length=ms.length/\j<=k/\k<ms.length:=by
 obtain⟨A,B,rfl,h1,h2,h3,_⟩:=h;have h4:=(Fk.1 h3).1;simp;omega
theorem gq.at (h:gq f lt ms ls k j x):ls[j]?=some x:=by
 obtain⟨A,B,rfl,rfl,_⟩:=h;simp
theorem ef.one (h:1<=ms.length):ef f lt ms ms 1:=by
 cases ms with
 | nil=>simp at h
 | cons a r=>exact⟨[a],rfl,rfl,List.Perm.refl _,List.pairwise_singleton _ _⟩
theorem ef.start (h:ef f lt ms ls k) (hk:k<ms.length):∃x,gq f lt ms ls k k x:=by
 obtain⟨P,rfl,h1,h2,h3⟩:=h;have hx:=Fs hk;refine⟨ms[k],P,[],?_,h1,by simpa using h1,hx,by simpa using h2,by simpa using h3,by simp⟩;rw[GY hk];rfl
theorem gq.down {y:α} (h:gq f lt ms ls k (j+1) x) (hy:ls[j]?=some y) (hf:f y<f x):gq f lt ms ((ls.set (j+1) y).set j x) k j x/\(ls.set j x).set (j+1) y=(ls.set (j+1) y).set j x:=by
 obtain⟨A,B,rfl,h1,h2,h3,h4,h5,h6⟩:=h;obtain⟨A',y',rfl⟩:∃A' y',A=A'++[y']:=by
  rcases List.eq_nil_or_concat A with rfl|⟨A',y',rfl⟩
  ·simp at h1
  ·exact⟨A',y',by simp⟩
 have hl:A'.length=j:=by simpa using h1
 subst hl;have:y'=y:=by simpa[Ij] using hy
 subst this;have e1:A'++[y']++x ::(B++ms.drop (k+1))=A'++y' ::x ::(B++ms.drop (k+1)):=aR
 have e2:=Ai (A:=A') (B:=B++ms.drop (k+1)) (x:=x) (y:=y') rfl;simp only[Nat.add_sub_cancel] at e2;rw[e1];refine⟨⟨A',y' ::B,by rw[e2.1];simp,rfl,by simp at h2 ⊢;omega,h3,by simpa using h4,by simpa using h5,?_⟩,by rw[e2.1,e2.2]⟩;intro z hz;rcases Gh.1 hz with rfl|hz
 ·exact hf
 ·exact h6 z hz
theorem gq.stop (h:gq f lt ms ls k j x) (hn:∀y,y∈ms.take k->lt y x) (hs:j=0\/∃y,ls[j - 1]?=some y/\¬f y<f x):ef f lt ms ls (k+1):=by
 obtain⟨A,B,rfl,h1,h2,h3,h4,h5,h6⟩:=h;have hk:=(Fk.1 h3).1;have hA:∀a∈A,¬f a<f x:=by
  rcases hs with rfl|⟨y,hy,hf⟩
  ·intro a ha;rw[List.length_eq_zero_iff.1 h1] at ha;simp at ha
  ·rcases List.eq_nil_or_concat A with rfl|⟨A',y',rfl⟩
   ·intro a ha;simp at ha
   ·have hl:A'.length+1=j:=by simpa using h1
    subst hl;have:y'=y:=by simpa[Ij] using hy
    subst this;intro a ha;simp only[List.concat_eq_append,List.mem_append,List.mem_singleton] at ha;rcases ha with ha|rfl
    ·have h9:=(Ht.1 (by simpa using (Ht.1 h5).1:(A'++[y']).Pairwise (Bf f lt))).2.2 a ha y' aR;rcases h9 with h9|⟨h9,_⟩ <;> omega
    ·exact hf
 have hx:ms[k]=x:=(Fk.1 h3).2;refine⟨A++x ::B,by simp,by simp;omega,?_,?_⟩
 ·rw[FZ,h3];exact List.perm_middle.trans ((List.Perm.cons x h4).trans (by simpa using (List.perm_append_comm (l₁:=[x]) (l₂:=ms.take k))))
 ·rw[Ht] at h5 ⊢;refine⟨h5.1,List.pairwise_cons.2 ⟨fun b hb=>.inl (h6 b hb),h5.2.1⟩,?_⟩;intro a ha b hb;rcases Gh.1 hb with rfl|hb
  ·have h7:=hA a ha;by_cases h8:f b<f a
   ·exact .inl h8
   ·exact .inr ⟨by omega,hn a (h4.mem_iff.1 (Hi _ ha))⟩
  ·exact h5.2.2 a ha b hb
end

end Rc
end Go.Proofs.YtpejepeekdjfoaaGreatDoor

namespace Go.Proofs.YtpejepeekdjfoaaGreatDoor
open Go.RowKit

abbrev Fact:=Value->World->Prop
def Fact.bD (φ:Fact):Prop:=∀v w w',φ v w->Below w.heap.size w w'->φ v w'
theorem Fact.cv (c:Value):Fact.bD (fun v _=>v=c):=fun _ _ _ h _=>h

def ai (a0:Act) (known:List (Tmp×Fact)) (a:Act) (w:World) (t:Tmp):Prop:=
 match known.lookup t with
 | some φ=>φ (a.tmps.getD t undef) w
 | none=>a.tmps.getD t undef=a0.tmps.getD t undef

def Obl (P:Program) (ops:Array Oper) (Q:Exit->Act->World->Prop) (W:World) (a0:Act) (known:List (Tmp×Fact)) (o:Oper) (φ:Fact):Prop:=
 ∀(a:Act) (w:World) (K:Act->World->Prop),a.tmps.size=a0.tmps.size->Below W.heap.size W w->(∀t∈o.looksAt ops,ai a0 known a w t)->
  (∀v w',Below w.heap.size w w'->φ v w'->K (a.put o.dst v) w')->if GS o (yielded ops a.tmps)=true then o.wp P a w K Q else K (a.put o.dst undef) w

def eM (o:Oper):List Tmp:=o.op.operands.toList.filterMap fun | .tmp t=>some t|_=>none
theorem Obl.plain {P:Program} {ops:Array Oper} {Q:Exit->Act->World->Prop} {W:World} {a0:Act} {known:List (Tmp×Fact)} {o:Oper} {φ:Fact} (hg:o.guard=none)
  (h:∀(a:Act) (w:World) (K:Act->World->Prop),a.tmps.size=a0.tmps.size->Below W.heap.size W w->(∀t∈eM o,ai a0 known a w t)->(∀v w',Below w.heap.size w w'->φ v w'->K (a.put o.dst v) w')->o.wp P a w K Q):Obl P ops Q W a0 known o φ:=by
 exact yz

def eC (P:Program) (ops:Array Oper) (Q:Exit->Act->World->Prop) (back:Option Oper) (a:Act) (w:World):Prop:=
 match back with
 | none=>Q .normal a w
 | some o=> ∀K:Act->World->Prop,(∀a w,Q .normal a w->K a w)->if GS o (yielded ops a.tmps)=true then o.wp P a w K Q else K (a.put o.dst undef) w

def aE (a0:Act) (known:List (Tmp×Fact)) (x:Tmp->Value):Act:=known.foldr (fun p b=>b.put (some p.1) (x p.1)) a0
def Fin (P:Program) (ops:Array Oper) (Q:Exit->Act->World->Prop) (W:World) (a0:Act) (back:Option Oper) (known:List (Tmp×Fact)):Prop:=
 ∀(x:Tmp->Value) (w:World),Below W.heap.size W w->(∀p∈known,p.2 (x p.1) w)->eC P ops Q back (aE a0 known x) w

def kn (d:Option Tmp) (φ:Fact) (known:List (Tmp×Fact)):List (Tmp×Fact):=match d with|some t=>(t,φ) ::known|none=>known

def au (P:Program) (ops:Array Oper) (Q:Exit->Act->World->Prop) (W:World) (a0:Act) (back:Option Oper):List Oper->List (Tmp×Fact)->Prop
 | [],known=>Fin P ops Q W a0 back known
 | o ::rest,known=> ∃φ:Fact,φ.bD/\Obl P ops Q W a0 known o φ/\au P ops Q W a0 back rest (kn o.dst φ known)
theorem au.step {P:Program} {ops:Array Oper} {Q:Exit->Act->World->Prop} {W:World} {a0:Act} {back:Option Oper} {o:Oper} {rest:List Oper} {known:List (Tmp×Fact)} {t:Tmp} (φ:Fact) (hd:o.dst=some t) (hφ:φ.bD) (ho:Obl P ops Q W a0 known o φ)
  (h:au P ops Q W a0 back rest ((t,φ) ::known)):au P ops Q W a0 back (o ::rest) known:=⟨φ,hφ,ho,by rw[hd];exact h⟩
theorem au.an {P:Program} {ops:Array Oper} {Q:Exit->Act->World->Prop} {W:World} {a0:Act} {back:Option Oper} {o:Oper} {rest:List Oper} {known:List (Tmp×Fact)} {t:Tmp} (c:Value) (hd:o.dst=some t) (ho:Obl P ops Q W a0 known o (fun v _=>v=c))
  (h:au P ops Q W a0 back rest ((t,fun v _=>v=c) ::known)):au P ops Q W a0 back (o ::rest) known:=au.step _ hd (Fact.cv c) ho h
theorem au.done {P:Program} {ops:Array Oper} {Q:Exit->Act->World->Prop} {W:World} {a0:Act} {back:Option Oper} {known:List (Tmp×Fact)} (h:Fin P ops Q W a0 back known):au P ops Q W a0 back [] known:=h

def growB (n:Nat) (front:List Oper) (back:Option Oper):Bool:=
 let ops:=(front++back.toList).toArray
 decide ((front.filterMap (·.dst)).Nodup) && front.all (fun o=>match o.dst with|some t=>decide (t<n)|none=>true) &&
 (Gq front.length).all (fun j=>match front[j]? with
  | some o=>(o.looksAt ops).all (fun t=>(Gq front.length).all fun i=>match front[i]? with
    | some p=>p.dst !=some t || (decide (i<j) && o.after.any fun e=>e.on==i && FY .any e)
    | none=>true)
  | none=>true) &&
 (Gq ops.size).all (fun j=>match ops[j]? with|some o=>o.after.all (fun e=>decide (e.on<j))|none=>true) &&
 (match back with|some o=>(Gq front.length).all (fun i=>o.after.any fun e=>e.on==i && FY .any e)|none=>true)

section
variable {P:Program} {ops:Array Oper} {Q:Exit->Act->World->Prop} {W:World} {a0:Act} {back:Option Oper}

def knAll:List (Tmp×Fact)->List Oper->List Fact->List (Tmp×Fact)
 | known,o ::l,φ ::φs=>knAll (kn o.dst φ known) l φs
 | known,_,_=>known
theorem bW (known:List (Tmp×Fact)) (φs:List Fact):knAll known [] φs=known:=by cases φs <;> rfl

theorem au.spec:∀(l:List Oper) (known:List (Tmp×Fact)),au P ops Q W a0 back l known->∃φs:List Fact,φs.length=l.length/\
  (∀(i:Nat) (o:Oper) (φ:Fact),l[i]?=some o->φs[i]?=some φ->φ.bD/\Obl P ops Q W a0 (knAll known (l.take i) (φs.take i)) o φ)/\Fin P ops Q W a0 back (knAll known l φs)
 | [],known,h=>⟨[],rfl,fun i o φ h=>by simp at h,by rw[bW];exact h⟩
 | o ::l,known,h=>by
  exact vN

theorem iF (d:Option Tmp) (φ:Fact) (known:List (Tmp×Fact)) (t:Tmp):(kn d φ known).lookup t=if d=some t then some φ else known.lookup t:=by
 exact yB

theorem b8:∀(l:List Oper) (φs:List Fact) (known:List (Tmp×Fact)) {t:Tmp} {φ:Fact},(knAll known l φs).lookup t=some φ->
  (∃(i:Nat) (o:Oper),l[i]?=some o/\o.dst=some t/\φs[i]?=some φ)\/known.lookup t=some φ
 | [],φs,known,t,φ,h=>by rw[bW] at h;exact .inr h
 | o ::l,[],known,t,φ,h=>.inr h
 | o ::l,ψ ::φs,known,t,φ,h=>by
  exact yR
theorem b_:∀(l:List Oper) (φs:List Fact) (known:List (Tmp×Fact)) {t:Tmp},(knAll known l φs).lookup t=none->
  known.lookup t=none/\∀(i:Nat) (o:Oper) (φ:Fact),l[i]?=some o->φs[i]?=some φ->o.dst≠some t
 | [],φs,known,t,h=>by rw[bW] at h;exact⟨h,fun i o φ h=>by simp at h⟩
 | o ::l,[],known,t,h=>⟨h,fun i o φ _ h=>by simp at h⟩
 | o ::l,ψ ::φs,known,t,h=>by
  exact CE
theorem dy:∀(l:List Oper) (φs:List Fact) (known:List (Tmp×Fact)) {p:Tmp×Fact},p∈knAll known l φs->
  (∃(i:Nat) (o:Oper),l[i]?=some o/\o.dst=some p.1/\φs[i]?=some p.2)\/p∈known
 | [],φs,known,p,h=>by rw[bW] at h;exact .inr h
 | o ::l,[],known,p,h=>.inr h
 | o ::l,ψ ::φs,known,p,h=>by
  exact Cw

theorem fh (a:Act) (d t:Tmp) (v:Value):(a.put (some d) v).tmps.getD t undef=if d=t/\t<a.tmps.size then v else a.tmps.getD t undef:=by
 simp only[GL,Fu,FI];by_cases h:d=t
 ·subst h;by_cases h2:d<a.tmps.size
  ·simp[h2]
  ·simp[h2]
 ·simp[h]
theorem size_put (a:Act) (d:Option Tmp) (v:Value):(a.put d v).tmps.size=a.tmps.size:=by cases d <;> simp[GL]
theorem eQ (a:Act) (d:Option Tmp) (v:Value):(a.put d v).defers=a.defers:=by cases d <;> simp[GL]
theorem dj (a0:Act) (x:Tmp->Value):∀known,(aE a0 known x).tmps.size=a0.tmps.size
 | []=>rfl
 | p ::l=>by unfold aE;rw[List.foldr_cons,size_put];exact dj a0 x l
theorem dm (a0:Act) (x:Tmp->Value):∀known,(aE a0 known x).defers=a0.defers
 | []=>rfl
 | p ::l=>by unfold aE;rw[List.foldr_cons,eQ];exact dm a0 x l
theorem gP (a0 a:Act) (known:List (Tmp×Fact)) (hk:∀p∈known,p.1<a0.tmps.size) (t:Tmp) (h:(∀p∈known,p.1≠t)->a.tmps.getD t undef=a0.tmps.getD t undef):
  (aE a0 known (fun t=>a.tmps.getD t undef)).tmps.getD t undef=a.tmps.getD t undef:=by
 exact CQ
theorem A_ {a b:Act} (hs:a.tmps.size=b.tmps.size) (hd:a.defers=b.defers) (h:∀t,a.tmps.getD t undef=b.tmps.getD t undef):a=b:=by
 cases a with|mk at_ ad=>cases b with|mk bt bd=>
 simp only at hs hd h;subst hd;congr 1;apply Array.ext hs;intro i h1 h2;have:=h i;simpa[Array.getD,h1,h2] using this

theorem bK {l:Array Bool} {i:Nat} (h:i<l.size):l.getD i false=l.getD i true:=by simp[Array.getD,h]

structure At (front:List Oper) (φs:List Fact) (W:World) (a0:Act) (listed:Array Bool) (a:Act) (w:World):Prop where
 size:a.tmps.size=a0.tmps.size
 defers:a.defers=a0.defers
 below:Below W.heap.size W w
 known:∀(i:Nat) (o:Oper) (φ:Fact),front[i]?=some o->φs[i]?=some φ->∀t,o.dst=some t->listed.getD i false=true->φ (a.tmps.getD t undef) w
 other:∀t,(∀(i:Nat) (o:Oper),front[i]?=some o->o.dst=some t->listed.getD i false=false)->a.tmps.getD t undef=a0.tmps.getD t undef

theorem eA:∀(l:List Oper),(l.filterMap (·.dst)).Nodup->∀{i j:Nat} {o p:Oper} {t:Tmp},l[i]?=some o->l[j]?=some p->o.dst=some t->p.dst=some t->i=j
 | [],_,i,j,o,p,t,h,_,_,_=>by simp at h
 | q ::l,hn,i,j,o,p,t,h1,h2,h3,h4=>by
  have hmem:∀{k:Nat} {r:Oper},l[k]?=some r->r.dst=some t->t∈l.filterMap (·.dst):=fun h h'=>List.mem_filterMap.2 ⟨_,FX h,h'⟩;have hn':(l.filterMap (·.dst)).Nodup:=by
   rw[List.filterMap_cons] at hn;split at hn
   ·exact hn
   ·exact (List.nodup_cons.1 hn).2
  cases i with
  | zero=>
   simp only[F7,Gw] at h1;subst h1
   cases j with
   | zero=>rfl
   | succ j=>
    simp only[GG] at h2;rw[List.filterMap_cons,h3] at hn;exact absurd (hmem h2 h4) (List.nodup_cons.1 hn).1
  | succ i=>
   simp only[GG] at h1
   cases j with
   | zero=>
    simp only[F7,Gw] at h2;subst h2;rw[List.filterMap_cons,h4] at hn;exact absurd (hmem h1 h3) (List.nodup_cons.1 hn).1
   | succ j=>
    simp only[GG] at h2;rw[eA l hn' h1 h2 h3 h4]

theorem At.step {front:List Oper} {φs:List Fact} {listed:Array Bool} {a:Act} {w w':World} {j:Nat} {o:Oper} {φ:Fact} {v:Value} (h:At front φs W a0 listed a w)
  (hn:(front.filterMap (·.dst)).Nodup) (hin:∀o∈front,∀t,o.dst=some t->t<a0.tmps.size) (hmono:∀(i:Nat) (o:Oper) (φ:Fact),front[i]?=some o->φs[i]?=some φ->φ.bD)
  (ho:front[j]?=some o) (hφ:φs[j]?=some φ) (hj:j<listed.size) (hb:Below w.heap.size w w') (hv:φ v w'):At front φs W a0 (listed.setIfInBounds j true) (a.put o.dst v) w':=by
 refine⟨(size_put _ _ _).trans h.size,(eQ _ _ _).trans h.defers,h.below.trans (hb.mono h.below.size),?_,?_⟩
 ·intro i p ψ hp hψ t ht hl;by_cases e:j=i
  ·subst e;obtain rfl:o=p:=Fo (ho.symm.trans hp);obtain rfl:φ=ψ:=Fo (hφ.symm.trans hψ);exact xE
  ·have hl':listed.getD i false=true:=by
    simpa[Fu,FI,e] using hl
   have h1:=hmono i p ψ hp hψ _ _ _ (h.known i p ψ hp hψ t ht hl') hb;cases hd:o.dst with
   | none=>exact h1
   | some d=>
    rw[fh,if_neg (fun hx=>e (eA front hn ho hp (hd.trans (by rw[hx.1])) ht))];exact h1
 ·exact CO

theorem cm {n:Nat} {front:List Oper} {back:Option Oper} (h:growB n front back=true):
  (front.filterMap (·.dst)).Nodup/\(∀o∈front,∀t,o.dst=some t->t<n)/\
  (∀(j:Nat) (o:Oper),front[j]?=some o->∀t∈o.looksAt (front++back.toList).toArray,∀(i:Nat) (p:Oper),front[i]?=some p->p.dst=some t->i<j/\∃e∈o.after,e.on=i/\FY .any e=true)/\
  (∀(j:Nat) o,(front++back.toList).toArray[j]?=some o->∀e∈o.after,e.on<j)/\
  (∀o,back=some o->∀i,i<front.length->∃e∈o.after,e.on=i/\FY .any e=true):=by
 unfold growB at h;simp only[Gj,decide_eq_true_eq] at h;obtain⟨⟨⟨⟨h1,h2⟩,h3⟩,h4⟩,h5⟩:=h;refine⟨h1,?_,?_,?_,?_⟩
 ·intro o ho t ht;exact lZ
 ·exact xx
 ·exact yL
 ·exact wY

theorem d_ {listed:Array Bool} (hs:listed.size=ops.size) (hlt:∀(j:Nat) o,ops[j]?=some o->∀e∈o.after,e.on<j) (hr:F9 .any ops listed=[]):∀i,i<ops.size->listed.getD i false=true:=by
 intro i;induction i using Nat.strongRecOn with
 | _ i ih=>
  intro hi
  cases hb:listed.getD i false with
  | true=>rfl
  | false=>
   have ho:ops[i]?=some ops[i]:=Array.getElem?_eq_getElem hi;have hm:i∈F9 .any ops listed:=mem_ready.2 ⟨by rw[<-bK af];exact hb,_,ho,fun e he _=>ih e.on (hlt i _ ho e he) (Nat.lt_trans (hlt i _ ho e he) hi)⟩;rw[hr] at hm
   cases hm

theorem dn {listed:Array Bool} (h:listed.toList.count false=0) (i:Nat) (hi:i<listed.size):listed.getD i false=true:=by
 have hm:listed[i]∈listed.toList:=aR
 cases hb:listed[i] with
 | true=>simp[Array.getD,hi,hb]
 | false=>
  rw[hb] at hm;exact absurd (List.count_pos_iff.2 hm) af
theorem count_set {listed:Array Bool} {i:Nat} (hi:i<listed.size) (hf:listed.getD i true=false):(listed.setIfInBounds i true).toList.count false+1=listed.toList.count false:=by
 have hb:listed[i]=false:=by simpa[Array.getD,hi] using hf
 have hm:false∈listed.toList:=by rw[<-hb];simp
 have hp:=List.count_pos_iff.2 hm;rw[Array.toList_setIfInBounds,List.count_set (by simpa using hi)];rw[Array.getElem_toList,hb];simp only[beq_self_eq_true,if_true,show (true==false)=false from rfl,Bool.false_eq_true,if_false];omega

theorem Fin.last {front:List Oper} {φs:List Fact} {listed:Array Bool} {a:Act} {w:World} (hf:Fin P ops Q W a0 back (knAll [] front φs)) (hlen:φs.length=front.length) (hin:∀o∈front,∀t,o.dst=some t->t<a0.tmps.size)
  (h:At front φs W a0 listed a w) (hall:∀i,i<front.length->listed.getD i false=true):eC P ops Q back a w:=by
 have h1:=hf (fun t=>a.tmps.getD t undef) w h.below (fun p hp=>by
  rcases dy front φs [] hp with ⟨i,o,h1,h2,h3⟩|h1
  ·exact h.known i o p.2 h1 h3 p.1 h2 (hall i (Fk.1 h1).1)
  ·simp at h1)
 exact CZ

theorem bQ {front:List Oper} {φs:List Fact} (hops:ops=(front++back.toList).toArray) (hB:growB a0.tmps.size front back=true) (hlen:φs.length=front.length)
  (hs:∀(i:Nat) (o:Oper) (φ:Fact),front[i]?=some o->φs[i]?=some φ->φ.bD/\Obl P ops Q W a0 (knAll [] (front.take i) (φs.take i)) o φ) (hf:Fin P ops Q W a0 back (knAll [] front φs)):
  ∀(fuel:Nat) (listed:Array Bool) (a:Act) (w:World),listed.size=ops.size->listed.toList.count false<=fuel->(∀o,back=some o->listed.getD front.length false=false)->At front φs W a0 listed a w->wpAny P .any ops Q fuel listed a w:=by
 obtain⟨hn,hin,hdep,hlt,hback⟩:=cm hB;rw[<-hops] at hdep hlt;have hsz:ops.size=front.length+back.toList.length:=by rw[hops];simp
 have hend:∀(listed:Array Bool) (a:Act) (w:World),listed.size=ops.size->(∀i,i<ops.size->listed.getD i false=true)->(∀o,back=some o->listed.getD front.length false=false)->At front φs W a0 listed a w->Q .normal a w:=by
  intro listed a w hz hall hb h;have h1:=hf.last hlen hin h (fun i hi=>hall i af);exact sx
 intro fuel;induction fuel with
 | zero=>
  intro listed a w hz hc hb h;have hall:∀i,i<ops.size->listed.getD i false=true:=fun i hi=>dn af i af;refine⟨?_,hend listed a w hz hall hb h⟩
  cases hr:F9 .any ops listed with
  | nil=>rfl
  | cons j js=>
   have hm:j∈F9 .any ops listed:=by rw[hr];simp
   obtain⟨h1,o,ho,-⟩:=mem_ready.1 hm;have hj:=(FE.1 ho).1;rw[<-bK af,hall j hj] at h1
   cases h1
 | succ fuel ih=>
  intro listed a w hz hc hb h;refine⟨fun hr=>hend listed a w hz (d_ hz hlt hr) hb h,fun j hj=>?_⟩;obtain⟨hun,o,ho,hall⟩:=mem_ready.1 hj;have hjs:j<ops.size:=(FE.1 ho).1;have hcs:=count_set (listed:=listed) (i:=j) af hun
  by_cases hjf:j<front.length
  ·have hof:front[j]?=some o:=by rw[hops] at ho;simpa[List.getElem?_append_left hjf] using ho
   have hφ:φs[j]?=some (φs[j]'(by omega)):=Fs _;obtain⟨hm,hob⟩:=hs j o _ hof hφ
   have hfacts:∀t∈o.looksAt ops,ai a0 (knAll [] (front.take j) (φs.take j)) a w t:=by
    intro t ht;unfold ai
    cases hk:(knAll [] (front.take j) (φs.take j)).lookup t with
    | some φ=>
     rcases b8 _ _ _ hk with ⟨i,p,h1,h2,h3⟩|h1
     ·have hij:i<j:=by have:=(Fk.1 h1).1;simp at this;omega
      rw[FP,if_pos hij] at h1 h3;obtain⟨-,e,he,hon,hbi⟩:=hdep j o hof t ht i p h1 h2;have hl:=hall e he hbi;rw[hon] at hl;exact h.known i p φ h1 h3 t h2 hl
     ·simp at h1
    | none=>
     refine h.other t (fun i p hp hd=>?_)
     exfalso
     obtain⟨hij,-⟩:=hdep j o hof t ht i p hp hd;have hi:=(Fk.1 hp).1;exact (b_ _ _ _ hk).2 i p (φs[i]'(by omega)) kU kZ hd
   have h1:=hob a w (wpAny P .any ops Q fuel (listed.setIfInBounds j true)) h.size h.below hfacts (fun v w' hbw hv=>by
    refine ih _ _ _ fN af (fun o' ho'=>?_) (h.step hn hin (fun i o φ h1 h2=>(hs i o φ h1 h2).1) hof hφ af hbw hv);have h2:=hb o' ho'
    have e:¬j=front.length:=af
    simpa[Fu,FI,e] using h2)
   unfold wpOp;rw[ho]
   simp only
   split
   ·rename_i hw;rw[if_pos hw] at h1;exact .inl h1
   ·rename_i hw;rw[if_neg hw] at h1;exact h1
  ·cases hk:back with
   | none=>rw[hk] at hsz;simp at hsz;omega
   | some b=>
    have hjn:j=front.length:=by rw[hk] at hsz;simp at hsz;omega
    subst hjn
    have hob:o=b:=by
     rw[hops,hk] at ho
     simp at ho
     exact ho.symm
    subst hob
    have hfl:∀i,i<front.length->listed.getD i false=true:=fun i hi=>by
     obtain⟨e,he,hon,hbi⟩:=hback o hk i hi;have:=hall e he hbi
     rwa [hon] at this
    have h1:=hf.last hlen hin h hfl;rw[hk] at h1
    have h2:=h1 (wpAny P .any ops Q fuel (listed.setIfInBounds front.length true)) (fun a' w' hq=>by
     have hr:F9 .any ops (listed.setIfInBounds front.length true)=[]:=by
      cases hr:F9 .any ops (listed.setIfInBounds front.length true) with
      | nil=>rfl
      | cons i is=>
       have hm:i∈F9 .any ops (listed.setIfInBounds front.length true):=by rw[hr];simp
       obtain⟨h3,o',ho',-⟩:=mem_ready.1 hm;have hi:=(FE.1 ho').1
       exfalso
       by_cases e:front.length=i
       ·subst e
        simp[Fu,show front.length<listed.size from by omega] at h3
       ·have h4:=hfl i sb;rw[bK af] at h4
        simp[Fu,e] at h3 h4
        rw[h3] at h4
        cases h4
     cases fuel with
     | zero=>exact⟨hr,hq⟩
     | succ fuel=>exact⟨fun _=>hq,fun i hi=>by rw[hr] at hi;cases hi⟩)
    unfold wpOp;rw[ho]
    simp only
    split
    ·rename_i hw;rw[if_pos hw] at h2;exact .inl h2
    ·rename_i hw;rw[if_neg hw] at h2;exact h2
end

theorem a8 (n i:Nat):(Array.replicate n false).getD i false=false:=by
 rw[Fu,Array.getElem?_replicate];split <;> rfl
theorem bo {P:Program} {id:Nat} {Q:Exit->Act->World->Prop} {a0:Act} {W:World} {l:List Oper} {front:List Oper} {back:Option Oper} (hm:P.follows .mixedOrders=true) (hl:l=front++back.toList) (hB:growB a0.tmps.size front back=true)
  (h:au P l.toArray Q W a0 back front []):(Ix id l.toArray true).wp P Q a0 W:=by
 obtain⟨φs,hlen,hs,hf⟩:=au.spec _ _ h;refine wp_region_any hm (bQ (by rw[hl]) hB hlen hs hf _ _ _ _ aR ?_ (fun o ho=>?_) ⟨rfl,rfl,(Ft _ _).drew,fun i o φ h1 h2 t ht hx=>?_,fun t _=>rfl⟩)
 ·exact ld
 ·exact a8 _ _
 ·rw[a8] at hx;cases hx
theorem aU {P:Program} {id:Nat} {Q:Exit->Act->World->Prop} {a0:Act} {W:World} {l:List Oper} {front:List Oper} {last:Oper} (hm:P.follows .mixedOrders=true) (hf:l.dropLast=front) (hb:l.getLast?=some last) (hB:growB a0.tmps.size front (some last)=true)
  (h:au P l.toArray Q W a0 (some last) front []):(Ix id l.toArray true).wp P Q a0 W:=by
 refine bo hm ?_ hB h;exact mb

structure Vd where
 n:ByteArray
 c:Int
 z:ByteArray
 k:ByteArray
 x:Bool
 m:ByteArray
 y:Bool
 zs:List ByteArray
def Vd.Fit (v:Vd):Prop:=v.n.size<=9223372036854775807/\v.z.size<=9223372036854775807/\v.k.size<=9223372036854775807/\v.m.size<=9223372036854775807
def Vd.At (v:Vd) (w:World) (b o:Nat):Prop:=v.Fit/\∃a len cap,ay w a len cap v.zs/\
 w.cell? ⟨b,o,none⟩=some (.string v.n)/\w.cell? ⟨b,o+1,none⟩=some (.int .i64 v.c)/\w.cell? ⟨b,o+2,none⟩=some (.string v.z)/\w.cell? ⟨b,o+3,none⟩=some (.string v.k)/\
 w.cell? ⟨b,o+4,none⟩=some (.bool v.x)/\w.cell? ⟨b,o+5,none⟩=some (.string v.m)/\w.cell? ⟨b,o+6,none⟩=some (.bool v.y)/\w.cell? ⟨b,o+7,none⟩=some (.slice a len cap)
theorem Vd.At.below {v:Vd} {w w':World} {b o:Nat} (h:v.At w b o) (hl:b<w.heap.size) (hb:Below w.heap.size w w'):v.At w' b o:=by
 obtain⟨hf,a,len,cap,hr,h0,h1,h2,h3,h4,h5,h6,h7⟩:=h;exact⟨hf,a,len,cap,hr.below hb,(ak hb hl).trans h0,(ak hb hl).trans h1,(ak hb hl).trans h2,(ak hb hl).trans h3,(ak hb hl).trans h4,(ak hb hl).trans h5,(ak hb hl).trans h6,(ak hb hl).trans h7⟩
def eE (w:World) (a:Option Addr) (len cap:Nat) (vs:List Vd):Prop:=
 vs.length=len/\len<=cap/\cap<=9223372036854775807/\
 (vs=[]\/∃b o,a=some ⟨b,o,none⟩/\b<w.heap.size/\∀(j:Nat) v,vs[j]?=some v->v.At w b (o+j*8))
theorem eE.below {w w':World} {a:Option Addr} {len cap:Nat} {vs:List Vd} (h:eE w a len cap vs) (hb:Below w.heap.size w w'):eE w' a len cap vs:=by
 exact yu
theorem eE.at {w:World} {a:Option Addr} {len cap:Nat} {vs:List Vd} (h:eE w a len cap vs) {j:Nat} (hj:j<len):
  ∃b o v,a=some ⟨b,o,none⟩/\b<w.heap.size/\vs[j]?=some v/\v.At w b (o+j*8):=by
 obtain⟨h1,h2,h3,h5⟩:=h;have hx:vs[j]?=some (vs[j]'(by omega)):=Fs _;exact xJ

end Go.Proofs.YtpejepeekdjfoaaGreatDoor

namespace Go.Proofs.YtpejepeekdjfoaaGreatDoor
open Go.RowKit
namespace Rc
open Mk

structure Nd where
 n:ByteArray
 z:ByteArray
 c:Int
 s:Int
 u:Int
 d:Bool
 zs:List ByteArray

def ndF (x:Nd):List Fv:=[.s x.n,.s x.z,.i x.c,.i x.s,.i x.u,.b x.d,.l x.zs]
theorem aZ {w:World} {b o:Nat} {x:Nd} (h:RAt w b o (ndF x)):∃a len cap,ay w a len cap x.zs/\x.n.size<=9223372036854775807/\x.z.size<=9223372036854775807/\w.cell? ⟨b,o,none⟩=some (.string x.n)/\w.cell? ⟨b,o+1,none⟩=some (.string x.z)/\w.cell? ⟨b,o+2,none⟩=some (.int .i64 x.c)/\w.cell? ⟨b,o+3,none⟩=some (.int .i64 x.s)/\w.cell? ⟨b,o+4,none⟩=some (.int .i64 x.u)/\w.cell? ⟨b,o+5,none⟩=some (.bool x.d)/\w.cell? ⟨b,o+6,none⟩=some (.slice a len cap):=by
 obtain⟨v0,h0,rfl,z0⟩:=h 0 _ rfl;obtain⟨v1,h1,rfl,z1⟩:=h 1 _ rfl;obtain⟨v2,h2,rfl⟩:=h 2 _ rfl;obtain⟨v3,h3,rfl⟩:=h 3 _ rfl;obtain⟨v4,h4,rfl⟩:=h 4 _ rfl;obtain⟨v5,h5,rfl⟩:=h 5 _ rfl;obtain⟨v6,h6,a,len,cap,rfl,hr⟩:=h 6 _ rfl;exact⟨a,len,cap,hr,z0,z1,h0,h1,h2,h3,h4,h5,h6⟩
theorem cA {w:World} {a:Option Addr} {len cap:Nat} {xs:List Nd} (h:aN w a len cap 7 (xs.map ndF)) {j:Nat} (hj:j<len):
  ∃b o x,a=some ⟨b,o,none⟩/\b<w.heap.size/\xs[j]?=some x/\RAt w b (o+j*7) (ndF x):=by
 exact nV

theorem ux (a:Option Addr) (len cap:Nat) (xs:List Nd) (left:Int) (w:World) (hr:aN w a len cap 7 (xs.map ndF)) (h0:0<=left) (h1:left<=1048576):
  Calls Tryz.prog 16 #[.slice a len cap,.int .i64 left] w (SzB left (len<=1048576/\∀(j:Nat) x,xs[j]?=some x->x.zs.length<=1048576) w):=by
 obtain⟨HR,hvl⟩:=fP;have hlc:=Fx hr.2.1 hr.2.2.1;clear hr;by_cases hl:left<(len:Int)
 ·go_enter Tryz.func16,Tryz.ntmps16;exact jW
 go_enter Tryz.func16,Tryz.ntmps16;go_wp2;go_loopw [1,5] (fun l i wr=> ∃(k:Nat) (m:Int),k<=len/\l=.int .i64 m/\i=.int .i64 k/\0<=m/\m<=left/\Hid (∀(j:Nat) x,j<k->xs[j]?=some x->x.zs.length<=1048576)/\Hid (Below w.heap.size w wr)) (fun _ i _=>len - (intOf i).toNat);case atStart=>exact⟨0,left - len,by omega,by go_num,rfl,by omega,by omega,fun j v hj=>by omega,Ft _ _⟩
 case round=>
  obtain⟨k,m,hk,rfl,rfl,hm0,hm1,HE,HB⟩:=hrel;by_cases hlt:k<len
  ·obtain⟨b,o,v,rfl,hb,hv,hat⟩:=cA (HR.below HB.out) hlt;obtain⟨va,vl,vc,hvr,z0,z1,c0,c1,c2,c3,c4,c5,c6⟩:=aZ hat;have Hz0:=aa z0;have Hz1:=aa z1;have HV:=aa hv;have HT:=aa hvr;clear hvr;clear hat hv z0 z1;go_wp2_with fail;refine (po v.n v.z v.c v.s v.u v.d va vl vc v.zs m _ Hz0.out Hz1.out HT.out hm0 af).mono ?_;rintro e w2 ⟨r,rfl,hr,hb2⟩;have HB2:=upB HB hb2;clear hb2 c0 c1 c2 c3 c4 c5 c6;exact vO
  ·exact vF

theorem zK (a a':Option Addr) (len len' cap cap':Nat) (xs:List Nd) (w:World) (hr:aN w a len cap 7 (xs.map ndF)) (hr':aN w a' len' cap' 7 (xs.map ndF)):
  Calls Tryz.prog 32 #[.slice a len cap,.slice a' len' cap'] w fun e w'=>e=.returned (.bool true)/\Below w.heap.size w w':=by
 obtain rfl:len=len':=hr.1.symm.trans hr'.1;obtain⟨HR,HR',hlc⟩:=nz;clear hr hr';go_enter Tryz.func32,Tryz.ntmps32;go_wp2;go_loopw [5] (fun i wr=> ∃k:Nat,k<=len/\i=.int .i64 k/\Hid (Below w.heap.size w wr)) (fun i _=>len - (intOf i).toNat);case atStart=>exact⟨0,by omega,rfl,Ft _ _⟩
 case round=>
  obtain⟨k,hk,rfl,HB⟩:=hrel;by_cases hlt:k<len
  ·obtain⟨b,o,v,rfl,hb,hv,hat⟩:=cA (HR.below HB.out) hlt;obtain⟨b',o',v',rfl,hb',hv',hat'⟩:=cA (HR'.below HB.out) hlt;rw[hv] at hv';obtain rfl:=Fo hv';clear hv hv';obtain⟨va,vl,vc,hvr,-,-,c0,c1,c2,c3,c4,c5,c6⟩:=aZ hat;obtain⟨va',vl',vc',hvr',-,-,d0,d1,d2,d3,d4,d5,d6⟩:=aZ hat';clear hat hat';have HT:=aa hvr;have HT':=aa hvr';clear hvr hvr';have HE:=aa (fun q:Wd wr=>rM v.n v.z v.c v.s v.u v.d va vl vc v.zs va' vl' vc' q.w (HT.below q.b) (HT'.below q.b));have hne:=Wd.ne wr;have e0:∀q:Wd wr,q.w.cell? ⟨b,o+k*7,none⟩=some (.string v.n):=fun q=>(q.cell hb).trans c0;have e1:∀q:Wd wr,q.w.cell? ⟨b,o+k*7+1,none⟩=some (.string v.z):=fun q=>(q.cell hb).trans c1;have e2:∀q:Wd wr,q.w.cell? ⟨b,o+k*7+2,none⟩=some (.int .i64 v.c):=fun q=>(q.cell hb).trans c2;have e3:∀q:Wd wr,q.w.cell? ⟨b,o+k*7+3,none⟩=some (.int .i64 v.s):=fun q=>(q.cell hb).trans c3;have e4:∀q:Wd wr,q.w.cell? ⟨b,o+k*7+4,none⟩=some (.int .i64 v.u):=fun q=>(q.cell hb).trans c4;have e5:∀q:Wd wr,q.w.cell? ⟨b,o+k*7+5,none⟩=some (.bool v.d):=fun q=>(q.cell hb).trans c5;have e6:∀q:Wd wr,q.w.cell? ⟨b,o+k*7+6,none⟩=some (.slice va vl vc):=fun q=>(q.cell hb).trans c6;have f0:∀q:Wd wr,q.w.cell? ⟨b',o'+k*7,none⟩=some (.string v.n):=fun q=>(q.cell hb').trans d0;have f1:∀q:Wd wr,q.w.cell? ⟨b',o'+k*7+1,none⟩=some (.string v.z):=fun q=>(q.cell hb').trans d1;have f2:∀q:Wd wr,q.w.cell? ⟨b',o'+k*7+2,none⟩=some (.int .i64 v.c):=fun q=>(q.cell hb').trans d2;have f3:∀q:Wd wr,q.w.cell? ⟨b',o'+k*7+3,none⟩=some (.int .i64 v.s):=fun q=>(q.cell hb').trans d3;have f4:∀q:Wd wr,q.w.cell? ⟨b',o'+k*7+4,none⟩=some (.int .i64 v.u):=fun q=>(q.cell hb').trans d4;have f5:∀q:Wd wr,q.w.cell? ⟨b',o'+k*7+5,none⟩=some (.bool v.d):=fun q=>(q.cell hb').trans d5;have f6:∀q:Wd wr,q.w.cell? ⟨b',o'+k*7+6,none⟩=some (.slice va' vl' vc'):=fun q=>(q.cell hb').trans d6;clear c0 c1 c2 c3 c4 c5 c6 d0 d1 d2 d3 d4 d5 d6;go_wp2_with fail;refine ag ar ar ?_;repeat (go_big_quiet_step (first|(go_at_call 68;exact Calls.wide (HE.out _))|fail))
   exact nX
  ·exact jY

theorem qW (a:Option Addr) (len cap:Nat) (xs:List Nd) (N:Int) (S:Nat->Prop) (w:World) (ho:az w a len cap 7 57 (xs.map ndF) S) (hN:0<N) (hb:aI N (xs.map ndF)<=1152921504606846976) (hl:len<=9223372036854775807):
  Calls Tryz.prog 37 #[.slice a len cap,.int .i64 N] w fun e w'=>e=.returned (.int .i64 (aI N (xs.map ndF)))/\az w' a len cap 7 57 (mkRs N (xs.map ndF)) S/\aC S w w':=by
 have hxl:=ho.1;have hcp:=ho.2.1;have hcm:=ho.2.2.1;have hml:(mkRs N (xs.map ndF)).length=(xs.map ndF).length:=bL _ _;have HO:Hid (az w a len cap 7 57 ((mkRs N (xs.map ndF)).take 0++(xs.map ndF).drop 0) S):=nq
 have HBd:=aa hb;clear ho hb;go_enter Tryz.func37,Tryz.ntmps37;go_wp2;go_loopw [1,5] (fun vk vi wr=> ∃(i:Nat) (n:Int),i<=len/\vk=.int .i64 n/\vi=.int .i64 i/\Hid (n=aI N ((xs.map ndF).take i))/\0<n/\Hid (az wr a len cap 7 57 ((mkRs N (xs.map ndF)).take i++(xs.map ndF).drop i) S)/\Hid (aC S w wr)) (fun _ vi _=>len - (intOf vi).toNat);case atStart=>exact⟨0,N,by omega,rfl,rfl,rfl,hN,HO,aC.refl _ _⟩
 case round=>
  obtain⟨i,n,hi,rfl,rfl,HN,hn0,HS,HK⟩:=hrel;clear HO;by_cases hlt:i<len
  ·obtain⟨x,hx⟩:∃x,xs[i]?=some x:=⟨_,Fs (by simpa using (show i<(xs.map ndF).length by omega))⟩;obtain⟨hfx,HF,hbd,hbd'⟩:=BS;obtain⟨g,rfl,hs⟩:=HS.st HK.out ((cN hml af).trans hfx);have H0:Hid (StJ g 7 57 S (fun _=>False) w wr ((mkRs N (xs.map ndF)).take i++(xs.map ndF).drop i) i [.s x.n,.s x.z,.i x.c,.i x.s,.i x.u,.b x.d,.l x.zs]):=hs;clear hs hbd hx hfx HS HK;go_wp2_with fail;refine (cq _ _ af af).mono ?_;rintro e w1 ⟨rfl,hb⟩;have h1:=(H0.out).below hb;have H1:=aa h1;obtain⟨p0,c0⟩:=h1.cell (i:=0) rfl;have f0:=h1.cH (i*7);rw[Hg] at c0;clear h1 hb H0;go_wp2_with fail;refine (cq _ _ af af).mono ?_;rintro e w2 ⟨rfl,hb⟩;have h1:=((H1.out).dt (i:=0) rfl _ (bG af)).below hb;have H2:=aa h1;obtain⟨p1,c1⟩:=h1.cell (i:=1) rfl;have f1:=h1.cH (i*7+1);obtain⟨p2,c2⟩:=h1.cell (i:=2) rfl;have f2:=h1.cH (i*7+2);obtain⟨p3,c3⟩:=h1.cell (i:=3) rfl;have f3:=h1.cH (i*7+3);obtain⟨p4,c4⟩:=h1.cell (i:=4) rfl;have f4:=h1.cH (i*7+4);obtain⟨p5,c5⟩:=h1.cell (i:=5) rfl;have f5:=h1.cH (i*7+5);obtain⟨la,ll,lc,cl,hll⟩:=h1.slice (i:=6) rfl;clear h1 hb H1 c0 f0;go_wp2_with fail;refine (((((((H2.out).dt (i:=1) rfl _ (bG af)).ir (i:=2) rfl _).ir (i:=3) rfl _).ir (i:=4) rfl _).jg (i:=5) rfl _).ze (i:=6) rfl ((cB af).trans ((cB af).trans ((cB af).trans ((cB af).trans ((cB af).trans (cl)))))) _ af af).mono ?_;rintro e w3 ⟨rfl,h1⟩;have H3:=aa h1;clear h1 cl H2 c1 f1 c2 f2 c3 f3 c4 f4 c5 f5;go_wp2_with fail;have HZ:=aa (H3.out);clear H3;refine⟨⟨i+1,mkN n (ndF x),by omega,?_,by go_num,?_,?_,?_,HZ.kept⟩,by simp[intOf];omega⟩
   ·simp[mkN,mkN1,ndF,hll,GX]
   ·rw[cw HF.out,<-HN.out];rfl
   ·simp[mkN,mkN1,ndF];omega
   ·refine az.ot HZ.out hxl hml hcp hcm HF.out ?_;rw[<-HN.out];simp[mkR,mkF,mkN1,ndF,hll]
  ·obtain rfl:i=len:=af
   go_wp2;go_ret;have e1:(xs.map ndF).take i=xs.map ndF:=FD af;have e2:(mkRs N (xs.map ndF)).take i++(xs.map ndF).drop i=mkRs N (xs.map ndF):=by
    exact jR
   exact nU

theorem rF (a:Option Addr) (len cap:Nat) (xs:List Nd) (N:Int) (w:World) (ho:aN w a len cap 7 (mkRs N (xs.map ndF))) (hN:0<N) (hb:aI N (xs.map ndF)<=1152921504606846976) (hl:len<=9223372036854775807):
  Calls Tryz.prog 75 #[.slice a len cap,.int .i64 N] w fun e w'=>e=.returned (.int .i64 (aI N (xs.map ndF)))/\Below w.heap.size w w':=by
 have hxl:(xs.map ndF).length=len:=by rw[<-bL (xs.map ndF) N];exact ho.1
 have HR:=aa ho;have HBd:=aa hb;clear ho hb;go_enter Tryz.func75,Tryz.ntmps75;go_wp2;go_loopw [1,5] (fun vk vi wr=> ∃(i:Nat) (n:Int),i<=len/\vk=.int .i64 n/\vi=.int .i64 i/\Hid (n=aI N ((xs.map ndF).take i))/\0<n/\Hid (Below w.heap.size w wr)) (fun _ vi _=>len - (intOf vi).toNat);case atStart=>exact⟨0,N,by omega,rfl,rfl,rfl,hN,Ft _ _⟩
 case round=>
  obtain⟨i,n,hi,rfl,rfl,HN,hn0,HB⟩:=hrel;by_cases hlt:i<len
  ·obtain⟨x,hx⟩:∃x,xs[i]?=some x:=⟨_,Fs (by simpa using (show i<(xs.map ndF).length by omega))⟩;obtain⟨hfx,HF,hbd,hbd'⟩:=BS;obtain⟨b,o,r,rfl,hb,hr,hat⟩:=(HR.below HB.out).at hlt;rw[eL,hfx,<-HN.out] at hr;obtain rfl:=Fo hr;have HA:Hid (RAt wr b (o+i*7) (ndF ⟨bm (n).toNat,bm (n+1).toNat,n+1+1,n+1+1+1,n+1+1+1+1,(n+1+1+1+1+1) % 3==0,dJ (n+1+1+1+1+1+1) x.zs.length⟩)):=hat;clear hat hr hbd hx hfx;obtain⟨va,vl,vc,hvr,-,-,c0,c1,c2,c3,c4,c5,c6⟩:=aZ HA.out;have HL:=aa hvr;have hvl:=hvr.1;rw[aY] at hvl;clear hvr;clear HL hvl;have hne0:=Wd.ne wr;have e0:∀q:Wd wr,q.w.cell? ⟨b,o+i*7,none⟩=some (.string (bm (n).toNat)):=fun q=>(q.cell hb).trans c0;have HT:=aa (fun v:World=>cq (n) v af af);clear c0;go_wp2_with fail;refine ag ar ar ?_;repeat (go_big_quiet_step (first|(go_at_call 73;exact Calls.wide (HT.out _))|fail))
   refine wpQuiet_nil ?_;rintro _ ⟨q0,rfl⟩;clear e0 HT hne0 c1 c2 c3 c4 c5 c6;obtain⟨HA0,HB0,hb0⟩:=nH;clear HA HB hb;have HA:=HA0;have HB:=HB0;have hb:=hb0;clear HA0 HB0 hb0;obtain⟨va,vl,vc,hvr,-,-,c0,c1,c2,c3,c4,c5,c6⟩:=aZ HA.out;have HL:=aa hvr;have hvl1:=hvr.1;rw[aY] at hvl1;clear hvr;clear c0 c2 c3 c4 c5 c6;clear HL hvl1;have hne1:=Wd.ne q0.w;have e1:∀q:Wd q0.w,q.w.cell? ⟨b,o+i*7+1,none⟩=some (.string (bm (n+1).toNat)):=fun q=>(q.cell hb).trans c1;have HT:=aa (fun v:World=>cq (n+1) v af af);clear c1;go_wp2_with fail;refine ag ar ar ?_;repeat (go_big_quiet_step (first|(go_at_call 73;exact Calls.wide (HT.out _))|fail))
   refine wpQuiet_nil ?_;rintro _ ⟨q1,rfl⟩;clear e1 HT hne1;obtain⟨HA1,HB1,hb1⟩:=nG;clear HA HB hb;have HA:=HA1;have HB:=HB1;have hb:=hb1;clear HA1 HB1 hb1;obtain⟨va,vl,vc,hvr,-,-,c0,c1,c2,c3,c4,c5,c6⟩:=aZ HA.out;have HL:=aa hvr;have hvl2:=hvr.1;rw[aY] at hvl2;clear hvr;clear c0 c1;subst hvl2;go_wp2_with fail;refine (zE va _ vc _ _ (by exact HL.out) af af).mono ?_;rintro e w2 ⟨rfl,hbq⟩;have HA2:=aa (HA.below hb hbq);have HB2:=upB HB hbq;have hb2:=FC hb hbq.size;clear HA HB hb HL c6 hbq;have HA:=HA2;have HB:=HB2;have hb:=hb2;clear HA2 HB2 hb2;go_wp2_with fail;refine⟨⟨i+1,mkN n (ndF x),by omega,?_,by go_num,?_,?_,HB.out⟩,by simp[intOf];omega⟩
   ·simp[mkN,mkN1,ndF,GX]
   ·rw[cw HF.out,<-HN.out];rfl
   ·simp[mkN,mkN1,ndF];omega
  ·obtain rfl:i=len:=af
   go_wp2;go_ret;have e1:(xs.map ndF).take i=xs.map ndF:=FD af;exact nP

structure Kd where
 n:ByteArray
 x:Bool
 y:Bool
 z:ByteArray

def kdF (x:Kd):List Fv:=[.s x.n,.b x.x,.b x.y,.s x.z]
theorem cf {w:World} {b o:Nat} {x:Kd} (h:RAt w b o (kdF x)):x.n.size<=9223372036854775807/\x.z.size<=9223372036854775807/\w.cell? ⟨b,o,none⟩=some (.string x.n)/\w.cell? ⟨b,o+1,none⟩=some (.bool x.x)/\w.cell? ⟨b,o+2,none⟩=some (.bool x.y)/\w.cell? ⟨b,o+3,none⟩=some (.string x.z):=by
 obtain⟨v0,h0,rfl,z0⟩:=h 0 _ rfl;obtain⟨v1,h1,rfl⟩:=h 1 _ rfl;obtain⟨v2,h2,rfl⟩:=h 2 _ rfl;obtain⟨v3,h3,rfl,z3⟩:=h 3 _ rfl;exact⟨z0,z3,h0,h1,h2,h3⟩
theorem eW {w:World} {a:Option Addr} {len cap:Nat} {xs:List Kd} (h:aN w a len cap 4 (xs.map kdF)) {j:Nat} (hj:j<len):
  ∃b o x,a=some ⟨b,o,none⟩/\b<w.heap.size/\xs[j]?=some x/\RAt w b (o+j*4) (kdF x):=by
 exact nV

theorem uy (a:Option Addr) (len cap:Nat) (xs:List Kd) (left:Int) (w:World) (hr:aN w a len cap 4 (xs.map kdF)) (h0:0<=left) (h1:left<=1048576):
  Calls Tryz.prog 17 #[.slice a len cap,.int .i64 left] w (SzB left (len<=1048576) w):=by
 obtain⟨HR,hvl⟩:=fP;have hlc:=Fx hr.2.1 hr.2.2.1;clear hr;by_cases hl:left<(len:Int)
 ·go_enter Tryz.func17,Tryz.ntmps17;exact jW
 go_enter Tryz.func17,Tryz.ntmps17;go_wp2;go_loopw [1,5] (fun l i wr=> ∃(k:Nat) (m:Int),k<=len/\l=.int .i64 m/\i=.int .i64 k/\0<=m/\m<=left/\Hid (Below w.heap.size w wr)) (fun _ i _=>len - (intOf i).toNat);case atStart=>exact⟨0,left - len,by omega,by go_num,rfl,by omega,by omega,Ft _ _⟩
 case round=>
  obtain⟨k,m,hk,rfl,rfl,hm0,hm1,HB⟩:=hrel;by_cases hlt:k<len
  ·obtain⟨b,o,v,rfl,hb,hv,hat⟩:=eW (HR.below HB.out) hlt;obtain⟨z0,z3,c0,c1,c2,c3⟩:=cf hat;have Hz0:=aa z0;have Hz3:=aa z3;clear hat hv z0 z3;go_wp2_with fail;refine (mQ v.n v.x v.y v.z m _ Hz0.out Hz3.out hm0 af).mono ?_;rintro e w2 ⟨r,rfl,hr,hb2⟩;have HB2:=upB HB hb2;clear hb2 c0 c1 c2 c3;exact yr
  ·exact xD

theorem oQ (n:ByteArray) (x:Bool) (y:Bool) (z:ByteArray) (w:World):
  Calls Tryz.prog 69 #[.agg #[.string n,.bool x,.bool y,.string z],.agg #[.string n,.bool x,.bool y,.string z]] w fun e w'=>e=.returned (.bool true)/\Below w.heap.size w w':=by
 go_enter Tryz.func69,Tryz.ntmps69;go_wp2;go_ret;exact⟨rfl,aF _ _ _⟩

theorem zL (a a':Option Addr) (len len' cap cap':Nat) (xs:List Kd) (w:World) (hr:aN w a len cap 4 (xs.map kdF)) (hr':aN w a' len' cap' 4 (xs.map kdF)):
  Calls Tryz.prog 33 #[.slice a len cap,.slice a' len' cap'] w fun e w'=>e=.returned (.bool true)/\Below w.heap.size w w':=by
 obtain rfl:len=len':=hr.1.symm.trans hr'.1;obtain⟨HR,HR',hlc⟩:=nz;clear hr hr';go_enter Tryz.func33,Tryz.ntmps33;go_wp2;go_loopw [5] (fun i wr=> ∃k:Nat,k<=len/\i=.int .i64 k/\Hid (Below w.heap.size w wr)) (fun i _=>len - (intOf i).toNat);case atStart=>exact⟨0,by omega,rfl,Ft _ _⟩
 case round=>
  obtain⟨k,hk,rfl,HB⟩:=hrel;by_cases hlt:k<len
  ·obtain⟨b,o,v,rfl,hb,hv,hat⟩:=eW (HR.below HB.out) hlt;obtain⟨b',o',v',rfl,hb',hv',hat'⟩:=eW (HR'.below HB.out) hlt;rw[hv] at hv';obtain rfl:=Fo hv';clear hv hv';obtain⟨-,-,c0,c1,c2,c3⟩:=cf hat;obtain⟨-,-,d0,d1,d2,d3⟩:=cf hat';clear hat hat';have HE:=aa (fun q:Wd wr=>oQ v.n v.x v.y v.z q.w);have hne:=Wd.ne wr;have e0:∀q:Wd wr,q.w.cell? ⟨b,o+k*4,none⟩=some (.string v.n):=fun q=>(q.cell hb).trans c0;have e1:∀q:Wd wr,q.w.cell? ⟨b,o+k*4+1,none⟩=some (.bool v.x):=fun q=>(q.cell hb).trans c1;have e2:∀q:Wd wr,q.w.cell? ⟨b,o+k*4+2,none⟩=some (.bool v.y):=fun q=>(q.cell hb).trans c2;have e3:∀q:Wd wr,q.w.cell? ⟨b,o+k*4+3,none⟩=some (.string v.z):=fun q=>(q.cell hb).trans c3;have f0:∀q:Wd wr,q.w.cell? ⟨b',o'+k*4,none⟩=some (.string v.n):=fun q=>(q.cell hb').trans d0;have f1:∀q:Wd wr,q.w.cell? ⟨b',o'+k*4+1,none⟩=some (.bool v.x):=fun q=>(q.cell hb').trans d1;have f2:∀q:Wd wr,q.w.cell? ⟨b',o'+k*4+2,none⟩=some (.bool v.y):=fun q=>(q.cell hb').trans d2;have f3:∀q:Wd wr,q.w.cell? ⟨b',o'+k*4+3,none⟩=some (.string v.z):=fun q=>(q.cell hb').trans d3;clear c0 c1 c2 c3 d0 d1 d2 d3;go_wp2_with fail;refine ag ar ar ?_;repeat (go_big_quiet_step (first|(go_at_call 69;exact Calls.wide (HE.out _))|fail))
   exact nX
  ·exact jY

theorem qX (a:Option Addr) (len cap:Nat) (xs:List Kd) (N:Int) (S:Nat->Prop) (w:World) (ho:az w a len cap 4 102 (xs.map kdF) S) (hN:0<N) (hb:aI N (xs.map kdF)<=1152921504606846976) (hl:len<=9223372036854775807):
  Calls Tryz.prog 38 #[.slice a len cap,.int .i64 N] w fun e w'=>e=.returned (.int .i64 (aI N (xs.map kdF)))/\az w' a len cap 4 102 (mkRs N (xs.map kdF)) S/\aC S w w':=by
 have hxl:=ho.1;have hcp:=ho.2.1;have hcm:=ho.2.2.1;have hml:(mkRs N (xs.map kdF)).length=(xs.map kdF).length:=bL _ _;have HO:Hid (az w a len cap 4 102 ((mkRs N (xs.map kdF)).take 0++(xs.map kdF).drop 0) S):=nq
 have HBd:=aa hb;clear ho hb;go_enter Tryz.func38,Tryz.ntmps38;go_wp2;go_loopw [1,5] (fun vk vi wr=> ∃(i:Nat) (n:Int),i<=len/\vk=.int .i64 n/\vi=.int .i64 i/\Hid (n=aI N ((xs.map kdF).take i))/\0<n/\Hid (az wr a len cap 4 102 ((mkRs N (xs.map kdF)).take i++(xs.map kdF).drop i) S)/\Hid (aC S w wr)) (fun _ vi _=>len - (intOf vi).toNat);case atStart=>exact⟨0,N,by omega,rfl,rfl,rfl,hN,HO,aC.refl _ _⟩
 case round=>
  obtain⟨i,n,hi,rfl,rfl,HN,hn0,HS,HK⟩:=hrel;clear HO;by_cases hlt:i<len
  ·obtain⟨x,hx⟩:∃x,xs[i]?=some x:=⟨_,Fs (by simpa using (show i<(xs.map kdF).length by omega))⟩;obtain⟨hfx,HF,hbd,hbd'⟩:=BQ;obtain⟨g,rfl,hs⟩:=HS.st HK.out ((cN hml af).trans hfx);have H0:Hid (StJ g 4 102 S (fun _=>False) w wr ((mkRs N (xs.map kdF)).take i++(xs.map kdF).drop i) i [.s x.n,.b x.x,.b x.y,.s x.z]):=hs;clear hs hbd hx hfx HS HK;go_wp2_with fail;refine (cq _ _ af af).mono ?_;rintro e w1 ⟨rfl,hb⟩;have h1:=(H0.out).below hb;have H1:=aa h1;obtain⟨p0,c0⟩:=h1.cell (i:=0) rfl;have f0:=h1.cH (i*4);rw[Hg] at c0;obtain⟨p1,c1⟩:=h1.cell (i:=1) rfl;have f1:=h1.cH (i*4+1);obtain⟨p2,c2⟩:=h1.cell (i:=2) rfl;have f2:=h1.cH (i*4+2);clear h1 hb H0;go_wp2_with fail;refine (cq _ _ af af).mono ?_;rintro e w2 ⟨rfl,hb⟩;have h1:=((((H1.out).dt (i:=0) rfl _ (bG af)).jg (i:=1) rfl _).jg (i:=2) rfl _).below hb;have H2:=aa h1;obtain⟨p3,c3⟩:=h1.cell (i:=3) rfl;have f3:=h1.cH (i*4+3);clear h1 hb H1 c0 f0 c1 f1 c2 f2;go_wp2_with fail;have HZ:=aa ((H2.out).dt (i:=3) rfl (bm (n+1+1+1).toNat) (bG af));clear H2;refine⟨⟨i+1,mkN n (kdF x),by omega,?_,by go_num,?_,?_,?_,HZ.kept⟩,by simp[intOf];omega⟩
   ·simp[mkN,mkN1,kdF,GX]
   ·rw[cw HF.out,<-HN.out];rfl
   ·simp[mkN,mkN1,kdF];omega
   ·refine az.ot HZ.out hxl hml hcp hcm HF.out ?_;rw[<-HN.out];simp[mkR,mkF,mkN1,kdF]
  ·obtain rfl:i=len:=af
   go_wp2;go_ret;have e1:(xs.map kdF).take i=xs.map kdF:=FD af;have e2:(mkRs N (xs.map kdF)).take i++(xs.map kdF).drop i=mkRs N (xs.map kdF):=by
    exact jR
   exact nU

theorem rG (a:Option Addr) (len cap:Nat) (xs:List Kd) (N:Int) (w:World) (ho:aN w a len cap 4 (mkRs N (xs.map kdF))) (hN:0<N) (hb:aI N (xs.map kdF)<=1152921504606846976) (hl:len<=9223372036854775807):
  Calls Tryz.prog 76 #[.slice a len cap,.int .i64 N] w fun e w'=>e=.returned (.int .i64 (aI N (xs.map kdF)))/\Below w.heap.size w w':=by
 have hxl:(xs.map kdF).length=len:=by rw[<-bL (xs.map kdF) N];exact ho.1
 have HR:=aa ho;have HBd:=aa hb;clear ho hb;go_enter Tryz.func76,Tryz.ntmps76;go_wp2;go_loopw [1,5] (fun vk vi wr=> ∃(i:Nat) (n:Int),i<=len/\vk=.int .i64 n/\vi=.int .i64 i/\Hid (n=aI N ((xs.map kdF).take i))/\0<n/\Hid (Below w.heap.size w wr)) (fun _ vi _=>len - (intOf vi).toNat);case atStart=>exact⟨0,N,by omega,rfl,rfl,rfl,hN,Ft _ _⟩
 case round=>
  obtain⟨i,n,hi,rfl,rfl,HN,hn0,HB⟩:=hrel;by_cases hlt:i<len
  ·obtain⟨x,hx⟩:∃x,xs[i]?=some x:=⟨_,Fs (by simpa using (show i<(xs.map kdF).length by omega))⟩;obtain⟨hfx,HF,hbd,hbd'⟩:=BQ;obtain⟨b,o,r,rfl,hb,hr,hat⟩:=(HR.below HB.out).at hlt;rw[eL,hfx,<-HN.out] at hr;obtain rfl:=Fo hr;have HA:Hid (RAt wr b (o+i*4) (kdF ⟨bm (n).toNat,(n+1) % 3==0,(n+1+1) % 3==0,bm (n+1+1+1).toNat⟩)):=hat;clear hat hr hbd hx hfx;obtain⟨-,-,c0,c1,c2,c3⟩:=cf HA.out;have hne0:=Wd.ne wr;have e0:∀q:Wd wr,q.w.cell? ⟨b,o+i*4,none⟩=some (.string (bm (n).toNat)):=fun q=>(q.cell hb).trans c0;have HT:=aa (fun v:World=>cq (n) v af af);clear c0;go_wp2_with fail;refine ag ar ar ?_;repeat (go_big_quiet_step (first|(go_at_call 73;exact Calls.wide (HT.out _))|fail))
   refine wpQuiet_nil ?_;rintro _ ⟨q0,rfl⟩;clear e0 HT hne0 c1 c2 c3;obtain⟨HA0,HB0,hb0⟩:=nH;clear HA HB hb;have HA:=HA0;have HB:=HB0;have hb:=hb0;clear HA0 HB0 hb0;obtain⟨-,-,c0,c1,c2,c3⟩:=cf HA.out;clear c0;have hne1:=Wd.ne q0.w;have e3:∀q:Wd q0.w,q.w.cell? ⟨b,o+i*4+3,none⟩=some (.string (bm (n+1+1+1).toNat)):=fun q=>(q.cell hb).trans c3;have HT:=aa (fun v:World=>cq (n+1+1+1) v af af);clear c3;go_wp2_with fail;refine ag ar ar ?_;repeat (go_big_quiet_step (first|(go_at_call 73;exact Calls.wide (HT.out _))|fail))
   refine wpQuiet_nil ?_;rintro _ ⟨q1,rfl⟩;clear e3 HT hne1 c1 c2;obtain⟨HA1,HB1,hb1⟩:=nG;clear HA HB hb;have HA:=HA1;have HB:=HB1;have hb:=hb1;clear HA1 HB1 hb1;obtain⟨-,-,c0,c1,c2,c3⟩:=cf HA.out;clear c0 c1 c2 c3;go_wp2_with fail;refine⟨⟨i+1,mkN n (kdF x),by omega,?_,by go_num,?_,?_,HB.out⟩,by simp[intOf];omega⟩
   ·simp[mkN,mkN1,kdF,GX]
   ·rw[cw HF.out,<-HN.out];rfl
   ·simp[mkN,mkN1,kdF];omega
  ·obtain rfl:i=len:=af
   go_wp2;go_ret;have e1:(xs.map kdF).take i=xs.map kdF:=FD af;exact nP

def vdF (x:Vd):List Fv:=[.s x.n,.i x.c,.s x.z,.s x.k,.b x.x,.s x.m,.b x.y,.l x.zs]
theorem aK {w:World} {b o:Nat} {x:Vd} (h:RAt w b o (vdF x)):∃a len cap,ay w a len cap x.zs/\x.n.size<=9223372036854775807/\x.z.size<=9223372036854775807/\x.k.size<=9223372036854775807/\x.m.size<=9223372036854775807/\w.cell? ⟨b,o,none⟩=some (.string x.n)/\w.cell? ⟨b,o+1,none⟩=some (.int .i64 x.c)/\w.cell? ⟨b,o+2,none⟩=some (.string x.z)/\w.cell? ⟨b,o+3,none⟩=some (.string x.k)/\w.cell? ⟨b,o+4,none⟩=some (.bool x.x)/\w.cell? ⟨b,o+5,none⟩=some (.string x.m)/\w.cell? ⟨b,o+6,none⟩=some (.bool x.y)/\w.cell? ⟨b,o+7,none⟩=some (.slice a len cap):=by
 obtain⟨v0,h0,rfl,z0⟩:=h 0 _ rfl;obtain⟨v1,h1,rfl⟩:=h 1 _ rfl;obtain⟨v2,h2,rfl,z2⟩:=h 2 _ rfl;obtain⟨v3,h3,rfl,z3⟩:=h 3 _ rfl;obtain⟨v4,h4,rfl⟩:=h 4 _ rfl;obtain⟨v5,h5,rfl,z5⟩:=h 5 _ rfl;obtain⟨v6,h6,rfl⟩:=h 6 _ rfl;obtain⟨v7,h7,a,len,cap,rfl,hr⟩:=h 7 _ rfl;exact⟨a,len,cap,hr,z0,z2,z3,z5,h0,h1,h2,h3,h4,h5,h6,h7⟩
theorem bN {w:World} {a:Option Addr} {len cap:Nat} {xs:List Vd} (h:aN w a len cap 8 (xs.map vdF)) {j:Nat} (hj:j<len):
  ∃b o x,a=some ⟨b,o,none⟩/\b<w.heap.size/\xs[j]?=some x/\RAt w b (o+j*8) (vdF x):=by
 exact nV

theorem uv (a:Option Addr) (len cap:Nat) (xs:List Vd) (left:Int) (w:World) (hr:aN w a len cap 8 (xs.map vdF)) (h0:0<=left) (h1:left<=1048576):
  Calls Tryz.prog 18 #[.slice a len cap,.int .i64 left] w (SzB left (len<=1048576/\∀(j:Nat) x,xs[j]?=some x->x.zs.length<=1048576) w):=by
 obtain⟨HR,hvl⟩:=fP;have hlc:=Fx hr.2.1 hr.2.2.1;clear hr;by_cases hl:left<(len:Int)
 ·go_enter Tryz.func18,Tryz.ntmps18;exact jW
 go_enter Tryz.func18,Tryz.ntmps18;go_wp2;go_loopw [1,5] (fun l i wr=> ∃(k:Nat) (m:Int),k<=len/\l=.int .i64 m/\i=.int .i64 k/\0<=m/\m<=left/\Hid (∀(j:Nat) x,j<k->xs[j]?=some x->x.zs.length<=1048576)/\Hid (Below w.heap.size w wr)) (fun _ i _=>len - (intOf i).toNat);case atStart=>exact⟨0,left - len,by omega,by go_num,rfl,by omega,by omega,fun j v hj=>by omega,Ft _ _⟩
 case round=>
  obtain⟨k,m,hk,rfl,rfl,hm0,hm1,HE,HB⟩:=hrel;by_cases hlt:k<len
  ·obtain⟨b,o,v,rfl,hb,hv,hat⟩:=bN (HR.below HB.out) hlt;obtain⟨va,vl,vc,hvr,z0,z2,z3,z5,c0,c1,c2,c3,c4,c5,c6,c7⟩:=aK hat;have Hz0:=aa z0;have Hz2:=aa z2;have Hz3:=aa z3;have Hz5:=aa z5;have HV:=aa hv;have HT:=aa hvr;clear hvr;clear hat hv z0 z2 z3 z5;go_wp2_with fail;refine (lO v.n v.c v.z v.k v.x v.m v.y va vl vc v.zs m _ Hz0.out Hz2.out Hz3.out Hz5.out HT.out hm0 af).mono ?_;rintro e w2 ⟨r,rfl,hr,hb2⟩;have HB2:=upB HB hb2;clear hb2 c0 c1 c2 c3 c4 c5 c6 c7;exact vO
  ·exact vF

theorem zI (a a':Option Addr) (len len' cap cap':Nat) (xs:List Vd) (w:World) (hr:aN w a len cap 8 (xs.map vdF)) (hr':aN w a' len' cap' 8 (xs.map vdF)):
  Calls Tryz.prog 34 #[.slice a len cap,.slice a' len' cap'] w fun e w'=>e=.returned (.bool true)/\Below w.heap.size w w':=by
 obtain rfl:len=len':=hr.1.symm.trans hr'.1;obtain⟨HR,HR',hlc⟩:=nz;clear hr hr';go_enter Tryz.func34,Tryz.ntmps34;go_wp2;go_loopw [5] (fun i wr=> ∃k:Nat,k<=len/\i=.int .i64 k/\Hid (Below w.heap.size w wr)) (fun i _=>len - (intOf i).toNat);case atStart=>exact⟨0,by omega,rfl,Ft _ _⟩
 case round=>
  obtain⟨k,hk,rfl,HB⟩:=hrel;by_cases hlt:k<len
  ·obtain⟨b,o,v,rfl,hb,hv,hat⟩:=bN (HR.below HB.out) hlt;obtain⟨b',o',v',rfl,hb',hv',hat'⟩:=bN (HR'.below HB.out) hlt;rw[hv] at hv';obtain rfl:=Fo hv';clear hv hv';obtain⟨va,vl,vc,hvr,-,-,-,-,c0,c1,c2,c3,c4,c5,c6,c7⟩:=aK hat;obtain⟨va',vl',vc',hvr',-,-,-,-,d0,d1,d2,d3,d4,d5,d6,d7⟩:=aK hat';clear hat hat';have HT:=aa hvr;have HT':=aa hvr';clear hvr hvr';have HE:=aa (fun q:Wd wr=>mz v.n v.c v.z v.k v.x v.m v.y va vl vc v.zs va' vl' vc' q.w (HT.below q.b) (HT'.below q.b));have hne:=Wd.ne wr;have e0:∀q:Wd wr,q.w.cell? ⟨b,o+k*8,none⟩=some (.string v.n):=fun q=>(q.cell hb).trans c0;have e1:∀q:Wd wr,q.w.cell? ⟨b,o+k*8+1,none⟩=some (.int .i64 v.c):=fun q=>(q.cell hb).trans c1;have e2:∀q:Wd wr,q.w.cell? ⟨b,o+k*8+2,none⟩=some (.string v.z):=fun q=>(q.cell hb).trans c2;have e3:∀q:Wd wr,q.w.cell? ⟨b,o+k*8+3,none⟩=some (.string v.k):=fun q=>(q.cell hb).trans c3;have e4:∀q:Wd wr,q.w.cell? ⟨b,o+k*8+4,none⟩=some (.bool v.x):=fun q=>(q.cell hb).trans c4;have e5:∀q:Wd wr,q.w.cell? ⟨b,o+k*8+5,none⟩=some (.string v.m):=fun q=>(q.cell hb).trans c5;have e6:∀q:Wd wr,q.w.cell? ⟨b,o+k*8+6,none⟩=some (.bool v.y):=fun q=>(q.cell hb).trans c6;have e7:∀q:Wd wr,q.w.cell? ⟨b,o+k*8+7,none⟩=some (.slice va vl vc):=fun q=>(q.cell hb).trans c7;have f0:∀q:Wd wr,q.w.cell? ⟨b',o'+k*8,none⟩=some (.string v.n):=fun q=>(q.cell hb').trans d0;have f1:∀q:Wd wr,q.w.cell? ⟨b',o'+k*8+1,none⟩=some (.int .i64 v.c):=fun q=>(q.cell hb').trans d1;have f2:∀q:Wd wr,q.w.cell? ⟨b',o'+k*8+2,none⟩=some (.string v.z):=fun q=>(q.cell hb').trans d2;have f3:∀q:Wd wr,q.w.cell? ⟨b',o'+k*8+3,none⟩=some (.string v.k):=fun q=>(q.cell hb').trans d3;have f4:∀q:Wd wr,q.w.cell? ⟨b',o'+k*8+4,none⟩=some (.bool v.x):=fun q=>(q.cell hb').trans d4;have f5:∀q:Wd wr,q.w.cell? ⟨b',o'+k*8+5,none⟩=some (.string v.m):=fun q=>(q.cell hb').trans d5;have f6:∀q:Wd wr,q.w.cell? ⟨b',o'+k*8+6,none⟩=some (.bool v.y):=fun q=>(q.cell hb').trans d6;have f7:∀q:Wd wr,q.w.cell? ⟨b',o'+k*8+7,none⟩=some (.slice va' vl' vc'):=fun q=>(q.cell hb').trans d7;clear c0 c1 c2 c3 c4 c5 c6 c7 d0 d1 d2 d3 d4 d5 d6 d7;go_wp2_with fail;refine ag ar ar ?_;repeat (go_big_quiet_step (first|(go_at_call 70;exact Calls.wide (HE.out _))|fail))
   exact nX
  ·exact jY

theorem qU (a:Option Addr) (len cap:Nat) (xs:List Vd) (N:Int) (S:Nat->Prop) (w:World) (ho:az w a len cap 8 99 (xs.map vdF) S) (hN:0<N) (hb:aI N (xs.map vdF)<=1152921504606846976) (hl:len<=9223372036854775807):
  Calls Tryz.prog 39 #[.slice a len cap,.int .i64 N] w fun e w'=>e=.returned (.int .i64 (aI N (xs.map vdF)))/\az w' a len cap 8 99 (mkRs N (xs.map vdF)) S/\aC S w w':=by
 have hxl:=ho.1;have hcp:=ho.2.1;have hcm:=ho.2.2.1;have hml:(mkRs N (xs.map vdF)).length=(xs.map vdF).length:=bL _ _;have HO:Hid (az w a len cap 8 99 ((mkRs N (xs.map vdF)).take 0++(xs.map vdF).drop 0) S):=nq
 have HBd:=aa hb;clear ho hb;go_enter Tryz.func39,Tryz.ntmps39;go_wp2;go_loopw [1,5] (fun vk vi wr=> ∃(i:Nat) (n:Int),i<=len/\vk=.int .i64 n/\vi=.int .i64 i/\Hid (n=aI N ((xs.map vdF).take i))/\0<n/\Hid (az wr a len cap 8 99 ((mkRs N (xs.map vdF)).take i++(xs.map vdF).drop i) S)/\Hid (aC S w wr)) (fun _ vi _=>len - (intOf vi).toNat);case atStart=>exact⟨0,N,by omega,rfl,rfl,rfl,hN,HO,aC.refl _ _⟩
 case round=>
  obtain⟨i,n,hi,rfl,rfl,HN,hn0,HS,HK⟩:=hrel;clear HO;by_cases hlt:i<len
  ·obtain⟨x,hx⟩:∃x,xs[i]?=some x:=⟨_,Fs (by simpa using (show i<(xs.map vdF).length by omega))⟩;obtain⟨hfx,HF,hbd,hbd'⟩:=BR;obtain⟨g,rfl,hs⟩:=HS.st HK.out ((cN hml af).trans hfx);have H0:Hid (StJ g 8 99 S (fun _=>False) w wr ((mkRs N (xs.map vdF)).take i++(xs.map vdF).drop i) i [.s x.n,.i x.c,.s x.z,.s x.k,.b x.x,.s x.m,.b x.y,.l x.zs]):=hs;clear hs hbd hx hfx HS HK;go_wp2_with fail;refine (cq _ _ af af).mono ?_;rintro e w1 ⟨rfl,hb⟩;have h1:=(H0.out).below hb;have H1:=aa h1;obtain⟨p0,c0⟩:=h1.cell (i:=0) rfl;have f0:=h1.cH (i*8);rw[Hg] at c0;obtain⟨p1,c1⟩:=h1.cell (i:=1) rfl;have f1:=h1.cH (i*8+1);clear h1 hb H0;go_wp2_with fail;refine (cq _ _ af af).mono ?_;rintro e w2 ⟨rfl,hb⟩;obtain⟨h1,H2⟩:=uV;obtain⟨p2,c2⟩:=h1.cell (i:=2) rfl;have f2:=h1.cH (i*8+2);clear h1 hb H1 c0 f0 c1 f1;go_wp2_with fail;refine (cq _ _ af af).mono ?_;rintro e w3 ⟨rfl,hb⟩;have h1:=((H2.out).dt (i:=2) rfl _ (bG af)).below hb;have H3:=aa h1;obtain⟨p3,c3⟩:=h1.cell (i:=3) rfl;have f3:=h1.cH (i*8+3);obtain⟨p4,c4⟩:=h1.cell (i:=4) rfl;have f4:=h1.cH (i*8+4);clear h1 hb H2 c2 f2;go_wp2_with fail;refine (cq _ _ af af).mono ?_;rintro e w4 ⟨rfl,hb⟩;have h1:=(((H3.out).dt (i:=3) rfl _ (bG af)).jg (i:=4) rfl _).below hb;have H4:=aa h1;obtain⟨p5,c5⟩:=h1.cell (i:=5) rfl;have f5:=h1.cH (i*8+5);obtain⟨p6,c6⟩:=h1.cell (i:=6) rfl;have f6:=h1.cH (i*8+6);obtain⟨la,ll,lc,cl,hll⟩:=h1.slice (i:=7) rfl;clear h1 hb H3 c3 f3 c4 f4;go_wp2_with fail;refine ((((H4.out).dt (i:=5) rfl _ (bG af)).jg (i:=6) rfl _).ze (i:=7) rfl ((cB af).trans ((cB af).trans (cl))) _ af af).mono ?_;rintro e w5 ⟨rfl,h1⟩;have H5:=aa h1;clear h1 cl H4 c5 f5 c6 f6;go_wp2_with fail;have HZ:=aa (H5.out);clear H5;refine⟨⟨i+1,mkN n (vdF x),by omega,?_,by go_num,?_,?_,?_,HZ.kept⟩,by simp[intOf];omega⟩
   ·simp[mkN,mkN1,vdF,hll,GX]
   ·rw[cw HF.out,<-HN.out];rfl
   ·simp[mkN,mkN1,vdF];omega
   ·refine az.ot HZ.out hxl hml hcp hcm HF.out ?_;rw[<-HN.out];simp[mkR,mkF,mkN1,vdF,hll]
  ·obtain rfl:i=len:=af
   go_wp2;go_ret;have e1:(xs.map vdF).take i=xs.map vdF:=FD af;have e2:(mkRs N (xs.map vdF)).take i++(xs.map vdF).drop i=mkRs N (xs.map vdF):=by
    exact jR
   exact nU

theorem rD (a:Option Addr) (len cap:Nat) (xs:List Vd) (N:Int) (w:World) (ho:aN w a len cap 8 (mkRs N (xs.map vdF))) (hN:0<N) (hb:aI N (xs.map vdF)<=1152921504606846976) (hl:len<=9223372036854775807):
  Calls Tryz.prog 77 #[.slice a len cap,.int .i64 N] w fun e w'=>e=.returned (.int .i64 (aI N (xs.map vdF)))/\Below w.heap.size w w':=by
 have hxl:(xs.map vdF).length=len:=by rw[<-bL (xs.map vdF) N];exact ho.1
 have HR:=aa ho;have HBd:=aa hb;clear ho hb;go_enter Tryz.func77,Tryz.ntmps77;go_wp2;go_loopw [1,5] (fun vk vi wr=> ∃(i:Nat) (n:Int),i<=len/\vk=.int .i64 n/\vi=.int .i64 i/\Hid (n=aI N ((xs.map vdF).take i))/\0<n/\Hid (Below w.heap.size w wr)) (fun _ vi _=>len - (intOf vi).toNat);case atStart=>exact⟨0,N,by omega,rfl,rfl,rfl,hN,Ft _ _⟩
 case round=>
  obtain⟨i,n,hi,rfl,rfl,HN,hn0,HB⟩:=hrel;by_cases hlt:i<len
  ·obtain⟨x,hx⟩:∃x,xs[i]?=some x:=⟨_,Fs (by simpa using (show i<(xs.map vdF).length by omega))⟩;obtain⟨hfx,HF,hbd,hbd'⟩:=BR;obtain⟨b,o,r,rfl,hb,hr,hat⟩:=(HR.below HB.out).at hlt;rw[eL,hfx,<-HN.out] at hr;obtain rfl:=Fo hr;have HA:Hid (RAt wr b (o+i*8) (vdF ⟨bm (n).toNat,n+1,bm (n+1+1).toNat,bm (n+1+1+1).toNat,(n+1+1+1+1) % 3==0,bm (n+1+1+1+1+1).toNat,(n+1+1+1+1+1+1) % 3==0,dJ (n+1+1+1+1+1+1+1) x.zs.length⟩)):=hat;clear hat hr hbd hx hfx;obtain⟨va,vl,vc,hvr,-,-,-,-,c0,c1,c2,c3,c4,c5,c6,c7⟩:=aK HA.out;have HL:=aa hvr;have hvl:=hvr.1;rw[aY] at hvl;clear hvr;clear HL hvl;have hne0:=Wd.ne wr;have e0:∀q:Wd wr,q.w.cell? ⟨b,o+i*8,none⟩=some (.string (bm (n).toNat)):=fun q=>(q.cell hb).trans c0;have HT:=aa (fun v:World=>cq (n) v af af);clear c0;go_wp2_with fail;refine ag ar ar ?_;repeat (go_big_quiet_step (first|(go_at_call 73;exact Calls.wide (HT.out _))|fail))
   refine wpQuiet_nil ?_;rintro _ ⟨q0,rfl⟩;clear e0 HT hne0 c1 c2 c3 c4 c5 c6 c7;obtain⟨HA0,HB0,hb0⟩:=nH;clear HA HB hb;have HA:=HA0;have HB:=HB0;have hb:=hb0;clear HA0 HB0 hb0;obtain⟨va,vl,vc,hvr,-,-,-,-,c0,c1,c2,c3,c4,c5,c6,c7⟩:=aK HA.out;have HL:=aa hvr;have hvl1:=hvr.1;rw[aY] at hvl1;clear hvr;clear c0 c3 c4 c5 c6 c7;clear HL hvl1;have hne1:=Wd.ne q0.w;have e2:∀q:Wd q0.w,q.w.cell? ⟨b,o+i*8+2,none⟩=some (.string (bm (n+1+1).toNat)):=fun q=>(q.cell hb).trans c2;have HT:=aa (fun v:World=>cq (n+1+1) v af af);clear c2;go_wp2_with fail;refine ag ar ar ?_;repeat (go_big_quiet_step (first|(go_at_call 73;exact Calls.wide (HT.out _))|fail))
   refine wpQuiet_nil ?_;rintro _ ⟨q1,rfl⟩;clear e2 HT hne1 c1;obtain⟨HA1,HB1,hb1⟩:=nG;clear HA HB hb;have HA:=HA1;have HB:=HB1;have hb:=hb1;clear HA1 HB1 hb1;obtain⟨va,vl,vc,hvr,-,-,-,-,c0,c1,c2,c3,c4,c5,c6,c7⟩:=aK HA.out;have HL:=aa hvr;have hvl2:=hvr.1;rw[aY] at hvl2;clear hvr;clear c0 c1 c2 c4 c5 c6 c7;clear HL hvl2;have hne2:=Wd.ne q1.w;have e3:∀q:Wd q1.w,q.w.cell? ⟨b,o+i*8+3,none⟩=some (.string (bm (n+1+1+1).toNat)):=fun q=>(q.cell hb).trans c3;have HT:=aa (fun v:World=>cq (n+1+1+1) v af af);clear c3;go_wp2_with fail;refine ag ar ar ?_;repeat (go_big_quiet_step (first|(go_at_call 73;exact Calls.wide (HT.out _))|fail))
   refine wpQuiet_nil ?_;rintro _ ⟨q2,rfl⟩;clear e3 HT hne2;have HA2:=aa (HA.below hb q2.b);have HB2:=upB HB q2.b;have hb2:=FC hb q2.b.size;clear HA HB hb;have HA:=HA2;have HB:=HB2;have hb:=hb2;clear HA2 HB2 hb2;obtain⟨va,vl,vc,hvr,-,-,-,-,c0,c1,c2,c3,c4,c5,c6,c7⟩:=aK HA.out;have HL:=aa hvr;have hvl3:=hvr.1;rw[aY] at hvl3;clear hvr;clear c0 c1 c2 c3 c6 c7;clear HL hvl3;have hne3:=Wd.ne q2.w;have e5:∀q:Wd q2.w,q.w.cell? ⟨b,o+i*8+5,none⟩=some (.string (bm (n+1+1+1+1+1).toNat)):=fun q=>(q.cell hb).trans c5;have HT:=aa (fun v:World=>cq (n+1+1+1+1+1) v af af);clear c5;go_wp2_with fail;refine ag ar ar ?_;repeat (go_big_quiet_step (first|(go_at_call 73;exact Calls.wide (HT.out _))|fail))
   refine wpQuiet_nil ?_;rintro _ ⟨q3,rfl⟩;clear e5 HT hne3 c4;have HA3:=aa (HA.below hb q3.b);have HB3:=upB HB q3.b;have hb3:=FC hb q3.b.size;clear HA HB hb;have HA:=HA3;have HB:=HB3;have hb:=hb3;clear HA3 HB3 hb3;obtain⟨va,vl,vc,hvr,-,-,-,-,c0,c1,c2,c3,c4,c5,c6,c7⟩:=aK HA.out;have HL:=aa hvr;have hvl4:=hvr.1;rw[aY] at hvl4;clear hvr;clear c0 c1 c2 c3 c4 c5;subst hvl4;go_wp2_with fail;refine (zE va _ vc _ _ (by exact HL.out) af af).mono ?_;rintro e w4 ⟨rfl,hbq⟩;have HA4:=aa (HA.below hb hbq);have HB4:=upB HB hbq;have hb4:=FC hb hbq.size;clear HA HB hb HL c7 hbq;have HA:=HA4;have HB:=HB4;have hb:=hb4;clear HA4 HB4 hb4;go_wp2_with fail;refine⟨⟨i+1,mkN n (vdF x),by omega,?_,by go_num,?_,?_,HB.out⟩,by simp[intOf];omega⟩
   ·simp[mkN,mkN1,vdF,GX]
   ·rw[cw HF.out,<-HN.out];rfl
   ·simp[mkN,mkN1,vdF];omega
  ·obtain rfl:i=len:=af
   go_wp2;go_ret;have e1:(xs.map vdF).take i=xs.map vdF:=FD af;exact nP

structure Xd where
 n:ByteArray
 z:Int
 k:ByteArray
 x:Bool
 v:ByteArray

def xdF (x:Xd):List Fv:=[.s x.n,.i x.z,.s x.k,.b x.x,.s x.v]
theorem bw {w:World} {b o:Nat} {x:Xd} (h:RAt w b o (xdF x)):x.n.size<=9223372036854775807/\x.k.size<=9223372036854775807/\x.v.size<=9223372036854775807/\w.cell? ⟨b,o,none⟩=some (.string x.n)/\w.cell? ⟨b,o+1,none⟩=some (.int .i64 x.z)/\w.cell? ⟨b,o+2,none⟩=some (.string x.k)/\w.cell? ⟨b,o+3,none⟩=some (.bool x.x)/\w.cell? ⟨b,o+4,none⟩=some (.string x.v):=by
 obtain⟨v0,h0,rfl,z0⟩:=h 0 _ rfl;obtain⟨v1,h1,rfl⟩:=h 1 _ rfl;obtain⟨v2,h2,rfl,z2⟩:=h 2 _ rfl;obtain⟨v3,h3,rfl⟩:=h 3 _ rfl;obtain⟨v4,h4,rfl,z4⟩:=h 4 _ rfl;exact⟨z0,z2,z4,h0,h1,h2,h3,h4⟩
theorem dG {w:World} {a:Option Addr} {len cap:Nat} {xs:List Xd} (h:aN w a len cap 5 (xs.map xdF)) {j:Nat} (hj:j<len):
  ∃b o x,a=some ⟨b,o,none⟩/\b<w.heap.size/\xs[j]?=some x/\RAt w b (o+j*5) (xdF x):=by
 exact nV

theorem uu (a:Option Addr) (len cap:Nat) (xs:List Xd) (left:Int) (w:World) (hr:aN w a len cap 5 (xs.map xdF)) (h0:0<=left) (h1:left<=1048576):
  Calls Tryz.prog 19 #[.slice a len cap,.int .i64 left] w (SzB left (len<=1048576) w):=by
 obtain⟨HR,hvl⟩:=fP;have hlc:=Fx hr.2.1 hr.2.2.1;clear hr;by_cases hl:left<(len:Int)
 ·go_enter Tryz.func19,Tryz.ntmps19;exact jW
 go_enter Tryz.func19,Tryz.ntmps19;go_wp2;go_loopw [1,5] (fun l i wr=> ∃(k:Nat) (m:Int),k<=len/\l=.int .i64 m/\i=.int .i64 k/\0<=m/\m<=left/\Hid (Below w.heap.size w wr)) (fun _ i _=>len - (intOf i).toNat);case atStart=>exact⟨0,left - len,by omega,by go_num,rfl,by omega,by omega,Ft _ _⟩
 case round=>
  obtain⟨k,m,hk,rfl,rfl,hm0,hm1,HB⟩:=hrel;by_cases hlt:k<len
  ·obtain⟨b,o,v,rfl,hb,hv,hat⟩:=dG (HR.below HB.out) hlt;obtain⟨z0,z2,z4,c0,c1,c2,c3,c4⟩:=bw hat;have Hz0:=aa z0;have Hz2:=aa z2;have Hz4:=aa z4;clear hat hv z0 z2 z4;go_wp2_with fail;refine (mS v.n v.z v.k v.x v.v m _ Hz0.out Hz2.out Hz4.out hm0 af).mono ?_;rintro e w2 ⟨r,rfl,hr,hb2⟩;have HB2:=upB HB hb2;clear hb2 c0 c1 c2 c3 c4;exact yr
  ·exact xD

theorem oR (n:ByteArray) (z:Int) (k:ByteArray) (x:Bool) (v:ByteArray) (w:World):
  Calls Tryz.prog 71 #[.agg #[.string n,.int .i64 z,.string k,.bool x,.string v],.agg #[.string n,.int .i64 z,.string k,.bool x,.string v]] w fun e w'=>e=.returned (.bool true)/\Below w.heap.size w w':=by
 go_enter Tryz.func71,Tryz.ntmps71;go_wp2;go_ret;exact⟨rfl,aF _ _ _⟩

theorem zH (a a':Option Addr) (len len' cap cap':Nat) (xs:List Xd) (w:World) (hr:aN w a len cap 5 (xs.map xdF)) (hr':aN w a' len' cap' 5 (xs.map xdF)):
  Calls Tryz.prog 35 #[.slice a len cap,.slice a' len' cap'] w fun e w'=>e=.returned (.bool true)/\Below w.heap.size w w':=by
 obtain rfl:len=len':=hr.1.symm.trans hr'.1;obtain⟨HR,HR',hlc⟩:=nz;clear hr hr';go_enter Tryz.func35,Tryz.ntmps35;go_wp2;go_loopw [5] (fun i wr=> ∃k:Nat,k<=len/\i=.int .i64 k/\Hid (Below w.heap.size w wr)) (fun i _=>len - (intOf i).toNat);case atStart=>exact⟨0,by omega,rfl,Ft _ _⟩
 case round=>
  obtain⟨k,hk,rfl,HB⟩:=hrel;by_cases hlt:k<len
  ·obtain⟨b,o,v,rfl,hb,hv,hat⟩:=dG (HR.below HB.out) hlt;obtain⟨b',o',v',rfl,hb',hv',hat'⟩:=dG (HR'.below HB.out) hlt;rw[hv] at hv';obtain rfl:=Fo hv';clear hv hv';obtain⟨-,-,-,c0,c1,c2,c3,c4⟩:=bw hat;obtain⟨-,-,-,d0,d1,d2,d3,d4⟩:=bw hat';clear hat hat';have HE:=aa (fun q:Wd wr=>oR v.n v.z v.k v.x v.v q.w);have hne:=Wd.ne wr;have e0:∀q:Wd wr,q.w.cell? ⟨b,o+k*5,none⟩=some (.string v.n):=fun q=>(q.cell hb).trans c0;have e1:∀q:Wd wr,q.w.cell? ⟨b,o+k*5+1,none⟩=some (.int .i64 v.z):=fun q=>(q.cell hb).trans c1;have e2:∀q:Wd wr,q.w.cell? ⟨b,o+k*5+2,none⟩=some (.string v.k):=fun q=>(q.cell hb).trans c2;have e3:∀q:Wd wr,q.w.cell? ⟨b,o+k*5+3,none⟩=some (.bool v.x):=fun q=>(q.cell hb).trans c3;have e4:∀q:Wd wr,q.w.cell? ⟨b,o+k*5+4,none⟩=some (.string v.v):=fun q=>(q.cell hb).trans c4;have f0:∀q:Wd wr,q.w.cell? ⟨b',o'+k*5,none⟩=some (.string v.n):=fun q=>(q.cell hb').trans d0;have f1:∀q:Wd wr,q.w.cell? ⟨b',o'+k*5+1,none⟩=some (.int .i64 v.z):=fun q=>(q.cell hb').trans d1;have f2:∀q:Wd wr,q.w.cell? ⟨b',o'+k*5+2,none⟩=some (.string v.k):=fun q=>(q.cell hb').trans d2;have f3:∀q:Wd wr,q.w.cell? ⟨b',o'+k*5+3,none⟩=some (.bool v.x):=fun q=>(q.cell hb').trans d3;have f4:∀q:Wd wr,q.w.cell? ⟨b',o'+k*5+4,none⟩=some (.string v.v):=fun q=>(q.cell hb').trans d4;clear c0 c1 c2 c3 c4 d0 d1 d2 d3 d4;go_wp2_with fail;refine ag ar ar ?_;repeat (go_big_quiet_step (first|(go_at_call 71;exact Calls.wide (HE.out _))|fail))
   exact nX
  ·exact jY

theorem qT (a:Option Addr) (len cap:Nat) (xs:List Xd) (N:Int) (S:Nat->Prop) (w:World) (ho:az w a len cap 5 105 (xs.map xdF) S) (hN:0<N) (hb:aI N (xs.map xdF)<=1152921504606846976) (hl:len<=9223372036854775807):
  Calls Tryz.prog 40 #[.slice a len cap,.int .i64 N] w fun e w'=>e=.returned (.int .i64 (aI N (xs.map xdF)))/\az w' a len cap 5 105 (mkRs N (xs.map xdF)) S/\aC S w w':=by
 have hxl:=ho.1;have hcp:=ho.2.1;have hcm:=ho.2.2.1;have hml:(mkRs N (xs.map xdF)).length=(xs.map xdF).length:=bL _ _;have HO:Hid (az w a len cap 5 105 ((mkRs N (xs.map xdF)).take 0++(xs.map xdF).drop 0) S):=nq
 have HBd:=aa hb;clear ho hb;go_enter Tryz.func40,Tryz.ntmps40;go_wp2;go_loopw [1,5] (fun vk vi wr=> ∃(i:Nat) (n:Int),i<=len/\vk=.int .i64 n/\vi=.int .i64 i/\Hid (n=aI N ((xs.map xdF).take i))/\0<n/\Hid (az wr a len cap 5 105 ((mkRs N (xs.map xdF)).take i++(xs.map xdF).drop i) S)/\Hid (aC S w wr)) (fun _ vi _=>len - (intOf vi).toNat);case atStart=>exact⟨0,N,by omega,rfl,rfl,rfl,hN,HO,aC.refl _ _⟩
 case round=>
  obtain⟨i,n,hi,rfl,rfl,HN,hn0,HS,HK⟩:=hrel;clear HO;by_cases hlt:i<len
  ·obtain⟨x,hx⟩:∃x,xs[i]?=some x:=⟨_,Fs (by simpa using (show i<(xs.map xdF).length by omega))⟩;obtain⟨hfx,HF,hbd,hbd'⟩:=BP;obtain⟨g,rfl,hs⟩:=HS.st HK.out ((cN hml af).trans hfx);have H0:Hid (StJ g 5 105 S (fun _=>False) w wr ((mkRs N (xs.map xdF)).take i++(xs.map xdF).drop i) i [.s x.n,.i x.z,.s x.k,.b x.x,.s x.v]):=hs;clear hs hbd hx hfx HS HK;go_wp2_with fail;refine (cq _ _ af af).mono ?_;rintro e w1 ⟨rfl,hb⟩;have h1:=(H0.out).below hb;have H1:=aa h1;obtain⟨p0,c0⟩:=h1.cell (i:=0) rfl;have f0:=h1.cH (i*5);rw[Hg] at c0;obtain⟨p1,c1⟩:=h1.cell (i:=1) rfl;have f1:=h1.cH (i*5+1);clear h1 hb H0;go_wp2_with fail;refine (cq _ _ af af).mono ?_;rintro e w2 ⟨rfl,hb⟩;obtain⟨h1,H2⟩:=uV;obtain⟨p2,c2⟩:=h1.cell (i:=2) rfl;have f2:=h1.cH (i*5+2);obtain⟨p3,c3⟩:=h1.cell (i:=3) rfl;have f3:=h1.cH (i*5+3);clear h1 hb H1 c0 f0 c1 f1;go_wp2_with fail;refine (cq _ _ af af).mono ?_;rintro e w3 ⟨rfl,hb⟩;have h1:=(((H2.out).dt (i:=2) rfl _ (bG af)).jg (i:=3) rfl _).below hb;have H3:=aa h1;obtain⟨p4,c4⟩:=h1.cell (i:=4) rfl;have f4:=h1.cH (i*5+4);clear h1 hb H2 c2 f2 c3 f3;go_wp2_with fail;have HZ:=aa ((H3.out).dt (i:=4) rfl (bm (n+1+1+1+1).toNat) (bG af));clear H3;refine⟨⟨i+1,mkN n (xdF x),by omega,?_,by go_num,?_,?_,?_,HZ.kept⟩,by simp[intOf];omega⟩
   ·simp[mkN,mkN1,xdF,GX]
   ·rw[cw HF.out,<-HN.out];rfl
   ·simp[mkN,mkN1,xdF];omega
   ·refine az.ot HZ.out hxl hml hcp hcm HF.out ?_;rw[<-HN.out];simp[mkR,mkF,mkN1,xdF]
  ·obtain rfl:i=len:=af
   go_wp2;go_ret;have e1:(xs.map xdF).take i=xs.map xdF:=FD af;have e2:(mkRs N (xs.map xdF)).take i++(xs.map xdF).drop i=mkRs N (xs.map xdF):=by
    exact jR
   exact nU

theorem rC (a:Option Addr) (len cap:Nat) (xs:List Xd) (N:Int) (w:World) (ho:aN w a len cap 5 (mkRs N (xs.map xdF))) (hN:0<N) (hb:aI N (xs.map xdF)<=1152921504606846976) (hl:len<=9223372036854775807):
  Calls Tryz.prog 78 #[.slice a len cap,.int .i64 N] w fun e w'=>e=.returned (.int .i64 (aI N (xs.map xdF)))/\Below w.heap.size w w':=by
 have hxl:(xs.map xdF).length=len:=by rw[<-bL (xs.map xdF) N];exact ho.1
 have HR:=aa ho;have HBd:=aa hb;clear ho hb;go_enter Tryz.func78,Tryz.ntmps78;go_wp2;go_loopw [1,5] (fun vk vi wr=> ∃(i:Nat) (n:Int),i<=len/\vk=.int .i64 n/\vi=.int .i64 i/\Hid (n=aI N ((xs.map xdF).take i))/\0<n/\Hid (Below w.heap.size w wr)) (fun _ vi _=>len - (intOf vi).toNat);case atStart=>exact⟨0,N,by omega,rfl,rfl,rfl,hN,Ft _ _⟩
 case round=>
  obtain⟨i,n,hi,rfl,rfl,HN,hn0,HB⟩:=hrel;by_cases hlt:i<len
  ·obtain⟨x,hx⟩:∃x,xs[i]?=some x:=⟨_,Fs (by simpa using (show i<(xs.map xdF).length by omega))⟩;obtain⟨hfx,HF,hbd,hbd'⟩:=BP;obtain⟨b,o,r,rfl,hb,hr,hat⟩:=(HR.below HB.out).at hlt;rw[eL,hfx,<-HN.out] at hr;obtain rfl:=Fo hr;have HA:Hid (RAt wr b (o+i*5) (xdF ⟨bm (n).toNat,n+1,bm (n+1+1).toNat,(n+1+1+1) % 3==0,bm (n+1+1+1+1).toNat⟩)):=hat;clear hat hr hbd hx hfx;obtain⟨-,-,-,c0,c1,c2,c3,c4⟩:=bw HA.out;have hne0:=Wd.ne wr;have e0:∀q:Wd wr,q.w.cell? ⟨b,o+i*5,none⟩=some (.string (bm (n).toNat)):=fun q=>(q.cell hb).trans c0;have HT:=aa (fun v:World=>cq (n) v af af);clear c0;go_wp2_with fail;refine ag ar ar ?_;repeat (go_big_quiet_step (first|(go_at_call 73;exact Calls.wide (HT.out _))|fail))
   refine wpQuiet_nil ?_;rintro _ ⟨q0,rfl⟩;clear e0 HT hne0 c1 c2 c3 c4;obtain⟨HA0,HB0,hb0⟩:=nH;clear HA HB hb;have HA:=HA0;have HB:=HB0;have hb:=hb0;clear HA0 HB0 hb0;obtain⟨-,-,-,c0,c1,c2,c3,c4⟩:=bw HA.out;clear c0 c3 c4;have hne1:=Wd.ne q0.w;have e2:∀q:Wd q0.w,q.w.cell? ⟨b,o+i*5+2,none⟩=some (.string (bm (n+1+1).toNat)):=fun q=>(q.cell hb).trans c2;have HT:=aa (fun v:World=>cq (n+1+1) v af af);clear c2;go_wp2_with fail;refine ag ar ar ?_;repeat (go_big_quiet_step (first|(go_at_call 73;exact Calls.wide (HT.out _))|fail))
   refine wpQuiet_nil ?_;rintro _ ⟨q1,rfl⟩;clear e2 HT hne1 c1;obtain⟨HA1,HB1,hb1⟩:=nG;clear HA HB hb;have HA:=HA1;have HB:=HB1;have hb:=hb1;clear HA1 HB1 hb1;obtain⟨-,-,-,c0,c1,c2,c3,c4⟩:=bw HA.out;clear c0 c1 c2;have hne2:=Wd.ne q1.w;have e4:∀q:Wd q1.w,q.w.cell? ⟨b,o+i*5+4,none⟩=some (.string (bm (n+1+1+1+1).toNat)):=fun q=>(q.cell hb).trans c4;have HT:=aa (fun v:World=>cq (n+1+1+1+1) v af af);clear c4;go_wp2_with fail;refine ag ar ar ?_;repeat (go_big_quiet_step (first|(go_at_call 73;exact Calls.wide (HT.out _))|fail))
   refine wpQuiet_nil ?_;rintro _ ⟨q2,rfl⟩;clear e4 HT hne2 c3;have HA2:=aa (HA.below hb q2.b);have HB2:=upB HB q2.b;have hb2:=FC hb q2.b.size;clear HA HB hb;have HA:=HA2;have HB:=HB2;have hb:=hb2;clear HA2 HB2 hb2;obtain⟨-,-,-,c0,c1,c2,c3,c4⟩:=bw HA.out;clear c0 c1 c2 c3 c4;go_wp2_with fail;refine⟨⟨i+1,mkN n (xdF x),by omega,?_,by go_num,?_,?_,HB.out⟩,by simp[intOf];omega⟩
   ·simp[mkN,mkN1,xdF,GX]
   ·rw[cw HF.out,<-HN.out];rfl
   ·simp[mkN,mkN1,xdF];omega
  ·obtain rfl:i=len:=af
   go_wp2;go_ret;have e1:(xs.map xdF).take i=xs.map xdF:=FD af;exact nP

structure Pd where
 n:ByteArray
 c:Int
 z:ByteArray
 zs:List ByteArray
 d:ByteArray
 p:Int

def pdF (x:Pd):List Fv:=[.s x.n,.i x.c,.s x.z,.l x.zs,.s x.d,.i x.p]
theorem aS {w:World} {b o:Nat} {x:Pd} (h:RAt w b o (pdF x)):∃a len cap,ay w a len cap x.zs/\x.n.size<=9223372036854775807/\x.z.size<=9223372036854775807/\x.d.size<=9223372036854775807/\w.cell? ⟨b,o,none⟩=some (.string x.n)/\w.cell? ⟨b,o+1,none⟩=some (.int .i64 x.c)/\w.cell? ⟨b,o+2,none⟩=some (.string x.z)/\w.cell? ⟨b,o+3,none⟩=some (.slice a len cap)/\w.cell? ⟨b,o+4,none⟩=some (.string x.d)/\w.cell? ⟨b,o+5,none⟩=some (.int .i64 x.p):=by
 obtain⟨v0,h0,rfl,z0⟩:=h 0 _ rfl;obtain⟨v1,h1,rfl⟩:=h 1 _ rfl;obtain⟨v2,h2,rfl,z2⟩:=h 2 _ rfl;obtain⟨v3,h3,a,len,cap,rfl,hr⟩:=h 3 _ rfl;obtain⟨v4,h4,rfl,z4⟩:=h 4 _ rfl;obtain⟨v5,h5,rfl⟩:=h 5 _ rfl;exact⟨a,len,cap,hr,z0,z2,z4,h0,h1,h2,h3,h4,h5⟩
theorem bY {w:World} {a:Option Addr} {len cap:Nat} {xs:List Pd} (h:aN w a len cap 6 (xs.map pdF)) {j:Nat} (hj:j<len):
  ∃b o x,a=some ⟨b,o,none⟩/\b<w.heap.size/\xs[j]?=some x/\RAt w b (o+j*6) (pdF x):=by
 exact nV

theorem uw (a:Option Addr) (len cap:Nat) (xs:List Pd) (left:Int) (w:World) (hr:aN w a len cap 6 (xs.map pdF)) (h0:0<=left) (h1:left<=1048576):
  Calls Tryz.prog 20 #[.slice a len cap,.int .i64 left] w (SzB left (len<=1048576/\∀(j:Nat) x,xs[j]?=some x->x.zs.length<=1048576) w):=by
 obtain⟨HR,hvl⟩:=fP;have hlc:=Fx hr.2.1 hr.2.2.1;clear hr;by_cases hl:left<(len:Int)
 ·go_enter Tryz.func20,Tryz.ntmps20;exact jW
 go_enter Tryz.func20,Tryz.ntmps20;go_wp2;go_loopw [1,5] (fun l i wr=> ∃(k:Nat) (m:Int),k<=len/\l=.int .i64 m/\i=.int .i64 k/\0<=m/\m<=left/\Hid (∀(j:Nat) x,j<k->xs[j]?=some x->x.zs.length<=1048576)/\Hid (Below w.heap.size w wr)) (fun _ i _=>len - (intOf i).toNat);case atStart=>exact⟨0,left - len,by omega,by go_num,rfl,by omega,by omega,fun j v hj=>by omega,Ft _ _⟩
 case round=>
  obtain⟨k,m,hk,rfl,rfl,hm0,hm1,HE,HB⟩:=hrel;by_cases hlt:k<len
  ·obtain⟨b,o,v,rfl,hb,hv,hat⟩:=bY (HR.below HB.out) hlt;obtain⟨va,vl,vc,hvr,z0,z2,z4,c0,c1,c2,c3,c4,c5⟩:=aS hat;have Hz0:=aa z0;have Hz2:=aa z2;have Hz4:=aa z4;have HV:=aa hv;have HT:=aa hvr;clear hvr;clear hat hv z0 z2 z4;go_wp2_with fail;refine (s_ v.n v.c v.z va vl vc v.zs v.d v.p m _ Hz0.out Hz2.out Hz4.out HT.out hm0 af).mono ?_;rintro e w2 ⟨r,rfl,hr,hb2⟩;have HB2:=upB HB hb2;clear hb2 c0 c1 c2 c3 c4 c5;exact vO
  ·exact vF

theorem zJ (a a':Option Addr) (len len' cap cap':Nat) (xs:List Pd) (w:World) (hr:aN w a len cap 6 (xs.map pdF)) (hr':aN w a' len' cap' 6 (xs.map pdF)):
  Calls Tryz.prog 36 #[.slice a len cap,.slice a' len' cap'] w fun e w'=>e=.returned (.bool true)/\Below w.heap.size w w':=by
 obtain rfl:len=len':=hr.1.symm.trans hr'.1;obtain⟨HR,HR',hlc⟩:=nz;clear hr hr';go_enter Tryz.func36,Tryz.ntmps36;go_wp2;go_loopw [5] (fun i wr=> ∃k:Nat,k<=len/\i=.int .i64 k/\Hid (Below w.heap.size w wr)) (fun i _=>len - (intOf i).toNat);case atStart=>exact⟨0,by omega,rfl,Ft _ _⟩
 case round=>
  obtain⟨k,hk,rfl,HB⟩:=hrel;by_cases hlt:k<len
  ·obtain⟨b,o,v,rfl,hb,hv,hat⟩:=bY (HR.below HB.out) hlt;obtain⟨b',o',v',rfl,hb',hv',hat'⟩:=bY (HR'.below HB.out) hlt;rw[hv] at hv';obtain rfl:=Fo hv';clear hv hv';obtain⟨va,vl,vc,hvr,-,-,-,c0,c1,c2,c3,c4,c5⟩:=aS hat;obtain⟨va',vl',vc',hvr',-,-,-,d0,d1,d2,d3,d4,d5⟩:=aS hat';clear hat hat';have HT:=aa hvr;have HT':=aa hvr';clear hvr hvr';have HE:=aa (fun q:Wd wr=>tR v.n v.c v.z va vl vc v.zs v.d v.p va' vl' vc' q.w (HT.below q.b) (HT'.below q.b));have hne:=Wd.ne wr;have e0:∀q:Wd wr,q.w.cell? ⟨b,o+k*6,none⟩=some (.string v.n):=fun q=>(q.cell hb).trans c0;have e1:∀q:Wd wr,q.w.cell? ⟨b,o+k*6+1,none⟩=some (.int .i64 v.c):=fun q=>(q.cell hb).trans c1;have e2:∀q:Wd wr,q.w.cell? ⟨b,o+k*6+2,none⟩=some (.string v.z):=fun q=>(q.cell hb).trans c2;have e3:∀q:Wd wr,q.w.cell? ⟨b,o+k*6+3,none⟩=some (.slice va vl vc):=fun q=>(q.cell hb).trans c3;have e4:∀q:Wd wr,q.w.cell? ⟨b,o+k*6+4,none⟩=some (.string v.d):=fun q=>(q.cell hb).trans c4;have e5:∀q:Wd wr,q.w.cell? ⟨b,o+k*6+5,none⟩=some (.int .i64 v.p):=fun q=>(q.cell hb).trans c5;have f0:∀q:Wd wr,q.w.cell? ⟨b',o'+k*6,none⟩=some (.string v.n):=fun q=>(q.cell hb').trans d0;have f1:∀q:Wd wr,q.w.cell? ⟨b',o'+k*6+1,none⟩=some (.int .i64 v.c):=fun q=>(q.cell hb').trans d1;have f2:∀q:Wd wr,q.w.cell? ⟨b',o'+k*6+2,none⟩=some (.string v.z):=fun q=>(q.cell hb').trans d2;have f3:∀q:Wd wr,q.w.cell? ⟨b',o'+k*6+3,none⟩=some (.slice va' vl' vc'):=fun q=>(q.cell hb').trans d3;have f4:∀q:Wd wr,q.w.cell? ⟨b',o'+k*6+4,none⟩=some (.string v.d):=fun q=>(q.cell hb').trans d4;have f5:∀q:Wd wr,q.w.cell? ⟨b',o'+k*6+5,none⟩=some (.int .i64 v.p):=fun q=>(q.cell hb').trans d5;clear c0 c1 c2 c3 c4 c5 d0 d1 d2 d3 d4 d5;go_wp2_with fail;refine ag ar ar ?_;repeat (go_big_quiet_step (first|(go_at_call 72;exact Calls.wide (HE.out _))|fail))
   exact nX
  ·exact jY

theorem qV (a:Option Addr) (len cap:Nat) (xs:List Pd) (N:Int) (S:Nat->Prop) (w:World) (ho:az w a len cap 6 64 (xs.map pdF) S) (hN:0<N) (hb:aI N (xs.map pdF)<=1152921504606846976) (hl:len<=9223372036854775807):
  Calls Tryz.prog 41 #[.slice a len cap,.int .i64 N] w fun e w'=>e=.returned (.int .i64 (aI N (xs.map pdF)))/\az w' a len cap 6 64 (mkRs N (xs.map pdF)) S/\aC S w w':=by
 have hxl:=ho.1;have hcp:=ho.2.1;have hcm:=ho.2.2.1;have hml:(mkRs N (xs.map pdF)).length=(xs.map pdF).length:=bL _ _;have HO:Hid (az w a len cap 6 64 ((mkRs N (xs.map pdF)).take 0++(xs.map pdF).drop 0) S):=nq
 have HBd:=aa hb;clear ho hb;go_enter Tryz.func41,Tryz.ntmps41;go_wp2;go_loopw [1,5] (fun vk vi wr=> ∃(i:Nat) (n:Int),i<=len/\vk=.int .i64 n/\vi=.int .i64 i/\Hid (n=aI N ((xs.map pdF).take i))/\0<n/\Hid (az wr a len cap 6 64 ((mkRs N (xs.map pdF)).take i++(xs.map pdF).drop i) S)/\Hid (aC S w wr)) (fun _ vi _=>len - (intOf vi).toNat);case atStart=>exact⟨0,N,by omega,rfl,rfl,rfl,hN,HO,aC.refl _ _⟩
 case round=>
  obtain⟨i,n,hi,rfl,rfl,HN,hn0,HS,HK⟩:=hrel;clear HO;by_cases hlt:i<len
  ·obtain⟨x,hx⟩:∃x,xs[i]?=some x:=⟨_,Fs (by simpa using (show i<(xs.map pdF).length by omega))⟩;obtain⟨hfx,HF,hbd,hbd'⟩:=BY;obtain⟨g,rfl,hs⟩:=HS.st HK.out ((cN hml af).trans hfx);have H0:Hid (StJ g 6 64 S (fun _=>False) w wr ((mkRs N (xs.map pdF)).take i++(xs.map pdF).drop i) i [.s x.n,.i x.c,.s x.z,.l x.zs,.s x.d,.i x.p]):=hs;clear hs hbd hx hfx HS HK;go_wp2_with fail;refine (cq _ _ af af).mono ?_;rintro e w1 ⟨rfl,hb⟩;have h1:=(H0.out).below hb;have H1:=aa h1;obtain⟨p0,c0⟩:=h1.cell (i:=0) rfl;have f0:=h1.cH (i*6);rw[Hg] at c0;obtain⟨p1,c1⟩:=h1.cell (i:=1) rfl;have f1:=h1.cH (i*6+1);clear h1 hb H0;go_wp2_with fail;refine (cq _ _ af af).mono ?_;rintro e w2 ⟨rfl,hb⟩;obtain⟨h1,H2⟩:=uV;obtain⟨p2,c2⟩:=h1.cell (i:=2) rfl;have f2:=h1.cH (i*6+2);obtain⟨la,ll,lc,cl,hll⟩:=h1.slice (i:=3) rfl;clear h1 hb H1 c0 f0 c1 f1;go_wp2_with fail;refine (((H2.out).dt (i:=2) rfl _ (bG af)).ze (i:=3) rfl ((cB af).trans (cl)) _ af af).mono ?_;rintro e w3 ⟨rfl,h1⟩;have H3:=aa h1;clear h1 cl H2 c2 f2;go_wp2_with fail;refine (cq _ _ af af).mono ?_;rintro e w4 ⟨rfl,hb⟩;have h1:=(H3.out).below hb;have H4:=aa h1;obtain⟨p4,c4⟩:=h1.cell (i:=4) rfl;have f4:=h1.cH (i*6+4);obtain⟨p5,c5⟩:=h1.cell (i:=5) rfl;have f5:=h1.cH (i*6+5);clear h1 hb H3;go_wp2_with fail;have HZ:=aa (((H4.out).dt (i:=4) rfl (bm (n+1+1+1+ll).toNat) (bG af)).ir (i:=5) rfl (n+1+1+1+ll+1));clear H4;refine⟨⟨i+1,mkN n (pdF x),by omega,?_,by go_num,?_,?_,?_,HZ.kept⟩,by simp[intOf];omega⟩
   ·simp[mkN,mkN1,pdF,hll,GX]
   ·rw[cw HF.out,<-HN.out];rfl
   ·simp[mkN,mkN1,pdF];omega
   ·refine az.ot HZ.out hxl hml hcp hcm HF.out ?_;rw[<-HN.out];simp[mkR,mkF,mkN1,pdF,hll]
  ·obtain rfl:i=len:=af
   go_wp2;go_ret;have e1:(xs.map pdF).take i=xs.map pdF:=FD af;have e2:(mkRs N (xs.map pdF)).take i++(xs.map pdF).drop i=mkRs N (xs.map pdF):=by
    exact jR
   exact nU

theorem rE (a:Option Addr) (len cap:Nat) (xs:List Pd) (N:Int) (w:World) (ho:aN w a len cap 6 (mkRs N (xs.map pdF))) (hN:0<N) (hb:aI N (xs.map pdF)<=1152921504606846976) (hl:len<=9223372036854775807):
  Calls Tryz.prog 79 #[.slice a len cap,.int .i64 N] w fun e w'=>e=.returned (.int .i64 (aI N (xs.map pdF)))/\Below w.heap.size w w':=by
 have hxl:(xs.map pdF).length=len:=by rw[<-bL (xs.map pdF) N];exact ho.1
 have HR:=aa ho;have HBd:=aa hb;clear ho hb;go_enter Tryz.func79,Tryz.ntmps79;go_wp2;go_loopw [1,5] (fun vk vi wr=> ∃(i:Nat) (n:Int),i<=len/\vk=.int .i64 n/\vi=.int .i64 i/\Hid (n=aI N ((xs.map pdF).take i))/\0<n/\Hid (Below w.heap.size w wr)) (fun _ vi _=>len - (intOf vi).toNat);case atStart=>exact⟨0,N,by omega,rfl,rfl,rfl,hN,Ft _ _⟩
 case round=>
  obtain⟨i,n,hi,rfl,rfl,HN,hn0,HB⟩:=hrel;by_cases hlt:i<len
  ·obtain⟨x,hx⟩:∃x,xs[i]?=some x:=⟨_,Fs (by simpa using (show i<(xs.map pdF).length by omega))⟩;obtain⟨hfx,HF,hbd,hbd'⟩:=BY;obtain⟨b,o,r,rfl,hb,hr,hat⟩:=(HR.below HB.out).at hlt;rw[eL,hfx,<-HN.out] at hr;obtain rfl:=Fo hr;have HA:Hid (RAt wr b (o+i*6) (pdF ⟨bm (n).toNat,n+1,bm (n+1+1).toNat,dJ (n+1+1+1) x.zs.length,bm (n+1+1+1+x.zs.length).toNat,n+1+1+1+x.zs.length+1⟩)):=hat;clear hat hr hbd hx hfx;obtain⟨va,vl,vc,hvr,-,-,-,c0,c1,c2,c3,c4,c5⟩:=aS HA.out;have HL:=aa hvr;have hvl:=hvr.1;rw[aY] at hvl;clear hvr;clear HL hvl;have hne0:=Wd.ne wr;have e0:∀q:Wd wr,q.w.cell? ⟨b,o+i*6,none⟩=some (.string (bm (n).toNat)):=fun q=>(q.cell hb).trans c0;have HT:=aa (fun v:World=>cq (n) v af af);clear c0;go_wp2_with fail;refine ag ar ar ?_;repeat (go_big_quiet_step (first|(go_at_call 73;exact Calls.wide (HT.out _))|fail))
   refine wpQuiet_nil ?_;rintro _ ⟨q0,rfl⟩;clear e0 HT hne0 c1 c2 c3 c4 c5;obtain⟨HA0,HB0,hb0⟩:=nH;clear HA HB hb;have HA:=HA0;have HB:=HB0;have hb:=hb0;clear HA0 HB0 hb0;obtain⟨va,vl,vc,hvr,-,-,-,c0,c1,c2,c3,c4,c5⟩:=aS HA.out;have HL:=aa hvr;have hvl1:=hvr.1;rw[aY] at hvl1;clear hvr;clear c0 c3 c4 c5;clear HL hvl1;have hne1:=Wd.ne q0.w;have e2:∀q:Wd q0.w,q.w.cell? ⟨b,o+i*6+2,none⟩=some (.string (bm (n+1+1).toNat)):=fun q=>(q.cell hb).trans c2;have HT:=aa (fun v:World=>cq (n+1+1) v af af);clear c2;go_wp2_with fail;refine ag ar ar ?_;repeat (go_big_quiet_step (first|(go_at_call 73;exact Calls.wide (HT.out _))|fail))
   refine wpQuiet_nil ?_;rintro _ ⟨q1,rfl⟩;clear e2 HT hne1 c1;obtain⟨HA1,HB1,hb1⟩:=nG;clear HA HB hb;have HA:=HA1;have HB:=HB1;have hb:=hb1;clear HA1 HB1 hb1;obtain⟨va,vl,vc,hvr,-,-,-,c0,c1,c2,c3,c4,c5⟩:=aS HA.out;have HL:=aa hvr;have hvl2:=hvr.1;rw[aY] at hvl2;clear hvr;clear c0 c1 c2 c4 c5;subst hvl2;go_wp2_with fail;refine (zE va _ vc _ _ (by exact HL.out) af af).mono ?_;rintro e w2 ⟨rfl,hbq⟩;have HA2:=aa (HA.below hb hbq);have HB2:=upB HB hbq;have hb2:=FC hb hbq.size;clear HA HB hb HL c3 hbq;have HA:=HA2;have HB:=HB2;have hb:=hb2;clear HA2 HB2 hb2;obtain⟨va,vl,vc,hvr,-,-,-,c0,c1,c2,c3,c4,c5⟩:=aS HA.out;have HL:=aa hvr;have hvl3:=hvr.1;rw[aY] at hvl3;clear hvr;clear HL;clear c0 c1 c2 c3 c5;clear hvl3;have hne3:=Wd.ne w2;have e4:∀q:Wd w2,q.w.cell? ⟨b,o+i*6+4,none⟩=some (.string (bm (n+1+1+1+x.zs.length).toNat)):=fun q=>(q.cell hb).trans c4;have HT:=aa (fun v:World=>cq (n+1+1+1+x.zs.length) v af af);clear c4;go_wp2_with fail;refine ag ar ar ?_;repeat (go_big_quiet_step (first|(go_at_call 73;exact Calls.wide (HT.out _))|fail))
   refine wpQuiet_nil ?_;rintro _ ⟨q3,rfl⟩;clear e4 HT hne3;have HA3:=aa (HA.below hb q3.b);have HB3:=upB HB q3.b;have hb3:=FC hb q3.b.size;clear HA HB hb;have HA:=HA3;have HB:=HB3;have hb:=hb3;clear HA3 HB3 hb3;obtain⟨va,vl,vc,hvr,-,-,-,c0,c1,c2,c3,c4,c5⟩:=aS HA.out;have HL:=aa hvr;have hvl4:=hvr.1;rw[aY] at hvl4;clear hvr;clear c0 c1 c2 c3 c4;clear HL hvl4;go_wp2_with fail;refine⟨⟨i+1,mkN n (pdF x),by omega,?_,by go_num,?_,?_,HB.out⟩,by simp[intOf];omega⟩
   ·simp[mkN,mkN1,pdF,GX]
   ·rw[cw HF.out,<-HN.out];rfl
   ·simp[mkN,mkN1,pdF];omega
  ·obtain rfl:i=len:=af
   go_wp2;go_ret;have e1:(xs.map pdF).take i=xs.map pdF:=FD af;exact nP

structure Cl where
 ns:List Nd
 ks:List Kd
 vs:List Vd
 xs:List Xd
 ps:List Pd
 now:Int
structure Cr where
 n:List (List Fv)
 k:List (List Fv)
 v:List (List Fv)
 x:List (List Fv)
 p:List (List Fv)
def Cl.raw (c:Cl):Cr:=⟨c.ns.map ndF,c.ks.map kdF,c.vs.map vdF,c.xs.map xdF,c.ps.map pdF⟩
structure Ad where
 a1:Option Addr
 l1:Nat
 c1:Nat
 a2:Option Addr
 l2:Nat
 c2:Nat
 a3:Option Addr
 l3:Nat
 c3:Nat
 a4:Option Addr
 l4:Nat
 c4:Nat
 a5:Option Addr
 l5:Nat
 c5:Nat
@[reducible] def clv (d:Ad) (n:Int):Array Value:=#[.slice d.a1 d.l1 d.c1,.slice d.a2 d.l2 d.c2,.slice d.a3 d.l3 d.c3,.slice d.a4 d.l4 d.c4,.slice d.a5 d.l5 d.c5,.int .i64 n]
@[reducible] def c6 (a1:Option Addr) (l1 y1:Nat) (a2:Option Addr) (l2 y2:Nat) (a3:Option Addr) (l3 y3:Nat) (a4:Option Addr) (l4 y4:Nat) (a5:Option Addr) (l5 y5:Nat) (n:Int):Array Value:=#[.slice a1 l1 y1,.slice a2 l2 y2,.slice a3 l3 y3,.slice a4 l4 y4,.slice a5 l5 y5,.int .i64 n]
@[reducible] def trv (d:Ad) (c:Cl) (p:Pd) (n:Nd) (pa:Option Addr) (pl pc:Nat) (na:Option Addr) (nl nc:Nat):Array Value:=#[.slice d.a1 d.l1 d.c1,.slice d.a2 d.l2 d.c2,.slice d.a3 d.l3 d.c3,.slice d.a4 d.l4 d.c4,.slice d.a5 d.l5 d.c5,.int .i64 c.now,.string p.n,.int .i64 p.c,.string p.z,.slice pa pl pc,.string p.d,.int .i64 p.p,.string n.n,.string n.z,.int .i64 n.c,.int .i64 n.s,.int .i64 n.u,.bool n.d,.slice na nl nc]
@[reducible] def vov (v:Vd) (a:Option Addr) (l k:Nat):Array Value:=#[.string v.n,.int .i64 v.c,.string v.z,.string v.k,.bool v.x,.string v.m,.bool v.y,.slice a l k]
@[reducible] def pov (p:Pd) (a:Option Addr) (l k:Nat):Array Value:=#[.string p.n,.int .i64 p.c,.string p.z,.slice a l k,.string p.d,.int .i64 p.p]
@[reducible] def nov (n:Nd) (a:Option Addr) (l k:Nat):Array Value:=#[.string n.n,.string n.z,.int .i64 n.c,.int .i64 n.s,.int .i64 n.u,.bool n.d,.slice a l k]
@[reducible] def xov (x:Xd):Array Value:=#[.string x.n,.int .i64 x.z,.string x.k,.bool x.x,.string x.v]
structure aJ (w:World) (d:Ad) (c:Cr):Prop where
 n:aN w d.a1 d.l1 d.c1 7 c.n
 k:aN w d.a2 d.l2 d.c2 4 c.k
 v:aN w d.a3 d.l3 d.c3 8 c.v
 x:aN w d.a4 d.l4 d.c4 5 c.x
 p:aN w d.a5 d.l5 d.c5 6 c.p
theorem aJ.below {w w':World} {d:Ad} {c:Cr} (h:aJ w d c) (hb:Below w.heap.size w w'):aJ w' d c:=⟨h.n.below hb,h.k.below hb,h.v.below hb,h.x.below hb,h.p.below hb⟩
structure fq (w:World) (d:Ad) (c:Cr) (S:Nat->Prop) (P:Nat->Nat):Prop where
 n:az w d.a1 d.l1 d.c1 7 57 c.n (fun k=>S k/\P k=1)
 k:az w d.a2 d.l2 d.c2 4 102 c.k (fun k=>S k/\P k=2)
 v:az w d.a3 d.l3 d.c3 8 99 c.v (fun k=>S k/\P k=3)
 x:az w d.a4 d.l4 d.c4 5 105 c.x (fun k=>S k/\P k=4)
 p:az w d.a5 d.l5 d.c5 6 64 c.p (fun k=>S k/\P k=5)
def bU (w:World) (d:Ad) (c:Cr) (S:Nat->Prop):Prop:=∃P,fq w d c S P
theorem fq.row {w:World} {d:Ad} {c:Cr} {S:Nat->Prop} {P:Nat->Nat} (h:fq w d c S P):aJ w d c:=⟨h.n.row,h.k.row,h.v.row,h.x.row,h.p.row⟩
theorem bU.row {w:World} {d:Ad} {c:Cr} {S:Nat->Prop} (h:bU w d c S):aJ w d c:=by obtain⟨P,h⟩:=h;exact h.row
theorem fq.aM {w w':World} {d:Ad} {c:Cr} {S S':Nat->Prop} {P:Nat->Nat} (h:fq w d c S P) (hk:∀k,k<w.heap.size->S k->w'.heap[k]?=w.heap[k]?) (hs:∀k,k<w.heap.size->S k->S' k):fq w' d c S' P:=
 ⟨h.n.aM (fun k hl s=>hk k hl s.1) (fun k hl s=>⟨hs k hl s.1,s.2⟩),h.k.aM (fun k hl s=>hk k hl s.1) (fun k hl s=>⟨hs k hl s.1,s.2⟩),h.v.aM (fun k hl s=>hk k hl s.1) (fun k hl s=>⟨hs k hl s.1,s.2⟩),h.x.aM (fun k hl s=>hk k hl s.1) (fun k hl s=>⟨hs k hl s.1,s.2⟩),h.p.aM (fun k hl s=>hk k hl s.1) (fun k hl s=>⟨hs k hl s.1,s.2⟩)⟩
theorem bU.below {w w':World} {d:Ad} {c:Cr} {S:Nat->Prop} (h:bU w d c S) (hb:Below w.heap.size w w'):bU w' d c S:=by
 obtain⟨P,h⟩:=h;exact⟨P,h.aM (fun k hk _=>hb.block k hk) (fun _ _ s=>s)⟩
theorem bU.kept {w w':World} {d:Ad} {c:Cr} {S S':Nat->Prop} (h:bU w d c S) (hb:aC S' w w') (hd:∀k,S k->¬S' k):bU w' d c S:=by
 obtain⟨P,h⟩:=h;exact⟨P,h.aM (fun k hk s=>hb.block k hk (hd k s)) (fun _ _ s=>s)⟩
theorem bU.bA {w:World} {d:Ad} {c:Cr} {S S':Nat->Prop} (h:bU w d c S) (hs:∀k,k<w.heap.size->S k->S' k):bU w d c S':=by
 obtain⟨P,h⟩:=h;exact⟨P,h.aM (fun _ _ _=>rfl) hs⟩
def mkC (N:Int) (c:Cr):Cr:=⟨mkRs N c.n,mkRs (aI N c.n) c.k,mkRs (aI (aI N c.n) c.k) c.v,mkRs (aI (aI (aI N c.n) c.k) c.v) c.x,mkRs (aI (aI (aI (aI N c.n) c.k) c.v) c.x) c.p⟩
def dO (N:Int) (c:Cr):Int:=(aI (aI (aI (aI (aI N c.n) c.k) c.v) c.x) c.p)
theorem mi (N:Int) (c:Cr):N<=dO N c:=F6 (aH _ _) (F6 (aH _ _) (F6 (aH _ _) (F6 (aH _ _) (aH _ _))))
theorem za (N:Int) (c:Cr):aI N c.n<=dO N c:=(F6 (F6 (F6 (F6 (II _) (aH _ _)) (aH _ _)) (aH _ _)) (aH _ _))
theorem zd (N:Int) (c:Cr):aI (aI N c.n) c.k<=dO N c:=(F6 (F6 (F6 (II _) (aH _ _)) (aH _ _)) (aH _ _))
theorem y9 (N:Int) (c:Cr):aI (aI (aI N c.n) c.k) c.v<=dO N c:=(F6 (F6 (II _) (aH _ _)) (aH _ _))
theorem y8 (N:Int) (c:Cr):aI (aI (aI (aI N c.n) c.k) c.v) c.x<=dO N c:=(F6 (II _) (aH _ _))
theorem y_ (N:Int) (c:Cr):aI (aI (aI (aI (aI N c.n) c.k) c.v) c.x) c.p<=dO N c:=(II _)

theorem fW (d d':Ad) (c:Cl) (w:World) (hr:aJ w d c.raw) (hr':aJ w d' c.raw):
  Calls Tryz.prog 10 #[.agg #[.slice d.a1 d.l1 d.c1,.slice d.a2 d.l2 d.c2,.slice d.a3 d.l3 d.c3,.slice d.a4 d.l4 d.c4,.slice d.a5 d.l5 d.c5,.int .i64 c.now],.agg #[.slice d'.a1 d'.l1 d'.c1,.slice d'.a2 d'.l2 d'.c2,.slice d'.a3 d'.l3 d'.c3,.slice d'.a4 d'.l4 d'.c4,.slice d'.a5 d'.l5 d'.c5,.int .i64 c.now]] w fun e w'=>e=.returned (.bool true)/\Below w.heap.size w w':=by
 have HR:=aa (hr.below (aF w (.cells (clv d c.now) 36) (.cells (clv d' c.now) 36)));have HR':=aa (hr'.below (aF w (.cells (clv d c.now) 36) (.cells (clv d' c.now) 36)));have HB0:=aa (aF w (.cells (clv d c.now) 36) (.cells (clv d' c.now) 36));have HG0:=aa (cS w (.cells (clv d c.now) 36) (.cells (clv d' c.now) 36));have HG1:=aa (bE w (.cells (clv d c.now) 36) (.cells (clv d' c.now) 36));clear hr hr';go_enter Tryz.func10,Tryz.ntmps10;go_wp2_with fail;refine (zK d.a1 d'.a1 d.l1 d'.l1 d.c1 d'.c1 c.ns _ HR.n HR'.n).mono ?_;rintro e w1 ⟨rfl,hb⟩;have HR1:=aa (HR.below hb);have HR'1:=aa (HR'.below hb);have HB1:=aa (HB0.trans (hb.mono (HB0.size)));have HG01:=upK HG0 hb;have HG11:=upK HG1 hb;clear hb HR HR' HB0 HG0 HG1;have HR:=HR1;have HR':=HR'1;have HG0:=HG01;have HG1:=HG11;clear HR1 HR'1 HG01 HG11;have c0:=ck1 HG0;have c1:=ck1 HG1;go_wp2_with fail;refine (zL d.a2 d'.a2 d.l2 d'.l2 d.c2 d'.c2 c.ks _ HR.k HR'.k).mono ?_;rintro e w2 ⟨rfl,hb⟩;have HR2:=aa (HR.below hb);have HR'2:=aa (HR'.below hb);have HB2:=aa (HB1.trans (hb.mono (HB1.size)));have HG02:=upK HG0 hb;have HG12:=upK HG1 hb;clear hb HR HR' HB1 HG0 HG1 c0 c1;have HR:=HR2;have HR':=HR'2;have HG0:=HG02;have HG1:=HG12;clear HR2 HR'2 HG02 HG12;have c0:=ck2 HG0;have c1:=ck2 HG1;go_wp2_with fail;refine (zI d.a3 d'.a3 d.l3 d'.l3 d.c3 d'.c3 c.vs _ HR.v HR'.v).mono ?_;rintro e w3 ⟨rfl,hb⟩;have HR3:=aa (HR.below hb);have HR'3:=aa (HR'.below hb);have HB3:=aa (HB2.trans (hb.mono (HB2.size)));have HG03:=upK HG0 hb;have HG13:=upK HG1 hb;clear hb HR HR' HB2 HG0 HG1 c0 c1;have HR:=HR3;have HR':=HR'3;have HG0:=HG03;have HG1:=HG13;clear HR3 HR'3 HG03 HG13;have c0:=ck3 HG0;have c1:=ck3 HG1;go_wp2_with fail;refine (zH d.a4 d'.a4 d.l4 d'.l4 d.c4 d'.c4 c.xs _ HR.x HR'.x).mono ?_;rintro e w4 ⟨rfl,hb⟩;have HR4:=aa (HR.below hb);have HR'4:=aa (HR'.below hb);have HB4:=aa (HB3.trans (hb.mono (HB3.size)));have HG04:=upK HG0 hb;have HG14:=upK HG1 hb;clear hb HR HR' HB3 HG0 HG1 c0 c1;have HR:=HR4;have HR':=HR'4;have HG0:=HG04;have HG1:=HG14;clear HR4 HR'4 HG04 HG14;have c0:=ck4 HG0;have c1:=ck4 HG1;go_wp2_with fail;refine (zJ d.a5 d'.a5 d.l5 d'.l5 d.c5 d'.c5 c.ps _ HR.p HR'.p).mono ?_;rintro e w5 ⟨rfl,hb⟩;have HR5:=aa (HR.below hb);have HR'5:=aa (HR'.below hb);have HB5:=aa (HB4.trans (hb.mono (HB4.size)));have HG05:=upK HG0 hb;have HG15:=upK HG1 hb;clear hb HR HR' HB4 HG0 HG1 c0 c1;have HR:=HR5;have HR':=HR'5;have HG0:=HG05;have HG1:=HG15;clear HR5 HR'5 HG05 HG15;have c0:=ck5 HG0;have c1:=ck5 HG1;go_wp2;go_ret;exact⟨rfl,HB5.out⟩

theorem eV (d:Ad) (c:Cl) (N:Int) (S:Nat->Prop) (w:World) (ho:bU w d c.raw S) (hS:∀k,S k->k<w.heap.size) (hN:0<N) (hb:dO N c.raw<=1152921504606846976):
  Calls Tryz.prog 11 #[.agg #[.slice d.a1 d.l1 d.c1,.slice d.a2 d.l2 d.c2,.slice d.a3 d.l3 d.c3,.slice d.a4 d.l4 d.c4,.slice d.a5 d.l5 d.c5,.int .i64 c.now],.int .i64 N] w fun e w'=>e=.returned (.int .i64 (dO N c.raw))/\bU w' d (mkC N c.raw) S/\aC S w w':=by
 obtain⟨P,ho⟩:=ho;have h1:=ho.aM (w':=w.alloc (.cells (clv d c.now) 36)) (fun k hk _=>(al w _).block k hk) (fun _ _ s=>s);have O1:=aa h1.n;have O2:=aa h1.k;have O3:=aa h1.v;have O4:=aa h1.x;have O5:=aa h1.p;have HK0:Hid (aC S w (w.alloc (.cells (clv d c.now) 36))):=aC.bZ (al w _);have HG0:Hid ((w.alloc (.cells (clv d c.now) 36)).heap[w.heap.size]?=some (.cells (clv d c.now) 36 (0,0))):=FB;have hnn:¬S w.heap.size:=fun s=>Nat.lt_irrefl _ (hS _ s);have HNN:=aa hnn;have HBd:=aa hb;clear ho h1 hS hnn hb;go_enter Tryz.func11,Tryz.ntmps11;go_wp2_with fail;refine (qW d.a1 d.l1 d.c1 c.ns (N) _ _ (by exact O1.out) hN (F6 (za N c.raw) HBd.out) (Fx O1.2.1 O1.2.2.1)).mono ?_;rintro e w1 ⟨rfl,ho,hk⟩;have M1:=aa ho;have O21:=aa (O2.kept hk (fun k s q=>by have h1:=s.2;have h2:=q.2;omega));have O31:=aa (O3.kept hk (fun k s q=>by have h1:=s.2;have h2:=q.2;omega));have O41:=aa (O4.kept hk (fun k s q=>by have h1:=s.2;have h2:=q.2;omega));have O51:=aa (O5.kept hk (fun k s q=>by have h1:=s.2;have h2:=q.2;omega));have HK1:=aa (HK0.trans (hk.mono (fun _ s=>s.1)));have HG1:=aa ((hk.block _ (ae HG0.out) (fun s=>HNN.out s.1)).trans HG0.out);clear ho hk HK0 HG0 O1 O2 O3 O4 O5;have O2:=O21;clear O21;have O3:=O31;clear O31;have O4:=O41;clear O41;have O5:=O51;clear O51;have c0:=ck1 HG1;go_wp2_with fail;refine (qX d.a2 d.l2 d.c2 c.ks (aI N (c.ns.map ndF)) _ _ (by exact O2.out) (FL hN (aH _ _)) (F6 (zd N c.raw) HBd.out) (Fx O2.2.1 O2.2.2.1)).mono ?_;rintro e w2 ⟨rfl,ho,hk⟩;have M2:=aa ho;have M12:=aa (M1.kept hk (fun k s q=>by have h1:=s.2;have h2:=q.2;omega));have O32:=aa (O3.kept hk (fun k s q=>by have h1:=s.2;have h2:=q.2;omega));have O42:=aa (O4.kept hk (fun k s q=>by have h1:=s.2;have h2:=q.2;omega));have O52:=aa (O5.kept hk (fun k s q=>by have h1:=s.2;have h2:=q.2;omega));have HK2:=aa (HK1.trans (hk.mono (fun _ s=>s.1)));have HG2:=aa ((hk.block _ (ae HG1.out) (fun s=>HNN.out s.1)).trans HG1.out);clear ho hk HK1 HG1 M1 O2 O3 O4 O5 c0;have M1:=M12;clear M12;have O3:=O32;clear O32;have O4:=O42;clear O42;have O5:=O52;clear O52;have c0:=ck2 HG2;go_wp2_with fail;refine (qU d.a3 d.l3 d.c3 c.vs (aI (aI N (c.ns.map ndF)) (c.ks.map kdF)) _ _ (by exact O3.out) (FL (FL hN (aH _ _)) (aH _ _)) (F6 (y9 N c.raw) HBd.out) (Fx O3.2.1 O3.2.2.1)).mono ?_;rintro e w3 ⟨rfl,ho,hk⟩;have M3:=aa ho;have M13:=aa (M1.kept hk (fun k s q=>by have h1:=s.2;have h2:=q.2;omega));have M23:=aa (M2.kept hk (fun k s q=>by have h1:=s.2;have h2:=q.2;omega));have O43:=aa (O4.kept hk (fun k s q=>by have h1:=s.2;have h2:=q.2;omega));have O53:=aa (O5.kept hk (fun k s q=>by have h1:=s.2;have h2:=q.2;omega));have HK3:=aa (HK2.trans (hk.mono (fun _ s=>s.1)))
 have HG3:=aa ((hk.block _ (ae HG2.out) (fun s=>HNN.out s.1)).trans HG2.out);clear ho hk HK2 HG2 M1 M2 O3 O4 O5 c0;have M1:=M13;clear M13;have M2:=M23;clear M23;have O4:=O43;clear O43;have O5:=O53;clear O53;have c0:=ck3 HG3;go_wp2_with fail;refine (qT d.a4 d.l4 d.c4 c.xs (aI (aI (aI N (c.ns.map ndF)) (c.ks.map kdF)) (c.vs.map vdF)) _ _ (by exact O4.out) (FL (FL (FL hN (aH _ _)) (aH _ _)) (aH _ _)) (F6 (y8 N c.raw) HBd.out) (Fx O4.2.1 O4.2.2.1)).mono ?_;rintro e w4 ⟨rfl,ho,hk⟩;have M4:=aa ho;have M14:=aa (M1.kept hk (fun k s q=>by have h1:=s.2;have h2:=q.2;omega));have M24:=aa (M2.kept hk (fun k s q=>by have h1:=s.2;have h2:=q.2;omega));have M34:=aa (M3.kept hk (fun k s q=>by have h1:=s.2;have h2:=q.2;omega));have O54:=aa (O5.kept hk (fun k s q=>by have h1:=s.2;have h2:=q.2;omega));have HK4:=aa (HK3.trans (hk.mono (fun _ s=>s.1)));have HG4:=aa ((hk.block _ (ae HG3.out) (fun s=>HNN.out s.1)).trans HG3.out);clear ho hk HK3 HG3 M1 M2 M3 O4 O5 c0;have M1:=M14;clear M14;have M2:=M24;clear M24;have M3:=M34;clear M34;have O5:=O54;clear O54;have c0:=ck4 HG4;go_wp2_with fail;refine (qV d.a5 d.l5 d.c5 c.ps (aI (aI (aI (aI N (c.ns.map ndF)) (c.ks.map kdF)) (c.vs.map vdF)) (c.xs.map xdF)) _ _ (by exact O5.out) (FL (FL (FL (FL hN (aH _ _)) (aH _ _)) (aH _ _)) (aH _ _)) (F6 (y_ N c.raw) HBd.out) (Fx O5.2.1 O5.2.2.1)).mono ?_;rintro e w5 ⟨rfl,ho,hk⟩;have M5:=aa ho;have M15:=aa (M1.kept hk (fun k s q=>by have h1:=s.2;have h2:=q.2;omega));have M25:=aa (M2.kept hk (fun k s q=>by have h1:=s.2;have h2:=q.2;omega));have M35:=aa (M3.kept hk (fun k s q=>by have h1:=s.2;have h2:=q.2;omega));have M45:=aa (M4.kept hk (fun k s q=>by have h1:=s.2;have h2:=q.2;omega));have HK5:=aa (HK4.trans (hk.mono (fun _ s=>s.1)));clear ho hk HK4 HG4 M1 M2 M3 M4 O5 c0;have M1:=M15;clear M15;have M2:=M25;clear M25;have M3:=M35;clear M35;have M4:=M45;clear M45;go_wp2_with fail;go_ret;exact⟨rfl,⟨P,M1.out,M2.out,M3.out,M4.out,M5.out⟩,HK5.out⟩

theorem ji (d:Ad) (c:Cl) (now N:Int) (w:World) (hr:aJ w d (mkC N c.raw)) (hN:0<N) (hb:dO N c.raw<=1152921504606846976):
  Calls Tryz.prog 42 #[.agg #[.slice d.a1 d.l1 d.c1,.slice d.a2 d.l2 d.c2,.slice d.a3 d.l3 d.c3,.slice d.a4 d.l4 d.c4,.slice d.a5 d.l5 d.c5,.int .i64 now],.int .i64 N] w fun e w'=>e=.returned (.int .i64 (dO N c.raw))/\Below w.heap.size w w':=by
 have HR:=aa (hr.below (al w (.cells (clv d now) 36)));have HB0:=aa (al w (.cells (clv d now) 36));have HG0:Hid ((w.alloc (.cells (clv d now) 36)).heap[w.heap.size]?=some (.cells (clv d now) 36 (0,0))):=FB;have HBd:=aa hb;clear hr hb;have p1:¬aI N (c.ns.map ndF)<0:=Int.not_lt.2 (Int.le_of_lt (FL hN (aH _ _)));have p2:¬aI (aI N (c.ns.map ndF)) (c.ks.map kdF)<0:=Int.not_lt.2 (Int.le_of_lt (FL (FL hN (aH _ _)) (aH _ _)));have p3:¬aI (aI (aI N (c.ns.map ndF)) (c.ks.map kdF)) (c.vs.map vdF)<0:=Int.not_lt.2 (Int.le_of_lt (FL (FL (FL hN (aH _ _)) (aH _ _)) (aH _ _)));have p4:¬aI (aI (aI (aI N (c.ns.map ndF)) (c.ks.map kdF)) (c.vs.map vdF)) (c.xs.map xdF)<0:=Int.not_lt.2 (Int.le_of_lt (FL (FL (FL (FL hN (aH _ _)) (aH _ _)) (aH _ _)) (aH _ _)));have p5:¬aI (aI (aI (aI (aI N (c.ns.map ndF)) (c.ks.map kdF)) (c.vs.map vdF)) (c.xs.map xdF)) (c.ps.map pdF)<0:=Int.not_lt.2 (Int.le_of_lt (FL (FL (FL (FL (FL hN (aH _ _)) (aH _ _)) (aH _ _)) (aH _ _)) (aH _ _)));go_enter Tryz.func42,Tryz.ntmps42;go_wp2_with fail;refine (rF d.a1 d.l1 d.c1 c.ns (N) _ (by exact HR.n) hN (F6 (za N c.raw) HBd.out) (Fx HR.n.2.1 HR.n.2.2.1)).mono ?_;rintro e w1 ⟨rfl,hb⟩;have HR1:=aa (HR.below hb);have HB1:=aa (HB0.trans (hb.mono (HB0.size)));have HG1:=upK HG0 hb;clear hb HR HB0 HG0;have HR:=HR1;clear HR1;have c0:=ck1 HG1;go_wp2_with fail;refine (rG d.a2 d.l2 d.c2 c.ks (aI N (c.ns.map ndF)) _ (by exact HR.k) (FL hN (aH _ _)) (F6 (zd N c.raw) HBd.out) (Fx HR.k.2.1 HR.k.2.2.1)).mono ?_;rintro e w2 ⟨rfl,hb⟩;have HR2:=aa (HR.below hb);have HB2:=aa (HB1.trans (hb.mono (HB1.size)));have HG2:=upK HG1 hb;clear hb HR HB1 HG1 c0;have HR:=HR2;clear HR2;have c0:=ck2 HG2;go_wp2_with fail;refine (rD d.a3 d.l3 d.c3 c.vs (aI (aI N (c.ns.map ndF)) (c.ks.map kdF)) _ (by exact HR.v) (FL (FL hN (aH _ _)) (aH _ _)) (F6 (y9 N c.raw) HBd.out) (Fx HR.v.2.1 HR.v.2.2.1)).mono ?_;rintro e w3 ⟨rfl,hb⟩;have HR3:=aa (HR.below hb);have HB3:=aa (HB2.trans (hb.mono (HB2.size)));have HG3:=upK HG2 hb;clear hb HR HB2 HG2 c0;have HR:=HR3;clear HR3;have c0:=ck3 HG3;go_wp2_with fail;refine (rC d.a4 d.l4 d.c4 c.xs (aI (aI (aI N (c.ns.map ndF)) (c.ks.map kdF)) (c.vs.map vdF)) _ (by exact HR.x) (FL (FL (FL hN (aH _ _)) (aH _ _)) (aH _ _)) (F6 (y8 N c.raw) HBd.out) (Fx HR.x.2.1 HR.x.2.2.1)).mono ?_
 rintro e w4 ⟨rfl,hb⟩;have HR4:=aa (HR.below hb);have HB4:=aa (HB3.trans (hb.mono (HB3.size)));have HG4:=upK HG3 hb;clear hb HR HB3 HG3 c0;have HR:=HR4;clear HR4;have c0:=ck4 HG4;go_wp2_with fail;refine (rE d.a5 d.l5 d.c5 c.ps (aI (aI (aI (aI N (c.ns.map ndF)) (c.ks.map kdF)) (c.vs.map vdF)) (c.xs.map xdF)) _ (by exact HR.p) (FL (FL (FL (FL hN (aH _ _)) (aH _ _)) (aH _ _)) (aH _ _)) (F6 (y_ N c.raw) HBd.out) (Fx HR.p.2.1 HR.p.2.2.1)).mono ?_;rintro e w5 ⟨rfl,hb⟩;have HR5:=aa (HR.below hb);have HB5:=aa (HB4.trans (hb.mono (HB4.size)));clear hb HR HB4 HG4 c0;have HR:=HR5;clear HR5;go_wp2_with fail;go_ret;exact⟨rfl,HB5.out⟩

end Rc
end Go.Proofs.YtpejepeekdjfoaaGreatDoor
