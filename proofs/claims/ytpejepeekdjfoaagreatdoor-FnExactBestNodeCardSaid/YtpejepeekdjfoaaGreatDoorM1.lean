import Derived.Lib.ItoaNum
import Derived.Test.YtpejepeekdjfoaaGreatDoorRows
import Derived.WalkKit
import Derived.WalkSpells
import Derived.OwnWalk
import Derived.Outline
import Derived.Laws.Cover1
import Derived.Lib.BufferWrite
import Derived.Laws.CopyOwn
import Derived.Deep.QuietTactic
import Derived.BigQuiet
import Derived.WalkSmall
import Derived.Laws.IdiomStrings
import Derived.Deep.RegionWith
import Derived.BigRegion
import Derived.LaidEql
import Derived.Stop.Asserts
import Derived.RowKitTokens
import Derived.RegionTactic
import Derived.Laws.AppendOwn
import Derived.Laws.AppendOwnNone
import Derived.Deep.AppendLies
import Derived.Lib.Overlaps
import Derived.Lib.SliceRun
import Derived.Lib.AppendZerosOnto
import Derived.Deep.RegionLaw
import Derived.Shelf.RegionOpenPlain
import Derived.Laws.CopyRow
import Derived.Laws.Tables
import Derived.Laws.Rows
import Derived.RangeFuncNested
import Derived.RangeFuncBound
import Derived.RangeFuncCalls
import Derived.RangeFuncLeaves
import Derived.Shelf.Abstract
import Derived.Shelf.RegionOpen
import Derived.OwnWalkIn
import Derived.TacticsInMore
import Derived.LoopNIn
import Derived.LoopIn
import Derived.ScopeJumps
import Derived.WalkMore
import Derived.Deep.CutRange
import Derived.Stop.LaidErr
import Derived.ChangeVars
import Derived.Deep.Strs
import Derived.Deep.Fields
import Derived.WideShapes
import Derived.ChangeArms
/-
 The mathematics of numbers in digits: what digits say, and that digits are got back.
-/
set_option maxRecDepth 100000
set_option maxHeartbeats 12800000
open And renaming intro→Fo
open Array renaming getD_eq_getD_getElem?→Fx, getElem?_push_size→FD, getElem?_eq_some_iff→FG, getElem?_setIfInBounds→FL
open Bool renaming and_eq_true→Gl
open Go.Act renaming put→GI
open Go.Addr renaming add_lit→FT
open Go.Builtin renaming append_→GC
open Go.Calls renaming quiet_of_same→FY
open Go.Code renaming region→Hn
open Go.Lib renaming toList_data→Hp
open Go.Op renaming bytesLess→FB
open Go.Region renaming binds→F5, ready→Ge, wanted→GO
open Go.RowKit.Below renaming heap_setCell→Fp, refl→Fw, heap_alloc→Fy
open Go.Value renaming string→FK, oneCell'→GF
open Go.World renaming setCell→Gf
open Int renaming le_trans→F8
open List renaming getElem?_eq_some_iff→Fm, lookup→Fs, getElem?_eq_getElem→Fu, setIfInBounds_toArray→Fz, getElem?_map→FC, take_of_length_le→FF, set_cons_zero→FH, forall_mem_cons→FI, set_cons_succ→FM, getElem?_append_left→FN, length_take→FQ, getElem?_take→FR, length_map→FU, getElem?_of_mem→FW, mem_of_getElem?→FZ, take_add_one→F6, length_append→F7, getElem?_cons_zero→F9, foldr→Gd, mem_cons→Gj, getElem?_drop→Gm, range→Gq, all_eq_true→GA, append_nil→GD, length_drop→GG, eq_nil_of_length_eq_zero→GJ, mem_singleton→GW, length_cons→G0, mem_append→G2, findIdx_le_length→G5, getElem?_set→Hg, flatten_cons→Hh, dropLast_concat→Hi
open Nat renaming le_refl→Ft, le_trans→FA, lt_of_lt_of_le→FE, le_succ→FV, zero_add→FX
open Option renaming map_eq_some_iff→FJ
open Option.some renaming inj→Fq, injEq→Gw
open UInt8 renaming lt_iff_toNat_lt→He
namespace Go.Proofs.YtpejepeekdjfoaaGreatDoor
theorem af {p:Prop} (h:p:=by omega):p:=h
theorem aj {p:Prop} (h:p:=by decide):p:=h
theorem aq {p:Prop} (h:p:=by kernel_rfl):p:=h
theorem c_ {p:Prop} (h:p:=by have:=(Fm.1 hz).1;omega):p:=h
theorem cr {p:Prop} (h:p:=by first|trivial|rfl):p:=h
theorem cD {p:Prop} (h:p:=by unfold maxLen;omega):p:=h
theorem bG {p:Prop} (h:p:=by simp;omega):p:=h
theorem aS {p:Prop} (h:p:=by simp):p:=h
theorem k9 {p:Prop} (h:p:=by rw[FR,if_pos hij];exact Fu _):p:=h
theorem dv {p:Prop} (h:p:=by simpa using hr.1):p:=h
theorem k8 {p:Prop} (h:p:=by simpa using (show (c.vs.map vdF).length=l3 from hr.v.1)):p:=h
theorem bU {p:Prop} (h:p:=by cases h):p:=h
theorem eT {p:Prop} (h:p:=by simp[GF]):p:=h
theorem kY {p:Prop} (h:p:=by have:=(Fm.1 hy).1;omega):p:=h
theorem kX {p:Prop} (h:p:=by rw[FR,if_pos hij];exact hp):p:=h
theorem bF {p:Prop} (h:p:=by rfl):p:=h
theorem nA {p:Prop} (h:p:=by have:=(Fm.1 hj).1;omega):p:=h
theorem jK {p:Prop} (h:p:=by rw[FQ];omega):p:=h
theorem sh {p:Prop} (h:p:=by simpa using (show (c.ns.map ndF).length=l1 from hr.n.1)):p:=h
theorem jJ {p:Prop} (h:p:=by simp[Gf];omega):p:=h
theorem fO {p:Prop} (h:p:=by simpa using hz):p:=h
theorem sg {p:Prop} (h:p:=by rw[<-List.flatten_append,List.take_append_drop]):p:=h
theorem sf {p:Prop} (h:p:=by have:=(Fm.1 ht).1;omega):p:=h
theorem gI {p:Prop} (h:p:=by rw[hz2];omega):p:=h
theorem uT {p:Prop} (h:p:=by simpa using (show (c.xs.map xdF).length=l4 from hr.x.1)):p:=h
theorem jI {p:Prop} (h:p:=by simpa using ho.1):p:=h
theorem iR {p:Prop} (h:p:=by simpa using h):p:=h
theorem sb {p:Prop} (h:p:=by rw[hk] at hsz;simp at hsz;omega):p:=h
theorem r_ {p:Prop} (h:p:=by rw[FU];omega):p:=h
end Go.Proofs.YtpejepeekdjfoaaGreatDoor
namespace Go.Proofs.YtpejepeekdjfoaaGreatDoor
theorem aU {p:Prop} (h:p:=by
 go_simp;refine hK _ _ (Fw _ _) ?_;with_reducible rfl):p:=h
theorem ff {p:Prop} (h:p:=by
 have HN:=aa (fun h=>hq (hr.2 h));clear hr;go_wp2_with fail;go_ret;exact⟨false,rfl,⟨fun h=>bU,fun h=>(HN.out (h.1)).elim⟩,al _ _⟩):p:=h
theorem gP {p:Prop} (h:p:=by
 have HN:=aa (fun h=>hq (hr.2 h));clear hr;go_wp2_with fail;go_ret;exact⟨false,rfl,⟨fun h=>bU,fun h=>(HN.out (h.2.2.1)).elim⟩,al _ _⟩):p:=h
theorem gO {p:Prop} (h:p:=by
 have HN:=aa (fun h=>hq (hr.2 h));clear hr;go_wp2_with fail;go_ret;exact⟨false,rfl,⟨fun h=>bU,fun h=>(HN.out (h.2.1)).elim⟩,al _ _⟩):p:=h
theorem xA {p:Prop} (h:p:=by
 intro j o ho t ht i p hp hd;have hj:j<front.length:=(Fm.1 ho).1;have hi:i<front.length:=(Fm.1 hp).1;have:=GA.1 h3 j (List.mem_range.2 hj);rw[ho] at this;have:=GA.1 this t ht;have:=GA.1 this i (List.mem_range.2 hi);rw[hp] at this;simp only[hd,bne_self_eq_false,Bool.false_or,Gl,decide_eq_true_eq] at this;exact xj):p:=h
theorem C4 {p:Prop} (h:p:=by
 have e:aE a0 (knAll [] front φs) (fun t=>a.tmps.getD t undef)=a:=by
  refine Be ((dj _ _ _).trans h.size.symm) ((dm _ _ _).trans h.defers.symm) (fun t=>gQ a0 a _ (fun p hp=>?_) t (fun hn=>?_))
  ·rcases dz front φs [] hp with ⟨i,o,h1,h2,h3⟩|h1
   ·exact hin o (FZ h1) _ h2
   ·simp at h1
  ·refine h.other t (fun i o ho hd=>?_);exfalso;have hi:=(Fm.1 ho).1;have hφ:φs[i]?=some (φs[i]'(by omega)):=Fu _;cases hk:(knAll [] front φs).lookup t with
   | none=>exact (b_ front φs [] hk).2 i o _ ho hφ hd
   | some φ=>
    have:∃p∈knAll [] front φs,p.1=t:=by
     revert hk
     generalize knAll [] front φs=l
     intro hk
     induction l with
     | nil=>simp at hk
     | cons p l ih=>
      rw[List.lookup_cons] at hk
      cases hb:t==p.1 with
      | true=>exact⟨p,by simp,(by simpa using hb:t=p.1).symm⟩
      | false=>
       rw[hb] at hk;obtain⟨q,hq,he⟩:=ih hk;exact⟨q,by simp[hq],he⟩
    obtain⟨p,hp,he⟩:=this;exact hn p hp he
 rw[e] at h1;exact h1):p:=h
theorem lj {p:Prop} (h:p:=by
 have HN:=aa (fun h=>hq (hr.2 h));clear hr;go_wp2_with fail;go_ret;exact⟨false,rfl,⟨fun h=>bU,fun h=>(HN.out (h.2.2.2.1)).elim⟩,al _ _⟩):p:=h
theorem vQ {p:Prop} (h:p:=by
 obtain⟨φ,hφ,ho,hr⟩:=h;obtain⟨φs,hl,hs,hf⟩:=au.spec l _ hr;refine⟨φ ::φs,by simp[hl],?_,hf⟩;intro i o' φ' h1 h2;cases i with
 | zero=>
  simp only[F9,Gw] at h1 h2;subst h1;subst h2;exact⟨hφ,ho⟩
 | succ i=>
  simp only[List.getElem?_cons_succ] at h1 h2
  simpa[knAll] using hs i o' φ' h1 h2):p:=h
theorem n8 {p:Prop} (h:p:=by
 have HN:=aa (fun h=>hq (hr.2 h));clear hr;go_wp2_with fail;go_ret;exact⟨false,rfl,⟨fun h=>bU,fun h=>(HN.out (h.2.2.2.2.1)).elim⟩,al _ _⟩):p:=h
theorem Ed {p:Prop} (h:p:=by
 exact xj):p:=h
theorem nX {p:Prop} (h:p:=by
 obtain⟨b,o,r,h1,h2,h3,h4⟩:=h.at hj;rw[FC] at h3;obtain⟨x,h5,rfl⟩:=FJ.1 h3;exact⟨b,o,x,h1,h2,h5,h4⟩):p:=h
theorem CS {p:Prop} (h:p:=by
 induction known with
 | nil=>exact (h (fun p hp=>by simp at hp)).symm
 | cons p l ih=>
  have e:aE a0 (p ::l) (fun t=>a.tmps.getD t undef)=(aE a0 l (fun t=>a.tmps.getD t undef)).put (some p.1) (a.tmps.getD p.1 undef):=rfl;rw[e,fi,dj]
  by_cases hp:p.1=t
  ·subst hp;rw[if_pos ⟨rfl,hk p aS⟩]
  ·rw[if_neg (fun h=>hp h.1)]
   exact ih (fun q hq=>hk q (by simp[hq])) (fun hn=>h (fun q hq=>by
    rcases Gj.1 hq with rfl|hq
    ·exact hp
    ·exact hn q hq))):p:=h
theorem CR {p:Prop} (h:p:=by
 have h45:aX w4 (fun k=>(Q k\/Q2 k)\/w.heap.size<=k) 8 ((br j x xs).map vdF) (br j [.string x.n,.int .i64 x.c,.string x.z,.string x.k,.bool x.x,.string x.m,.bool x.y,.slice va vl vc] vss) H4:=by rw[kl];exact hV5
 have hle:((br j x xs).map vdF).length=n+1:=by rw[FU,d_ af,hxl]
 exact xi):p:=h
theorem CQ {p:Prop} (h:p:=by
 intro t ht;have hne:o.dst≠some t:=fun hd=>by
  have:=ht j o ho hd;simp[Fx,hj] at this
 have h1:=h.other t (fun i p hp hd=>by
  have h2:=ht i p hp hd
  have e:¬j=i:=fun e=>by subst e;exact hne (by rw[Fq (ho.symm.trans hp)];exact hd)
  simpa[Fx,FL,e] using h2)
 exact wY):p:=h
theorem lh {p:Prop} (h:p:=by
 have:=List.count_le_length (a:=false) (l:=(Array.replicate l.toArray.size false).toList);simp at this ⊢):p:=h
theorem CM {p:Prop} (h:p:=by
 have h9:∃x,a=aE a0 (knAll [] front φs) x/\∀p∈knAll [] front φs,p.2 (x p.1) w:=Go.Proofs.YtpejepeekdjfoaaGreatDoor.Fin.last (P:=P) (ops:=ops) (Q:=fun _ a' w'=> ∃x,a'=aE a0 (knAll [] front φs) x/\∀p∈knAll [] front φs,p.2 (x p.1) w') (back:=none) (fun x _ _ h2=>⟨x,rfl,h2⟩) hlen hin h hall;obtain⟨x,e,h2⟩:=h9;have h3:=hf x w h.below h2;rw[<-e] at h3;exact h3):p:=h
theorem CH {p:Prop} (h:p:=by
 have:=GA.1 h4 j (List.mem_range.2 hj);rw[ho] at this;have:=Array.all_eq_true.1 this;obtain⟨k,hk,rfl⟩:=Array.mem_iff_getElem.1 he;have h9:=this k hk;rw[hbe] at h9;simpa using h9):p:=h
theorem sx {p:Prop} (h:p:=by
 cases hk:back with
 | none=>rw[hk] at h1;exact h1
 | some o=>
  have h2:=hb o hk;rw[hall _ (by rw[hsz,hk];simp)] at h2
  cases h2):p:=h
theorem CG {p:Prop} (h:p:=by
 obtain⟨h1,h2⟩:=b_ l φs (kn o.dst ψ known) h;rw[iG] at h1;by_cases hd:o.dst=some t
 ·rw[if_pos hd] at h1;cases h1
 ·rw[if_neg hd] at h1;refine⟨h1,fun i o' φ h3 h4=>?_⟩;cases i with
  | zero=>simp only[F9,Gw] at h3;subst h3;exact hd
  | succ i=>exact h2 i o' φ (by simpa using h3) (by simpa using h4)):p:=h
theorem CE {p:Prop} (h:p:=by
 obtain rfl:vl=kq:=af
 go_wp2_with fail;refine⟨⟨k+1,by omega,by go_num,fun j z hj hz=>?_,HB.out,Bk.out⟩,by simp[intOf];omega⟩;by_cases e:j=k
 ·subst e;rw[HXv.out] at hz;exact wZ
 ·exact HQ.out j z af hz):p:=h
theorem CB {p:Prop} (h:p:=by
 rcases dz l φs (kn o.dst ψ known) h with ⟨i,o',h1,h2,h3⟩|h
 ·exact .inl ⟨i+1,o',by simpa using h1,h2,by simpa using h3⟩
 ·cases hd:o.dst with
  | none=>rw[hd] at h;exact .inr h
  | some d=>
   rw[hd] at h;simp only[kn,Gj] at h
   rcases h with rfl|h
   ·exact .inl ⟨0,o,rfl,hd,rfl⟩
   ·exact .inr h):p:=h
theorem vG {p:Prop} (h:p:=by
 rw[List.getElem?_eq_none bG] at hj;cases hj):p:=h
theorem sr {p:Prop} (h:p:=by
 simp only[Gl,beq_iff_eq] at hx;exact⟨_,Array.getElem_mem hk,hx.1,hx.2⟩):p:=h
theorem yU {p:Prop} (h:p:=by
 rcases b8 l φs (kn o.dst ψ known) h with ⟨i,o',h1,h2,h3⟩|h
 ·exact .inl ⟨i+1,o',by simpa using h1,h2,by simpa using h3⟩
 ·rw[iG] at h;by_cases hd:o.dst=some t
  ·rw[if_pos hd] at h;exact .inl ⟨0,o,rfl,hd,by simpa using h⟩
  ·rw[if_neg hd] at h;exact .inr h):p:=h
theorem yO {p:Prop} (h:p:=by
 intro j o ho e he;have hj:j<(front++back.toList).toArray.size:=(FG.1 ho).1;have:=GA.1 h4 j (List.mem_range.2 hj);rw[ho] at this;have:=Array.all_eq_true.1 this;obtain⟨k,hk,rfl⟩:=Array.mem_iff_getElem.1 he;simpa using this k hk):p:=h
theorem qK {p:Prop} (h:p:=by
 go_wp2;go_ret;exact⟨congrArg (fun z=>Ending.returned (.int .i64 z)) (HS.trans (by rw[FF af])),HB.out⟩):p:=h
theorem qI {p:Prop} (h:p:=by
 obtain⟨k0,k1,k2,k3,k4,k5⟩:=cs6 Bk;go_wp2;go_ret;exact ar.f (fun h=>by have:=HI2.2 h.2.1;cases this) HB.out):p:=h
theorem yK {p:Prop} (h:p:=by
 rw[FX,aw hg];have hj:j<n:=by have:=(Fm.1 hx).1;omega
 have e1:(cur.toList.take (n*1))[j]?=some (.string x):=by rw[htk];simp[hx]
 rw[FR,if_pos af] at e1;simpa using e1):p:=h
theorem qG {p:Prop} (h:p:=by
 obtain⟨k0,k1,k2,k3,k4,k5⟩:=cs6 Bk;go_wp2;go_ret;exact ar.f (fun h=>by have:=HI1.2 h.1;cases this) HB.out):p:=h
theorem yE {p:Prop} (h:p:=by
 cases d with
 | none=>simp[kn]
 | some d=>
  simp only[kn,Gw,List.lookup_cons]
  by_cases h:d=t
  ·subst h;simp
  ·rw[if_neg h]
   have:(t==d)=false:=by simpa using fun e=>h e.symm
   rw[this]):p:=h
theorem yC {p:Prop} (h:p:=by
 intro a w K h1 h2 h3 h4;have hw:GO o (yielded ops a.tmps)=true:=by simp[GO,hg]
 rw[if_pos hw];exact h a w K h1 h2 (fun t ht=>h3 t (by unfold Oper.looksAt;exact List.mem_append_left _ ht)) h4):p:=h
theorem yB {p:Prop} (h:p:=by
 intro _ _ i1 i2 p q hp hq hpd hqd hpi hqi;obtain⟨k1,hk1⟩:=hpi;obtain⟨i3,n,b1,b2,b3,b4⟩:=(hT.2.2.2.1.1 _ _ hp).2.resolve_left hpd;obtain⟨v,b5,b6⟩:=b4 k1 _ hk1;exact absurd rfl (j_ hT hx hxv b5)):p:=h
theorem yy {p:Prop} (h:p:=by
 obtain⟨h1,h2,h3,h5⟩:=h;refine⟨h1,h2,h3,?_⟩;rcases h5 with h5|⟨b,o,rfl,hlt,hc⟩
 ·exact Or.inl h5
 ·exact Or.inr ⟨b,o,rfl,FE hlt hb.size,fun j v hv=>(hc j v hv).below hlt hb⟩):p:=h
theorem mg {p:Prop} (h:p:=by
 obtain⟨l',rfl⟩:=List.getLast?_eq_some_iff.1 hb;rw[<-hf];simp):p:=h
theorem mf {p:Prop} (h:p:=by
 go_wp2;go_ret;exact⟨false,rfl,by unfold aO;simp;omega,rfl⟩):p:=h
theorem yq {p:Prop} (h:p:=by
 unfold Oper.wp execOp;simp only[ho,resolve,invoke,builtin,Sem.run_bind,Sem.run_pure,Result.andThen_ok,List.map_toArray,List.map_cons,List.map_nil,hs,hx,hr];exact hK _ _ (h v' w' h2 h3)):p:=h
theorem me {p:Prop} (h:p:=by
 clear HQ;go_wp2;go_ret;exact ar.t ⟨HQ1.out,HQ2.out⟩ HB.out):p:=h
theorem mb {p:Prop} (h:p:=by
 have:=GA.1 h2 o ho;rw[ht] at this;simpa using this):p:=h
theorem yk {p:Prop} (h:p:=by
 obtain rfl:pl=k:=af
 go_wp2;go_ret;exact ar.t (fun j t ht=>HQ.out j t sf ht) HB.out):p:=h
theorem yj {p:Prop} (h:p:=by
 by_cases e:j=k
 ·subst e;rw[HXp.out] at hz;obtain rfl:=Fq hz;exact fun h=>absurd h HP2.out
 ·exact HQ.out j z af hz):p:=h
theorem yf {p:Prop} (h:p:=by
 obtain⟨k0,k1,k2,k3,k4,k5⟩:=cs6 Bk;go_wp2;go_ret;exact ar.f (fun h=>by have:=HI5.2 h.2.2.2.2.1;cases this) HB.out):p:=h
theorem yd {p:Prop} (h:p:=by
 obtain⟨k0,k1,k2,k3,k4,k5⟩:=cs6 Bk;go_wp2;go_ret;exact ar.f (fun h=>by have:=HI6.2 h.2.2.2.2.2;cases this) HB.out):p:=h
theorem xZ {p:Prop} (h:p:=by
 go_wp2;go_ret;refine⟨true,rfl,?_,rfl⟩;simp only[true_iff];exact⟨by omega,by omega,fun i h=>HA.out i h af⟩):p:=h
theorem xX {p:Prop} (h:p:=by
 refine⟨i1,n,b1,b2,b3,fun q t ht=>?_⟩;obtain⟨v,b5,b6⟩:=b4 q t ht;exact⟨v,tI hT hx hxv hu hum b5,b6⟩):p:=h
theorem xQ {p:Prop} (h:p:=by
 have h1:=gX x.toList t.toList;rw[h] at h1;have h2:=bC (fun e=>hn e.symm);rw[h2] at h1;simpa using h1):p:=h
theorem xP {p:Prop} (h:p:=by
 refine⟨i1,n,b1,b2,b3,fun q r hr=>?_⟩;obtain⟨v,b5,b6⟩:=b4 q r hr;exact⟨v,tH hT hx hxv b5,b6⟩):p:=h
theorem xO {p:Prop} (h:p:=by
 subst e;rw[hx] at a1;obtain rfl:=Fq a1;exact cX.ne hT.2.1 _ _ a3 (a4.trans (a5.symm.trans hxv))):p:=h
theorem xM {p:Prop} (h:p:=by
 rcases h5 with h5|⟨b,o,rfl,hlt,hc⟩
 ·subst h5;simp at h1;omega
 ·exact⟨b,o,_,rfl,hlt,hx,hc j _ hx⟩):p:=h
theorem xK {p:Prop} (h:p:=by
 show _=_;rw[iD HX.out,if_neg (fun h=>by have:=HI.2 h;cases this),<-HS.out,Int.add_zero]):p:=h
theorem xJ {p:Prop} (h:p:=by
 rcases Nat.lt_or_ge b w.heap.size with h1|h1
 ·exact h1
 ·rw[Array.getElem?_eq_none h1] at h;cases h):p:=h
theorem xH {p:Prop} (h:p:=by
 rw[ht,fi,if_pos ⟨rfl,by rw[h.size];exact hin o (FZ ho) t ht⟩];exact hv):p:=h
theorem gd {p:Prop} (h:p:=by
 exact we):p:=h
theorem xz {p:Prop} (h:p:=by
 intro j o ho d hd i p hp hpd;have hj:j<front.length:=(Fm.1 ho).1;have hi:i<front.length:=(Fm.1 hp).1;have:=GA.1 h3 j (List.mem_range.2 hj);rw[ho] at this;have:=GA.1 this d hd;have:=GA.1 this i (List.mem_range.2 hi);rw[hp] at this;simp only[hpd,bne_self_eq_false,Bool.false_or,Gl,decide_eq_true_eq] at this;exact Ed):p:=h
theorem l8 {p:Prop} (h:p:=by
 refine Obl.plain rfl ?_;intro ac wg K hsz hW hf hK;clear hsz;have e5:=hf 5 aj;simp[ai,Fs] at e5;clear hf;exact aU):p:=h
theorem lZ {p:Prop} (h:p:=by
 refine Obl.plain rfl ?_;intro ac wg K hsz hW hf hK;clear hsz;have e3:=hf 3 aj;simp[ai,Fs] at e3;clear hf;exact aU):p:=h
theorem pY {p:Prop} (h:p:=by
 clear hf;obtain⟨x0,x1,x2,x3,x4⟩:=cs5 ((hW.block _ (ae BxW.out)).trans BxW.out);exact aU):p:=h
theorem xj {p:Prop} (h:p:=by
 obtain⟨h6,h7⟩:=this;obtain⟨k,hk,hx⟩:=Array.any_eq_true.1 h7;simp only[Gl,beq_iff_eq] at hx;exact⟨h6,_,Array.getElem_mem hk,hx.1,hx.2⟩):p:=h
theorem xi {p:Prop} (h:p:=by
 obtain⟨a',c',e,hR⟩:=h45.own ho4 hle.symm aj (fun g hg=>.inr (by have:=(ho4.lt g hg).1;omega));rw[hle] at e hR;rw[hj] at hR;exact⟨a',c',e,hR⟩):p:=h
theorem xg {p:Prop} (h:p:=by
 rintro e w1 ⟨r,rfl,hr,rfl⟩;go_wp2_with fail;go_ret;exact⟨r,rfl,⟨fun h=>⟨h0.out,h1.out,h2.out,hr.1 h⟩,fun h=>hr.2 h.2.2.2⟩,al _ _⟩):p:=h
theorem xb {p:Prop} (h:p:=by
 intro o ho i hi;subst ho;have:=GA.1 h5 i (List.mem_range.2 hi);obtain⟨k,hk,hx⟩:=Array.any_eq_true.1 this;exact sr):p:=h
theorem w_ {p:Prop} (h:p:=by
 rintro e w1 ⟨r,rfl,hr,rfl⟩;go_wp2_with fail;go_ret;exact⟨r,rfl,⟨fun h=>⟨h0.out,hr.1 h⟩,fun h=>hr.2 h.2⟩,al _ _⟩):p:=h
theorem wZ {p:Prop} (h:p:=by
 obtain rfl:=Fq hz;exact fun j s hs=>HQ2.out j s (by have h1:=(Fm.1 hs).1;have h2:=HVL.out;omega) hs):p:=h
theorem wY {p:Prop} (h:p:=by
 cases hd:o.dst with
 | none=>exact h1
 | some d=>
  rw[fi,if_neg (fun hx=>hne (hd.trans (by rw[hx.1])))];exact h1):p:=h
theorem wV {p:Prop} (h:p:=by
 intro j o ho e he hbe;have hj:j<(front++[s,t]).toArray.size:=(FG.1 ho).1;exact CH):p:=h
theorem wU {p:Prop} (h:p:=by
 go_wp2;go_ret;exact⟨false,rfl,⟨fun h=>bU,fun h=>absurd (h.2.2.2.2.2.1 rfl) hm0⟩,al _ _⟩):p:=h
theorem wO {p:Prop} (h:p:=by
 rcases hown.2 with ⟨rfl,_⟩|⟨g,cap,cur,rfl,_⟩
 ·exact⟨_,_,_,rfl⟩
 ·exact⟨_,_,_,rfl⟩):p:=h
theorem we {p:Prop} (h:p:=by
 refine Obl.plain rfl ?_;intro ac wg K hsz hW hf hK;clear hsz;have e1:=hf 1 aj;simp[ai,Fs] at e1;clear hf;exact aU):p:=h
theorem vS {p:Prop} (h:p:=by
 clear hf;obtain⟨v0,v1,v2,v3,v4,v5,v6,v7⟩:=cs8 ((hW.block _ (ae BvW.out)).trans BvW.out);exact aU):p:=h
theorem gJ {p:Prop} (h:p:=by
 have fr0:=av Br.out 0;have fr1:=av Br.out 1;have fr2:=av Br.out 2;have fr3:=av Br.out 3;have fr4:=av Br.out 4;have fr5:=av Br.out 5;exact Fo fr0 (Fo fr1 (Fo fr2 (Fo fr3 (Fo fr4 fr5))))):p:=h
theorem nO {p:Prop} (h:p:=by
 have HR:=aa hr;have hl1:c.ns.length=l1:=sh
 have hm1:l1<=9223372036854775807:=FA hr.n.2.1 hr.n.2.2.1;have hl3:c.vs.length=l3:=k8
 exact Fo HR (Fo hl1 (Fo hm1 hl3))):p:=h
theorem jN {p:Prop} (h:p:=by
 have hl5:c.ps.length=l5:=by simpa using (show (c.ps.map pdF).length=l5 from hr.p.1)
 have hm5:l5<=9223372036854775807:=FA hr.p.2.1 hr.p.2.2.1;exact Fo hl5 hm5):p:=h
theorem cM {p:Prop} (h:p:=by
 have HB1:=upB HW q1.b;have Ck:=upK Gk q1.b;exact Fo HB1 Ck):p:=h
theorem gK {p:Prop} (h:p:=by
 have HR:=aa hr;have HB:=aa (Fw w.heap.size w);exact Fo HR HB):p:=h
theorem nG {p:Prop} (h:p:=by
 have HB:=aa (BV.trans (HBW.mono BV.size));have Bk:=upK KV HBW.out;exact Fo HB Bk):p:=h
theorem BO {p:Prop} (h:p:=by
 have GV:Hid ((wr.alloc (.cells (vov v va vl vc) 99)).heap[wr.heap.size]?=some (.cells (vov v va vl vc) 99 (0,0))):=FD;have BV:=aa (HB.trans ((al wr (.cells (vov v va vl vc) 99)).mono HB.size));exact Fo GV BV):p:=h
theorem BK {p:Prop} (h:p:=by
 have Br:Hid (W.heap[w.heap.size+1]?=some (.cells (clo6 none 0 0 none 0 0 none 0 0 none 0 0 none 0 0 0) 36 (0,0))):=by rw[hW0];exact bE _ _ _
 have hWs:W.heap.size=w.heap.size+1+1:=by rw[hW0];simp
 exact Fo Br hWs):p:=h
theorem iT {p:Prop} (h:p:=by
 have HX:=aa hx;have HV:=aa hv;have HNE:=aa hne;exact Fo HX (Fo HV HNE)):p:=h
theorem uW {p:Prop} (h:p:=by
 have HR:=aa hr;have hl3:c.vs.length=l3:=k8
 exact Fo HR hl3):p:=h
end Go.Proofs.YtpejepeekdjfoaaGreatDoor
namespace Go.Proofs.YtpejepeekdjfoaaGreatDoor

end Go.Proofs.YtpejepeekdjfoaaGreatDoor

namespace Go.Proofs.YtpejepeekdjfoaaGreatDoor
open Go.RowKit

def kJ (b:Int):Bool:=decide (97<=b) && decide (b<=122)
def A9 (b:Int):Bool:=decide (48<=b) && decide (b<=57)
def nbB (b:Int):Bool:=kJ b || A9 b || decide (b=95)
def okB (i:Nat) (b:Int):Bool:=if i=0 then kJ b else nbB b
def aO (s:ByteArray):Prop:=1<=s.size/\s.size<=20/\∀i (h:i<s.size),okB i ((s[i]'h).toNat:Int)=true
def cK (p:Prop) (w:World) (e:Ending) (w':World):Prop:=∃r:Bool,e=.returned (.bool r)/\(r=true↔p)/\w=w'
theorem gU {s:ByteArray} {k:Nat} (hlt:k<s.size) (h:okB k ((s[k]'hlt).toNat:Int)=false):(false=true↔aO s):=by
 constructor
 ·intro h;cases h
 ·intro h3;have:=h3.2.2 k hlt;rw[h] at this;exact this
theorem ln {s:ByteArray} {k:Nat} (hlt:k<s.size) (h:okB k ((s[k]'hlt).toNat:Int)=true) (ha:∀i (h:i<s.size),i<k->okB i ((s[i]'h).toNat:Int)=true):
  ∀i (h:i<s.size),i<k+1->okB i ((s[i]'h).toNat:Int)=true:=by
 intro i hi hk;by_cases e:i=k
 ·subst e;exact h
 ·exact ha i hi af

def ay (w:World) (a:Option Addr) (len cap:Nat) (zs:List ByteArray):Prop:=
 zs.length=len/\len<=cap/\cap<=9223372036854775807/\(∀(j:Nat) x,zs[j]?=some x->x.size<=9223372036854775807)/\
 (zs=[]\/∃b o,a=some ⟨b,o,none⟩/\b<w.heap.size/\∀(j:Nat) x,zs[j]?=some x->w.cell? ⟨b,o+j,none⟩=some (.string x))
theorem ak {w w':World} (hb:Below w.heap.size w w') {b o:Nat} (h:b<w.heap.size):w'.cell? ⟨b,o,none⟩=w.cell? ⟨b,o,none⟩:=by
 simp[World.cell?,hb.block b h]
theorem ay.below {w w':World} {a:Option Addr} {len cap:Nat} {zs:List ByteArray} (h:ay w a len cap zs) (hb:Below w.heap.size w w'):ay w' a len cap zs:=by
 obtain⟨h1,h2,h3,h4,h5⟩:=h;refine⟨h1,h2,h3,h4,?_⟩;rcases h5 with h5|⟨b,o,rfl,hlt,hc⟩
 ·exact Or.inl h5
 ·exact Or.inr ⟨b,o,rfl,FE hlt hb.size,fun j x hx=>by rw[ak hb hlt];exact hc j x hx⟩
theorem ay.at {w:World} {a:Option Addr} {len cap:Nat} {zs:List ByteArray} (h:ay w a len cap zs) {k:Nat} (hk:k<len):
  ∃b o x,a=some ⟨b,o,none⟩/\b<w.heap.size/\zs[k]?=some x/\w.cell? ⟨b,o+k,none⟩=some (.string x)/\x.size<=9223372036854775807:=by
 obtain⟨h1,h2,h3,h4,h5⟩:=h;have hx:zs[k]?=some (zs[k]'(by omega)):=Fu _;rcases h5 with h5|⟨b,o,rfl,hlt,hc⟩
 ·subst h5;simp at h1;omega
 ·exact⟨b,o,_,rfl,hlt,hx,hc k _ hx,h4 k _ hx⟩

theorem fD:(Tryz.prog.info? 9).map (fun i=>(i.zero,i.size,i.bytes))=some (some (.string ⟨#[]⟩),1,16):=by kernel_rfl
theorem aA {w:World} {g i:Nat} {cs:Array Value} {t:TypeId} {fr:Nat×Nat} (h:w.heap[g]?=some (.cells cs t fr)) (v:Value):(w.setCell ⟨g,i,none⟩ v).heap[g]?=some (.cells (cs.setIfInBounds i v) t fr):=by
 obtain⟨hl,hh⟩:=FG.1 h;unfold Gf;simp[Array.getElem?_modify,h]
theorem bC {a b:ByteArray} (h:¬a=b):(a.toList==b.toList)=false:=by
 rw[beq_eq_false_iff_ne];intro e;rw[Hp,Hp] at e;exact h (by cases a;cases b;simp at e;rw[e])
def ar (p:Prop) (w:World) (e:Ending) (w':World):Prop:=∃r:Bool,e=.returned (.bool r)/\(r=true↔p)/\Below w.heap.size w w'

def fo (zs:List ByteArray):Prop:=∀(i:Nat) x,zs[i]?=some x->aO x/\∀y,0<i->zs[i - 1]?=some y->FB y.toList x.toList=true
def dD (zs:List ByteArray) (most:Int):Prop:=(zs.length:Int)<=most/\fo zs
theorem gX:∀x y:List UInt8,(FB y x || y==x)=!FB x y
 | [],[]=>by simp[FB]
 | _ ::_,[]=>by simp[FB]
 | [],_ ::_=>by simp[FB]
 | a ::x,b ::y=>by
  have ih:=gX x y;simp only[FB];rcases Nat.lt_trichotomy a.toNat b.toNat with h|h|h
  ·have h1:=He.2 h;have h2:¬b<a:=fun h'=>by have:=He.1 h';omega
   have h3:¬b=a:=fun h'=>by subst h';omega
   simp[h1,h2,h3]
  ·obtain rfl:a=b:=UInt8.toNat_inj.1 h;have h2:¬a<a:=fun h'=>by have:=He.1 h';omega
   simp[h2];simpa using ih
  ·have h1:=He.2 h;have h2:¬a<b:=fun h'=>by have:=He.1 h';omega
   have h3:¬a=b:=fun h'=>by subst h';omega
   simp[h1,h2,h3]

theorem cK.yes {p:Prop} {w w':World} {e:Ending} (h:cK p w e w') (hp:p):e=.returned (.bool true)/\w'=w:=by
 obtain⟨r,rfl,hr,rfl⟩:=h;exact⟨by rw[hr.2 hp],rfl⟩
theorem cK.no {p:Prop} {w w':World} {e:Ending} (h:cK p w e w') (hp:¬p):e=.returned (.bool false)/\w'=w:=by
 obtain⟨r,rfl,hr,rfl⟩:=h;cases r
 ·exact⟨rfl,rfl⟩
 ·exact absurd (hr.1 rfl) hp
theorem fo.step {zs:List ByteArray} {k:Nat} {x:ByteArray} (h:fo (zs.take k)) (hx:zs[k]?=some x) (hn:aO x) (hy:∀y,0<k->zs[k - 1]?=some y->FB y.toList x.toList=true):fo (zs.take (k+1)):=by
 intro i z hz;rw[FR] at hz;split at hz
 ·rename_i hi;by_cases e:i=k
  ·subst e;rw[hx] at hz;obtain rfl:=Fq hz;refine⟨hn,fun y h0 h1=>hy y h0 ?_⟩;rw[FR,if_pos af] at h1;exact h1
  ·have:=h i z (by rw[FR,if_pos af];exact hz);refine⟨this.1,fun y h0 h1=>this.2 y h0 ?_⟩;rw[FR,if_pos af] at h1 ⊢;exact h1
 ·cases hz

def cW (s:ByteArray):Prop:=s=⟨#[]⟩\/aO s
def Inn (n a b:Int):Prop:=a<=n/\n<=b

theorem aa {p:Prop} (h:p):Hid p:=h
theorem bc {s:ByteArray} (h:¬s=⟨#[]⟩):s.toList.isEmpty=false:=by
 have:=bC h;rw[Hp] at this ⊢;cases e:s.data.toList with
 | nil=>exact absurd (by cases s;simp at e;rw[e]) h
 | cons a l=>rfl
theorem sH:(⟨#[]⟩:ByteArray).toList.isEmpty=true:=by rw[Hp];rfl
theorem cE {w w1:World} {vs:Array Value} {T:TypeId} (hb:Below (w.alloc (.cells vs T)).heap.size (w.alloc (.cells vs T)) w1):
  w1.heap[w.heap.size]?=some (.cells vs T (0,0))/\Below w.heap.size w w1/\w.heap.size<w1.heap.size:=by
 have hs:(w.alloc (.cells vs T)).heap.size=w.heap.size+1:=aS
 have h1:=hb.size;refine⟨?_,?_,by omega⟩
 ·rw[hb.block _ af];show (w.heap.push _)[w.heap.size]?=_;simp
 ·exact ((Fw w.heap.size w).alloc (Ft _) _).trans (hb.mono af)
theorem aw {w:World} {b:Nat} {vs:Array Value} {T:TypeId} {f:Nat×Nat} (h:w.heap[b]?=some (.cells vs T f)) (i:Nat):w.cell? ⟨b,i,none⟩=vs[i]?:=by simp[World.cell?,h]
theorem ck0 {w:World} {b:Nat} {T:TypeId} {f:Nat×Nat} {v0:Value} {r:List Value} (h:w.heap[b]?=some (.cells (v0 ::r).toArray T f)):w.cell? ⟨b,0,none⟩=some v0:=aw h 0
theorem ck1 {w:World} {b:Nat} {T:TypeId} {f:Nat×Nat} {v0 v1:Value} {r:List Value} (h:w.heap[b]?=some (.cells (v0::v1 ::r).toArray T f)):w.cell? ⟨b,1,none⟩=some v1:=aw h 1
theorem ck2 {w:World} {b:Nat} {T:TypeId} {f:Nat×Nat} {v0 v1 v2:Value} {r:List Value} (h:w.heap[b]?=some (.cells (v0::v1::v2 ::r).toArray T f)):w.cell? ⟨b,2,none⟩=some v2:=aw h 2
theorem ck3 {w:World} {b:Nat} {T:TypeId} {f:Nat×Nat} {v0 v1 v2 v3:Value} {r:List Value} (h:w.heap[b]?=some (.cells (v0::v1::v2::v3 ::r).toArray T f)):w.cell? ⟨b,3,none⟩=some v3:=aw h 3
theorem ck4 {w:World} {b:Nat} {T:TypeId} {f:Nat×Nat} {v0 v1 v2 v3 v4:Value} {r:List Value} (h:w.heap[b]?=some (.cells (v0::v1::v2::v3::v4 ::r).toArray T f)):w.cell? ⟨b,4,none⟩=some v4:=aw h 4
theorem ck5 {w:World} {b:Nat} {T:TypeId} {f:Nat×Nat} {v0 v1 v2 v3 v4 v5:Value} {r:List Value} (h:w.heap[b]?=some (.cells (v0::v1::v2::v3::v4::v5 ::r).toArray T f)):w.cell? ⟨b,5,none⟩=some v5:=aw h 5
theorem ck6 {w:World} {b:Nat} {T:TypeId} {f:Nat×Nat} {v0 v1 v2 v3 v4 v5 v6:Value} {r:List Value} (h:w.heap[b]?=some (.cells (v0::v1::v2::v3::v4::v5::v6 ::r).toArray T f)):w.cell? ⟨b,6,none⟩=some v6:=aw h 6
theorem ck7 {w:World} {b:Nat} {T:TypeId} {f:Nat×Nat} {v0 v1 v2 v3 v4 v5 v6 v7:Value} {r:List Value} (h:w.heap[b]?=some (.cells (v0::v1::v2::v3::v4::v5::v6::v7 ::r).toArray T f)):w.cell? ⟨b,7,none⟩=some v7:=aw h 7
theorem al (w:World) (o:Obj):Below w.heap.size w (w.alloc o):=(Fw _ _).alloc (Ft _) o

def rR (n z:ByteArray) (c s u:Int) (zs:List ByteArray):Prop:=aO n/\aO z/\Inn c 0 1000000/\Inn s 0 8/\Inn u 0 1000000/\dD zs 8
def ie (n z:ByteArray):Prop:=aO n/\cW z

def fJ (n:ByteArray) (z:Int) (k v:ByteArray):Prop:=aO n/\Inn z 1 1048576/\aO k/\cW v

def ep (d:ByteArray) (p:Int):Prop:=(p=0/\d=⟨#[]⟩)\/((p=1\/p=2)/\aO d)
def zY (n:ByteArray) (c:Int) (z:ByteArray) (zs:List ByteArray) (d:ByteArray) (p:Int):Prop:=aO n/\Inn c 0 1000000/\cW z/\dD zs 3/\ep d p
theorem eF (d:ByteArray):ep d 0↔d=⟨#[]⟩:=by unfold ep;simp
theorem gD {p:Int} (d:ByteArray) (h:p=1\/p=2):ep d p↔aO d:=by
 unfold ep;constructor
 ·rintro (⟨h1,_⟩|⟨_,h1⟩)
  ·omega
  ·exact h1
 ·exact fun h1=>Or.inr ⟨h,h1⟩
theorem mX {p:Int} {d:ByteArray} (h:p<0\/2<p):¬ep d p:=by
 unfold ep;rintro (⟨h1,_⟩|⟨h1,_⟩) <;> omega
theorem dP (s:ByteArray):s.toList.isEmpty=true↔s=⟨#[]⟩:=by
 constructor
 ·intro h;by_cases h0:s=⟨#[]⟩
  ·exact h0
  ·rw[bc h0] at h;cases h
 ·rintro rfl;exact sH

def sQ (n:ByteArray) (c:Int) (z k:ByteArray) (x:Bool) (m:ByteArray) (y:Bool) (zs:List ByteArray):Prop:=
 aO n/\Inn c 1 1048576/\aO z/\aO k/\cW m/\(y=true->m=⟨#[]⟩)/\dD zs (if x=true then 1 else 6)

theorem iE {zs:List ByteArray} {x:Bool} (h:dD zs (if x=true then 1 else 6)):dD zs 6:=by
 refine⟨?_,h.2⟩;have:=h.1;split at this <;> omega

theorem av {w:World} {b:Nat} {vs:Array Value} {T:TypeId} (h:w.heap[b]?=some (.cells vs T (0,0))) (i:Nat):w.frozen? ⟨b,i,none⟩=false:=by simp[World.frozen?,h]
theorem ay.copy {w:World} {b len:Nat} {zs:List ByteArray} {T:TypeId} (h:w.heap[b]?=some (.cells (zs.map FK).toArray T (0,0))) (hl:zs.length=len) (hl2:len<=1048576) (hs:∀(j:Nat) x,zs[j]?=some x->x.size<=9223372036854775807):
  ay w (some ⟨b,0,none⟩) len len zs:=by
 refine⟨hl,Ft _,by omega,hs,?_⟩;by_cases hz:zs=[]
 ·exact Or.inl hz
 refine Or.inr ⟨b,0,rfl,?_,fun j x hx=>?_⟩
 ·exact xJ
 ·rw[aw h];simp[hx]

theorem ah {w w1:World} {B b i:Nat} {v:Value} (hB:B<=b) (h:Below B w w1):Below B w (w1.setCell ⟨b,i,none⟩ v):=h.setCell hB v
theorem ae {w:World} {b:Nat} {o:Obj} (h:w.heap[b]?=some o):b<w.heap.size:=by
 exact xJ
theorem upK {w w':World} {k:Nat} {o:Obj} (h:Hid (w.heap[k]?=some o)) (hb:Below w.heap.size w w'):Hid (w'.heap[k]?=some o):=(hb.block _ (ae h)).trans h
theorem upB {w w1 w2:World} (h:Hid (Below w.heap.size w w1)) (hb:Below w1.heap.size w1 w2):Hid (Below w.heap.size w w2):=Below.trans h (hb.mono (Below.size h))
theorem sb1 {w w1:World} {i:Nat} {v:Value} (h:Below w.heap.size w w1):Below w.heap.size w (w1.setCell ⟨w.heap.size+1,i,none⟩ v):=ah (by omega) h
theorem sb2 {w w1:World} {i:Nat} {v:Value} (h:Below w.heap.size w w1):Below w.heap.size w (w1.setCell ⟨w.heap.size+1+1,i,none⟩ v):=ah (by omega) h
theorem sb3 {w w1:World} {i:Nat} {v:Value} (h:Below w.heap.size w w1):Below w.heap.size w (w1.setCell ⟨w.heap.size+1+1+1,i,none⟩ v):=ah (by omega) h
theorem cU (w:World) (o p:Obj):((w.alloc o).alloc p).heap[w.heap.size]?=some o:=by
 rw[Fy _ _ _ aS];exact FD
theorem bE (w:World) (o p:Obj):((w.alloc o).alloc p).heap[w.heap.size+1]?=some p:=by
 have h:w.heap.size+1=(w.alloc o).heap.size:=aS
 rw[h];exact FD
theorem fF (w:World) (o p q:Obj):(((w.alloc o).alloc p).alloc q).heap[w.heap.size]?=some o:=by
 rw[Fy _ _ _ bG,Fy _ _ _ aS];show (w.heap.push _)[w.heap.size]?=_;simp
theorem dC (w:World) (o p q:Obj):(((w.alloc o).alloc p).alloc q).heap[w.heap.size+1]?=some p:=by
 rw[Fy _ _ _ aS];have h:w.heap.size+1=(w.alloc o).heap.size:=aS
 rw[h];show ((w.alloc o).heap.push _)[(w.alloc o).heap.size]?=_;exact FD
theorem cS (w:World) (o p q:Obj):(((w.alloc o).alloc p).alloc q).heap[w.heap.size+1+1]?=some q:=by
 have h:w.heap.size+1+1=((w.alloc o).alloc p).heap.size:=aS
 rw[h];show (((w.alloc o).alloc p).heap.push _)[((w.alloc o).alloc p).heap.size]?=_;exact FD
theorem aF (w:World) (o p:Obj):Below w.heap.size w ((w.alloc o).alloc p):=(al w o).alloc (by simp) p
theorem bI (w:World) (o p q:Obj):Below w.heap.size w (((w.alloc o).alloc p).alloc q):=(aF w o p).alloc (by simp;omega) q
theorem a9 {a b:ByteArray} (h:a=b):(a.toList==b.toList)=true:=by rw[h];simp

theorem cs4 {w:World} {b:Nat} {T:TypeId} {v0 v1 v2 v3:Value} (h:w.heap[b]?=some (.cells #[v0,v1,v2,v3] T (0,0))):w.cell? ⟨b,0,none⟩=some v0/\w.cell? ⟨b,1,none⟩=some v1/\w.cell? ⟨b,2,none⟩=some v2/\w.cell? ⟨b,3,none⟩=some v3:=⟨aw h 0,aw h 1,aw h 2,aw h 3⟩
theorem cs5 {w:World} {b:Nat} {T:TypeId} {v0 v1 v2 v3 v4:Value} (h:w.heap[b]?=some (.cells #[v0,v1,v2,v3,v4] T (0,0))):w.cell? ⟨b,0,none⟩=some v0/\w.cell? ⟨b,1,none⟩=some v1/\w.cell? ⟨b,2,none⟩=some v2/\w.cell? ⟨b,3,none⟩=some v3/\w.cell? ⟨b,4,none⟩=some v4:=⟨aw h 0,aw h 1,aw h 2,aw h 3,aw h 4⟩
theorem cs6 {w:World} {b:Nat} {T:TypeId} {v0 v1 v2 v3 v4 v5:Value} (h:w.heap[b]?=some (.cells #[v0,v1,v2,v3,v4,v5] T (0,0))):w.cell? ⟨b,0,none⟩=some v0/\w.cell? ⟨b,1,none⟩=some v1/\w.cell? ⟨b,2,none⟩=some v2/\w.cell? ⟨b,3,none⟩=some v3/\w.cell? ⟨b,4,none⟩=some v4/\w.cell? ⟨b,5,none⟩=some v5:=⟨aw h 0,aw h 1,aw h 2,aw h 3,aw h 4,aw h 5⟩
theorem cs7 {w:World} {b:Nat} {T:TypeId} {v0 v1 v2 v3 v4 v5 v6:Value} (h:w.heap[b]?=some (.cells #[v0,v1,v2,v3,v4,v5,v6] T (0,0))):w.cell? ⟨b,0,none⟩=some v0/\w.cell? ⟨b,1,none⟩=some v1/\w.cell? ⟨b,2,none⟩=some v2/\w.cell? ⟨b,3,none⟩=some v3/\w.cell? ⟨b,4,none⟩=some v4/\w.cell? ⟨b,5,none⟩=some v5/\w.cell? ⟨b,6,none⟩=some v6:=⟨aw h 0,aw h 1,aw h 2,aw h 3,aw h 4,aw h 5,aw h 6⟩
theorem cs8 {w:World} {b:Nat} {T:TypeId} {v0 v1 v2 v3 v4 v5 v6 v7:Value} (h:w.heap[b]?=some (.cells #[v0,v1,v2,v3,v4,v5,v6,v7] T (0,0))):w.cell? ⟨b,0,none⟩=some v0/\w.cell? ⟨b,1,none⟩=some v1/\w.cell? ⟨b,2,none⟩=some v2/\w.cell? ⟨b,3,none⟩=some v3/\w.cell? ⟨b,4,none⟩=some v4/\w.cell? ⟨b,5,none⟩=some v5/\w.cell? ⟨b,6,none⟩=some v6/\w.cell? ⟨b,7,none⟩=some v7:=⟨aw h 0,aw h 1,aw h 2,aw h 3,aw h 4,aw h 5,aw h 6,aw h 7⟩
theorem dG (w:World) (o:Obj):(w.alloc o).heap.size=w.heap.size+1:=by simp
theorem aL {w w':World} {o:Obj} (h:Below (w.alloc o).heap.size (w.alloc o) w'):w'.heap[w.heap.size]?=some o/\Below w.heap.size w w':=by
 rw[dG] at h;exact⟨(h.block _ (Nat.lt_succ_self _)).trans (heap_alloc_new w o),(al w o).trans (h.mono (FV _))⟩
theorem cH {w w':World} {o p:Obj} (h:Below ((w.alloc o).alloc p).heap.size ((w.alloc o).alloc p) w'):w'.heap[w.heap.size]?=some o/\w'.heap[w.heap.size+1]?=some p/\Below w.heap.size w w':=by
 obtain⟨h1,h2⟩:=aL h;rw[dG] at h1;obtain⟨h3,h4⟩:=aL h2;exact⟨h3,h1,h4⟩

def Wd (W:World):Type:={ x:World // Below W.heap.size W x }
def Wd.w {W:World} (i:Wd W):World:=i.1
theorem Wd.b {W:World} (i:Wd W):Below W.heap.size W i.w:=i.2
theorem Wd.ne (W:World):Nonempty (Wd W):=⟨⟨W,Fw _ _⟩⟩
theorem Wd.cell {W:World} (i:Wd W) {b o:Nat} (h:b<W.heap.size):i.w.cell? ⟨b,o,none⟩=W.cell? ⟨b,o,none⟩:=ak i.b h
theorem Wd.heap {W:World} (i:Wd W) {b:Nat} (h:b<W.heap.size):i.w.heap[b]?=W.heap[b]?:=i.b.block b h
theorem Wd.slot {W:World} (i:Wd W) {b o:Nat} {vs:Array Value} {T:TypeId} {f:Nat×Nat} {v:Value} (h:W.heap[b]?=some (.cells vs T f)) (hv:vs[o]?=some v):i.w.cell? ⟨b,o,none⟩=some v:=by
 have hb:b<W.heap.size:=by
  rcases Nat.lt_or_ge b W.heap.size with h1|h1
  ·exact h1
  ·rw[Array.getElem?_eq_none h1] at h;cases h
 rw[i.cell hb,aw h,hv]

theorem sl1 {W:World} {b:Nat} {T:TypeId} {v0:Value} {r:List Value} (h:Hid (W.heap[b]?=some (.cells (v0 ::r).toArray T (0,0)))):(∀q:Wd W,q.w.cell? ⟨b,0,none⟩=some v0):=fun q=>q.slot h rfl
theorem sl2 {W:World} {b:Nat} {T:TypeId} {v0 v1:Value} {r:List Value} (h:Hid (W.heap[b]?=some (.cells (v0 ::v1 ::r).toArray T (0,0)))):(∀q:Wd W,q.w.cell? ⟨b,0,none⟩=some v0)/\(∀q:Wd W,q.w.cell? ⟨b,1,none⟩=some v1):=⟨fun q=>q.slot h rfl,fun q=>q.slot h rfl⟩
theorem sl3 {W:World} {b:Nat} {T:TypeId} {v0 v1 v2:Value} {r:List Value} (h:Hid (W.heap[b]?=some (.cells (v0 ::v1 ::v2 ::r).toArray T (0,0)))):(∀q:Wd W,q.w.cell? ⟨b,0,none⟩=some v0)/\(∀q:Wd W,q.w.cell? ⟨b,1,none⟩=some v1)/\(∀q:Wd W,q.w.cell? ⟨b,2,none⟩=some v2):=⟨fun q=>q.slot h rfl,fun q=>q.slot h rfl,fun q=>q.slot h rfl⟩
theorem sl4 {W:World} {b:Nat} {T:TypeId} {v0 v1 v2 v3:Value} {r:List Value} (h:Hid (W.heap[b]?=some (.cells (v0 ::v1 ::v2 ::v3 ::r).toArray T (0,0)))):(∀q:Wd W,q.w.cell? ⟨b,0,none⟩=some v0)/\(∀q:Wd W,q.w.cell? ⟨b,1,none⟩=some v1)/\(∀q:Wd W,q.w.cell? ⟨b,2,none⟩=some v2)/\(∀q:Wd W,q.w.cell? ⟨b,3,none⟩=some v3):=⟨fun q=>q.slot h rfl,fun q=>q.slot h rfl,fun q=>q.slot h rfl,fun q=>q.slot h rfl⟩
theorem sl5 {W:World} {b:Nat} {T:TypeId} {v0 v1 v2 v3 v4:Value} {r:List Value} (h:Hid (W.heap[b]?=some (.cells (v0 ::v1 ::v2 ::v3 ::v4 ::r).toArray T (0,0)))):(∀q:Wd W,q.w.cell? ⟨b,0,none⟩=some v0)/\(∀q:Wd W,q.w.cell? ⟨b,1,none⟩=some v1)/\(∀q:Wd W,q.w.cell? ⟨b,2,none⟩=some v2)/\(∀q:Wd W,q.w.cell? ⟨b,3,none⟩=some v3)/\(∀q:Wd W,q.w.cell? ⟨b,4,none⟩=some v4):=⟨fun q=>q.slot h rfl,fun q=>q.slot h rfl,fun q=>q.slot h rfl,fun q=>q.slot h rfl,fun q=>q.slot h rfl⟩
theorem sl6 {W:World} {b:Nat} {T:TypeId} {v0 v1 v2 v3 v4 v5:Value} {r:List Value} (h:Hid (W.heap[b]?=some (.cells (v0 ::v1 ::v2 ::v3 ::v4 ::v5 ::r).toArray T (0,0)))):(∀q:Wd W,q.w.cell? ⟨b,0,none⟩=some v0)/\(∀q:Wd W,q.w.cell? ⟨b,1,none⟩=some v1)/\(∀q:Wd W,q.w.cell? ⟨b,2,none⟩=some v2)/\(∀q:Wd W,q.w.cell? ⟨b,3,none⟩=some v3)/\(∀q:Wd W,q.w.cell? ⟨b,4,none⟩=some v4)/\(∀q:Wd W,q.w.cell? ⟨b,5,none⟩=some v5):=⟨fun q=>q.slot h rfl,fun q=>q.slot h rfl,fun q=>q.slot h rfl,fun q=>q.slot h rfl,fun q=>q.slot h rfl,fun q=>q.slot h rfl⟩
theorem sl7 {W:World} {b:Nat} {T:TypeId} {v0 v1 v2 v3 v4 v5 v6:Value} {r:List Value} (h:Hid (W.heap[b]?=some (.cells (v0 ::v1 ::v2 ::v3 ::v4 ::v5 ::v6 ::r).toArray T (0,0)))):(∀q:Wd W,q.w.cell? ⟨b,0,none⟩=some v0)/\(∀q:Wd W,q.w.cell? ⟨b,1,none⟩=some v1)/\(∀q:Wd W,q.w.cell? ⟨b,2,none⟩=some v2)/\(∀q:Wd W,q.w.cell? ⟨b,3,none⟩=some v3)/\(∀q:Wd W,q.w.cell? ⟨b,4,none⟩=some v4)/\(∀q:Wd W,q.w.cell? ⟨b,5,none⟩=some v5)/\(∀q:Wd W,q.w.cell? ⟨b,6,none⟩=some v6):=⟨fun q=>q.slot h rfl,fun q=>q.slot h rfl,fun q=>q.slot h rfl,fun q=>q.slot h rfl,fun q=>q.slot h rfl,fun q=>q.slot h rfl,fun q=>q.slot h rfl⟩
theorem sl8 {W:World} {b:Nat} {T:TypeId} {v0 v1 v2 v3 v4 v5 v6 v7:Value} {r:List Value} (h:Hid (W.heap[b]?=some (.cells (v0 ::v1 ::v2 ::v3 ::v4 ::v5 ::v6 ::v7 ::r).toArray T (0,0)))):(∀q:Wd W,q.w.cell? ⟨b,0,none⟩=some v0)/\(∀q:Wd W,q.w.cell? ⟨b,1,none⟩=some v1)/\(∀q:Wd W,q.w.cell? ⟨b,2,none⟩=some v2)/\(∀q:Wd W,q.w.cell? ⟨b,3,none⟩=some v3)/\(∀q:Wd W,q.w.cell? ⟨b,4,none⟩=some v4)/\(∀q:Wd W,q.w.cell? ⟨b,5,none⟩=some v5)/\(∀q:Wd W,q.w.cell? ⟨b,6,none⟩=some v6)/\(∀q:Wd W,q.w.cell? ⟨b,7,none⟩=some v7):=⟨fun q=>q.slot h rfl,fun q=>q.slot h rfl,fun q=>q.slot h rfl,fun q=>q.slot h rfl,fun q=>q.slot h rfl,fun q=>q.slot h rfl,fun q=>q.slot h rfl,fun q=>q.slot h rfl⟩
theorem ag {P:Program} {id:Nat} {Q:Exit->Act->World->Prop} {a:Act} {w:World} {l:List Oper} (hm:P.follows .mixedOrders=true) (hB:Region.lexB .any l.toArray=true)
  (h:wpQuiet P l.toArray (fun w'=> ∃i:Wd w,w'=i.w) (fun a'=> ∀w',(∃i:Wd w,w'=i.w)->Q .normal a' w') l a):(Hn id l.toArray true).wp P Q a w:=
 wp_region_quiet (C:=fun w'=> ∃i:Wd w,w'=i.w) hm hB ⟨⟨_,(Fw w.heap.size w).drew⟩,rfl⟩ iR

theorem Calls.wide {P:Program} {f:FuncId} {args:Array Value} {W:World} {i:Wd W} {v:Value} (h:Calls P f args i.w fun e w'=>e=.returned v/\Below i.w.heap.size i.w w'):Calls P f args i.w fun e w''=>e=.returned v/\∃j:Wd W,w''=j.w:=
 h.mono fun _ w' ⟨he,hb⟩=>⟨he,⟨w',i.b.trans (hb.mono i.b.size)⟩,rfl⟩
namespace Mk

end Mk
end Go.Proofs.YtpejepeekdjfoaaGreatDoor

namespace Go.Proofs.YtpejepeekdjfoaaGreatDoor
open Go.RowKit
namespace Rc
open Mk

inductive Fv where
 | s (b:ByteArray)
 | i (n:Int)
 | b (x:Bool)
 | l (zs:List ByteArray)
def Fv.val:Fv->Option Value
 | .s t=>some (.string t)
 | .i n=>some (.int .i64 n)
 | .b x=>some (.bool x)
 | .l _=>none
def Fv.Is (w:World):Fv->Value->Prop
 | .s t,v=>v=.string t/\t.size<=9223372036854775807
 | .i n,v=>v=.int .i64 n
 | .b x,v=>v=.bool x
 | .l zs,v=> ∃a len cap,v=.slice a len cap/\ay w a len cap zs
theorem Fv.Is.below {w w':World} {f:Fv} {v:Value} (h:f.Is w v) (hb:Below w.heap.size w w'):f.Is w' v:=by
 cases f with
 | l zs=>obtain⟨a,len,cap,h1,h2⟩:=h;exact⟨a,len,cap,h1,h2.below hb⟩
 | _=>exact h
def RAt (w:World) (b o:Nat) (r:List Fv):Prop:=∀(i:Nat) f,r[i]?=some f->∃v,w.cell? ⟨b,o+i,none⟩=some v/\f.Is w v
theorem RAt.below {w w':World} {b o:Nat} {r:List Fv} (h:RAt w b o r) (hl:b<w.heap.size) (hb:Below w.heap.size w w'):RAt w' b o r:=by
 intro i f hi;obtain⟨v,h1,h2⟩:=h i f hi;exact⟨v,(ak hb hl).trans h1,h2.below hb⟩
def aN (w:World) (a:Option Addr) (len cap m:Nat) (rs:List (List Fv)):Prop:=
 rs.length=len/\len<=cap/\cap<=9223372036854775807/\(rs=[]\/∃b o,a=some ⟨b,o,none⟩/\b<w.heap.size/\∀(j:Nat) r,rs[j]?=some r->RAt w b (o+j*m) r)
theorem aN.below {w w':World} {a:Option Addr} {len cap m:Nat} {rs:List (List Fv)} (h:aN w a len cap m rs) (hb:Below w.heap.size w w'):aN w' a len cap m rs:=by
 exact yy
theorem aN.at {w:World} {a:Option Addr} {len cap m:Nat} {rs:List (List Fv)} (h:aN w a len cap m rs) {j:Nat} (hj:j<len):
  ∃b o r,a=some ⟨b,o,none⟩/\b<w.heap.size/\rs[j]?=some r/\RAt w b (o+j*m) r:=by
 obtain⟨h1,h2,h3,h5⟩:=h;have hx:rs[j]?=some (rs[j]'(by omega)):=Fu _;exact xM
structure aC (S:Nat->Prop) (w w':World):Prop where
 os:w'.os=w.os
 tape:w'.tape=w.tape
 output:w'.output=w.output
 size:w.heap.size<=w'.heap.size
 block:∀k,k<w.heap.size->¬S k->w'.heap[k]?=w.heap[k]?
theorem aC.refl (S:Nat->Prop) (w:World):aC S w w:=⟨rfl,rfl,rfl,Ft _,fun _ _ _=>rfl⟩
theorem aC.trans {S:Nat->Prop} {a b c:World} (h:aC S a b) (k:aC S b c):aC S a c:=⟨k.os.trans h.os,k.tape.trans h.tape,k.output.trans h.output,FA h.size k.size,fun i hi hn=>(k.block i (FE hi h.size) hn).trans (h.block i hi hn)⟩
theorem aC.bZ {S:Nat->Prop} {w w':World} (k:Below w.heap.size w w'):aC S w w':=⟨k.os,k.tape,k.output,k.size,fun i hi _=>k.block i hi⟩
theorem aC.below {S:Nat->Prop} {a b c:World} (h:aC S a b) (k:Below b.heap.size b c):aC S a c:=h.trans (aC.bZ k)
theorem aC.set {S:Nat->Prop} {g i:Nat} {w w':World} {v:Value} (h:aC S w w') (h1:S g):aC S w (w'.setCell ⟨g,i,none⟩ v):=
 ⟨h.os,h.tape,h.output,by simpa[Gf] using h.size,fun k hk hn=>(Fp _ _ _ _ (show k≠g from fun e=>hn (e ▸ h1))).trans (h.block k hk hn)⟩
theorem aC.low {S:Nat->Prop} {X:Nat} {w w':World} (h:aC S w w') (hX:X<=w.heap.size) (hS:∀k,S k->X<=k):Below X w w':=⟨h.os,h.tape,h.output,h.size,fun k hk=>h.block k (FE hk hX) (fun s=>by have:=hS k s;omega)⟩

def oY (w:World) (h:Nat) (S:Nat->Prop) (g:Nat) (zs:List ByteArray) (v:Value):Prop:=
 ∃a len cap,v=.slice a len cap/\zs.length=len/\len<=cap/\cap<=9223372036854775807/\(∀(j:Nat) x,zs[j]?=some x->x.size<=9223372036854775807)/\
  (zs=[]\/(a=some ⟨h,0,none⟩/\S h/\¬h=g/\∃cu,w.heap[h]?=some (.cells cu 9 (0,0))/\∀(j:Nat) x,zs[j]?=some x->cu[j]?=some (.string x)))
theorem oY.row {w:World} {h:Nat} {S:Nat->Prop} {g:Nat} {zs:List ByteArray} {a:Option Addr} {len cap:Nat} (k:oY w h S g zs (.slice a len cap)):ay w a len cap zs:=by
 obtain⟨a',l',c',h1,h2,h3,h4,h5,h6⟩:=k;cases h1;refine⟨h2,h3,h4,h5,h6.imp id ?_⟩;rintro⟨q1,q2,q3,cu,q4,q5⟩;exact⟨h,0,q1,ae q4,fun j x hx=>by rw[FX,aw q4];exact q5 j x hx⟩
def Fv.Own (w:World) (h:Nat) (S:Nat->Prop) (g:Nat):Fv->Value->Prop
 | .s t,v=>v=.string t/\t.size<=9223372036854775807
 | .i n,v=>v=.int .i64 n
 | .b x,v=>v=.bool x
 | .l zs,v=>oY w h S g zs v
theorem Fv.Own.is {w:World} {h:Nat} {S:Nat->Prop} {g:Nat} {f:Fv} {v:Value} (k:f.Own w h S g v):f.Is w v:=by
 cases f with
 | l zs=>
  obtain⟨a,len,cap,h1,h2⟩:=k;exact⟨a,len,cap,h1,oY.row (h:=h) (S:=S) (g:=g) (h1 ▸ ⟨a,len,cap,h1,h2⟩)⟩
 | _=>exact k
structure dK (w:World) (g m:Nat) (T:TypeId) (rs:List (List Fv)) (S:Nat->Prop) (cur:Array Value) (H:Nat->Nat->Nat):Prop where
 blk:w.heap[g]?=some (.cells cur T (0,0))
 inS:S g
 len:∀(j:Nat) r,rs[j]?=some r->r.length=m
 cell:∀(j:Nat) r,rs[j]?=some r->∀(i:Nat) f,r[i]?=some f->∃v,cur[j*m+i]?=some v/\f.Own w (H j i) S g v
 inj:∀(j:Nat) r (i:Nat) zs (j':Nat) r' (i':Nat) zs',rs[j]?=some r->r[i]?=some (.l zs)->zs≠[]->rs[j']?=some r'->r'[i']?=some (.l zs')->zs'≠[]->H j i=H j' i'->j=j'/\i=i'
def az (w:World) (a:Option Addr) (len cap m:Nat) (T:TypeId) (rs:List (List Fv)) (S:Nat->Prop):Prop:=
 rs.length=len/\len<=cap/\cap<=9223372036854775807/\(rs=[]\/∃g cur H,a=some ⟨g,0,none⟩/\dK w g m T rs S cur H)
theorem dK.aM {w w':World} {g m:Nat} {T:TypeId} {rs:List (List Fv)} {S S':Nat->Prop} {cur:Array Value} {H:Nat->Nat->Nat} (h:dK w g m T rs S cur H) (hk:∀k,k<w.heap.size->S k->w'.heap[k]?=w.heap[k]?) (hs:∀k,k<w.heap.size->S k->S' k):dK w' g m T rs S' cur H:=by
 refine⟨(hk g (ae h.blk) h.inS).trans h.blk,hs g (ae h.blk) h.inS,h.len,fun j r hj i f hi=>?_,h.inj⟩;obtain⟨v,h1,h2⟩:=h.cell j r hj i f hi;refine⟨v,h1,?_⟩;cases f with
 | l zs=>
  obtain⟨a',l',c',h1,h2,h3,h4,h5,h6⟩:=h2;refine⟨a',l',c',h1,h2,h3,h4,h5,h6.imp id ?_⟩;rintro⟨q1,q2,q3,cu,q4,q5⟩;exact⟨q1,hs _ (ae q4) q2,q3,cu,(hk _ (ae q4) q2).trans q4,q5⟩
 | _=>exact h2
theorem az.aM {w w':World} {a:Option Addr} {len cap m:Nat} {T:TypeId} {rs:List (List Fv)} {S S':Nat->Prop} (h:az w a len cap m T rs S) (hk:∀k,k<w.heap.size->S k->w'.heap[k]?=w.heap[k]?) (hs:∀k,k<w.heap.size->S k->S' k):az w' a len cap m T rs S':=by
 obtain⟨h1,h2,h3,h4⟩:=h;refine⟨h1,h2,h3,h4.imp id ?_⟩;rintro⟨g,cur,H,h5,h6⟩;exact⟨g,cur,H,h5,h6.aM hk hs⟩
theorem az.below {w w':World} {a:Option Addr} {len cap m:Nat} {T:TypeId} {rs:List (List Fv)} {S:Nat->Prop} (h:az w a len cap m T rs S) (hb:Below w.heap.size w w'):az w' a len cap m T rs S:=h.aM (fun k hk _=>hb.block k hk) (fun _ _ s=>s)
theorem az.bA {w:World} {a:Option Addr} {len cap m:Nat} {T:TypeId} {rs:List (List Fv)} {S S':Nat->Prop} (h:az w a len cap m T rs S) (hs:∀k,k<w.heap.size->S k->S' k):az w a len cap m T rs S':=h.aM (fun _ _ _=>rfl) hs
theorem dK.rat {w:World} {g m:Nat} {T:TypeId} {rs:List (List Fv)} {S:Nat->Prop} {cur:Array Value} {H:Nat->Nat->Nat} (h:dK w g m T rs S cur H) {j:Nat} {r:List Fv} (hj:rs[j]?=some r):RAt w g (j*m) r:=by
 intro i f hi;obtain⟨v,h1,h2⟩:=h.cell j r hj i f hi;exact⟨v,(aw h.blk _).trans h1,h2.is⟩
theorem az.row {w:World} {a:Option Addr} {len cap m:Nat} {T:TypeId} {rs:List (List Fv)} {S:Nat->Prop} (h:az w a len cap m T rs S):aN w a len cap m rs:=by
 obtain⟨h1,h2,h3,h4⟩:=h;refine⟨h1,h2,h3,h4.imp id ?_⟩;rintro⟨g,cur,H,h5,h6⟩;exact⟨g,0,h5,ae h6.blk,fun j r hj=>by rw[FX];exact h6.rat hj⟩
theorem az.nil {w:World} (a:Option Addr) (cap m:Nat) (T:TypeId) (S:Nat->Prop) (h:cap<=9223372036854775807):az w a 0 cap m T [] S:=⟨rfl,Nat.zero_le _,h,.inl rfl⟩

theorem dQ {α:Type} {rs:List α} {j k:Nat} {r:α} (hj:j<rs.length):(rs.set j r)[k]?=if j=k then some r else rs[k]?:=by
 rw[Hg];by_cases h:j=k
 ·subst h;simp[hj]
 ·simp[h]
section
variable {g m:Nat} {T:TypeId} {S N:Nat->Prop} {w wr w2:World} {rs:List (List Fv)} {j:Nat} {r:List Fv}
end

section
variable {α:Type} (f:α->Int) (lt:α->α->Prop)
variable {f lt} {ms ls:List α} {k j:Nat} {x:α}
end

end Rc
end Go.Proofs.YtpejepeekdjfoaaGreatDoor

namespace Go.Proofs.YtpejepeekdjfoaaGreatDoor
open Go.RowKit

abbrev Fact:=Value->World->Prop
def Fact.bB (φ:Fact):Prop:=∀v w w',φ v w->Below w.heap.size w w'->φ v w'
theorem Fact.cw (c:Value):Fact.bB (fun v _=>v=c):=fun _ _ _ h _=>h

def ai (a0:Act) (known:List (Tmp×Fact)) (a:Act) (w:World) (t:Tmp):Prop:=
 match known.lookup t with
 | some φ=>φ (a.tmps.getD t undef) w
 | none=>a.tmps.getD t undef=a0.tmps.getD t undef

def Obl (P:Program) (ops:Array Oper) (Q:Exit->Act->World->Prop) (W:World) (a0:Act) (known:List (Tmp×Fact)) (o:Oper) (φ:Fact):Prop:=
 ∀(a:Act) (w:World) (K:Act->World->Prop),a.tmps.size=a0.tmps.size->Below W.heap.size W w->(∀t∈o.looksAt ops,ai a0 known a w t)->
  (∀v w',Below w.heap.size w w'->φ v w'->K (a.put o.dst v) w')->if GO o (yielded ops a.tmps)=true then o.wp P a w K Q else K (a.put o.dst undef) w

def eM (o:Oper):List Tmp:=o.op.operands.toList.filterMap fun | .tmp t=>some t|_=>none
theorem Obl.plain {P:Program} {ops:Array Oper} {Q:Exit->Act->World->Prop} {W:World} {a0:Act} {known:List (Tmp×Fact)} {o:Oper} {φ:Fact} (hg:o.guard=none)
  (h:∀(a:Act) (w:World) (K:Act->World->Prop),a.tmps.size=a0.tmps.size->Below W.heap.size W w->(∀t∈eM o,ai a0 known a w t)->(∀v w',Below w.heap.size w w'->φ v w'->K (a.put o.dst v) w')->o.wp P a w K Q):Obl P ops Q W a0 known o φ:=by
 exact yC

def eD (P:Program) (ops:Array Oper) (Q:Exit->Act->World->Prop) (back:Option Oper) (a:Act) (w:World):Prop:=
 match back with
 | none=>Q .normal a w
 | some o=> ∀K:Act->World->Prop,(∀a w,Q .normal a w->K a w)->if GO o (yielded ops a.tmps)=true then o.wp P a w K Q else K (a.put o.dst undef) w

def aE (a0:Act) (known:List (Tmp×Fact)) (x:Tmp->Value):Act:=known.foldr (fun p b=>b.put (some p.1) (x p.1)) a0
def Fin (P:Program) (ops:Array Oper) (Q:Exit->Act->World->Prop) (W:World) (a0:Act) (back:Option Oper) (known:List (Tmp×Fact)):Prop:=
 ∀(x:Tmp->Value) (w:World),Below W.heap.size W w->(∀p∈known,p.2 (x p.1) w)->eD P ops Q back (aE a0 known x) w

def kn (d:Option Tmp) (φ:Fact) (known:List (Tmp×Fact)):List (Tmp×Fact):=match d with|some t=>(t,φ) ::known|none=>known

def au (P:Program) (ops:Array Oper) (Q:Exit->Act->World->Prop) (W:World) (a0:Act) (back:Option Oper):List Oper->List (Tmp×Fact)->Prop
 | [],known=>Fin P ops Q W a0 back known
 | o ::rest,known=> ∃φ:Fact,φ.bB/\Obl P ops Q W a0 known o φ/\au P ops Q W a0 back rest (kn o.dst φ known)
theorem au.step {P:Program} {ops:Array Oper} {Q:Exit->Act->World->Prop} {W:World} {a0:Act} {back:Option Oper} {o:Oper} {rest:List Oper} {known:List (Tmp×Fact)} {t:Tmp} (φ:Fact) (hd:o.dst=some t) (hφ:φ.bB) (ho:Obl P ops Q W a0 known o φ)
  (h:au P ops Q W a0 back rest ((t,φ) ::known)):au P ops Q W a0 back (o ::rest) known:=⟨φ,hφ,ho,by rw[hd];exact h⟩
theorem au.an {P:Program} {ops:Array Oper} {Q:Exit->Act->World->Prop} {W:World} {a0:Act} {back:Option Oper} {o:Oper} {rest:List Oper} {known:List (Tmp×Fact)} {t:Tmp} (c:Value) (hd:o.dst=some t) (ho:Obl P ops Q W a0 known o (fun v _=>v=c))
  (h:au P ops Q W a0 back rest ((t,fun v _=>v=c) ::known)):au P ops Q W a0 back (o ::rest) known:=au.step _ hd (Fact.cw c) ho h
theorem au.done {P:Program} {ops:Array Oper} {Q:Exit->Act->World->Prop} {W:World} {a0:Act} {back:Option Oper} {known:List (Tmp×Fact)} (h:Fin P ops Q W a0 back known):au P ops Q W a0 back [] known:=h

def growB (n:Nat) (front:List Oper) (back:Option Oper):Bool:=
 let ops:=(front++back.toList).toArray
 decide ((front.filterMap (·.dst)).Nodup) && front.all (fun o=>match o.dst with|some t=>decide (t<n)|none=>true) &&
 (Gq front.length).all (fun j=>match front[j]? with
  | some o=>(o.looksAt ops).all (fun t=>(Gq front.length).all fun i=>match front[i]? with
    | some p=>p.dst !=some t || (decide (i<j) && o.after.any fun e=>e.on==i && F5 .any e)
    | none=>true)
  | none=>true) &&
 (Gq ops.size).all (fun j=>match ops[j]? with|some o=>o.after.all (fun e=>decide (e.on<j))|none=>true) &&
 (match back with|some o=>(Gq front.length).all (fun i=>o.after.any fun e=>e.on==i && F5 .any e)|none=>true)

section
variable {P:Program} {ops:Array Oper} {Q:Exit->Act->World->Prop} {W:World} {a0:Act} {back:Option Oper}

def knAll:List (Tmp×Fact)->List Oper->List Fact->List (Tmp×Fact)
 | known,o ::l,φ ::φs=>knAll (kn o.dst φ known) l φs
 | known,_,_=>known
theorem bW (known:List (Tmp×Fact)) (φs:List Fact):knAll known [] φs=known:=by cases φs <;> rfl

theorem au.spec:∀(l:List Oper) (known:List (Tmp×Fact)),au P ops Q W a0 back l known->∃φs:List Fact,φs.length=l.length/\
  (∀(i:Nat) (o:Oper) (φ:Fact),l[i]?=some o->φs[i]?=some φ->φ.bB/\Obl P ops Q W a0 (knAll known (l.take i) (φs.take i)) o φ)/\Fin P ops Q W a0 back (knAll known l φs)
 | [],known,h=>⟨[],rfl,fun i o φ h=>by simp at h,by rw[bW];exact h⟩
 | o ::l,known,h=>by
  exact vQ

theorem iG (d:Option Tmp) (φ:Fact) (known:List (Tmp×Fact)) (t:Tmp):(kn d φ known).lookup t=if d=some t then some φ else known.lookup t:=by
 exact yE

theorem b8:∀(l:List Oper) (φs:List Fact) (known:List (Tmp×Fact)) {t:Tmp} {φ:Fact},(knAll known l φs).lookup t=some φ->
  (∃(i:Nat) (o:Oper),l[i]?=some o/\o.dst=some t/\φs[i]?=some φ)\/known.lookup t=some φ
 | [],φs,known,t,φ,h=>by rw[bW] at h;exact .inr h
 | o ::l,[],known,t,φ,h=>.inr h
 | o ::l,ψ ::φs,known,t,φ,h=>by
  exact yU
theorem b_:∀(l:List Oper) (φs:List Fact) (known:List (Tmp×Fact)) {t:Tmp},(knAll known l φs).lookup t=none->
  known.lookup t=none/\∀(i:Nat) (o:Oper) (φ:Fact),l[i]?=some o->φs[i]?=some φ->o.dst≠some t
 | [],φs,known,t,h=>by rw[bW] at h;exact⟨h,fun i o φ h=>by simp at h⟩
 | o ::l,[],known,t,h=>⟨h,fun i o φ _ h=>by simp at h⟩
 | o ::l,ψ ::φs,known,t,h=>by
  exact CG
theorem dz:∀(l:List Oper) (φs:List Fact) (known:List (Tmp×Fact)) {p:Tmp×Fact},p∈knAll known l φs->
  (∃(i:Nat) (o:Oper),l[i]?=some o/\o.dst=some p.1/\φs[i]?=some p.2)\/p∈known
 | [],φs,known,p,h=>by rw[bW] at h;exact .inr h
 | o ::l,[],known,p,h=>.inr h
 | o ::l,ψ ::φs,known,p,h=>by
  exact CB

theorem fi (a:Act) (d t:Tmp) (v:Value):(a.put (some d) v).tmps.getD t undef=if d=t/\t<a.tmps.size then v else a.tmps.getD t undef:=by
 simp only[GI,Fx,FL];by_cases h:d=t
 ·subst h;by_cases h2:d<a.tmps.size
  ·simp[h2]
  ·simp[h2]
 ·simp[h]
theorem size_put (a:Act) (d:Option Tmp) (v:Value):(a.put d v).tmps.size=a.tmps.size:=by cases d <;> simp[GI]
theorem eQ (a:Act) (d:Option Tmp) (v:Value):(a.put d v).defers=a.defers:=by cases d <;> simp[GI]
theorem dj (a0:Act) (x:Tmp->Value):∀known,(aE a0 known x).tmps.size=a0.tmps.size
 | []=>rfl
 | p ::l=>by unfold aE;rw[List.foldr_cons,size_put];exact dj a0 x l
theorem dm (a0:Act) (x:Tmp->Value):∀known,(aE a0 known x).defers=a0.defers
 | []=>rfl
 | p ::l=>by unfold aE;rw[List.foldr_cons,eQ];exact dm a0 x l
theorem gQ (a0 a:Act) (known:List (Tmp×Fact)) (hk:∀p∈known,p.1<a0.tmps.size) (t:Tmp) (h:(∀p∈known,p.1≠t)->a.tmps.getD t undef=a0.tmps.getD t undef):
  (aE a0 known (fun t=>a.tmps.getD t undef)).tmps.getD t undef=a.tmps.getD t undef:=by
 exact CS
theorem Be {a b:Act} (hs:a.tmps.size=b.tmps.size) (hd:a.defers=b.defers) (h:∀t,a.tmps.getD t undef=b.tmps.getD t undef):a=b:=by
 cases a with|mk at_ ad=>cases b with|mk bt bd=>
 simp only at hs hd h;subst hd;congr 1;apply Array.ext hs;intro i h1 h2;have:=h i;simpa[Array.getD,h1,h2] using this

theorem bK {l:Array Bool} {i:Nat} (h:i<l.size):l.getD i false=l.getD i true:=by simp[Array.getD,h]

structure At (front:List Oper) (φs:List Fact) (W:World) (a0:Act) (listed:Array Bool) (a:Act) (w:World):Prop where
 size:a.tmps.size=a0.tmps.size
 defers:a.defers=a0.defers
 below:Below W.heap.size W w
 known:∀(i:Nat) (o:Oper) (φ:Fact),front[i]?=some o->φs[i]?=some φ->∀t,o.dst=some t->listed.getD i false=true->φ (a.tmps.getD t undef) w
 other:∀t,(∀(i:Nat) (o:Oper),front[i]?=some o->o.dst=some t->listed.getD i false=false)->a.tmps.getD t undef=a0.tmps.getD t undef

theorem eB:∀(l:List Oper),(l.filterMap (·.dst)).Nodup->∀{i j:Nat} {o p:Oper} {t:Tmp},l[i]?=some o->l[j]?=some p->o.dst=some t->p.dst=some t->i=j
 | [],_,i,j,o,p,t,h,_,_,_=>by simp at h
 | q ::l,hn,i,j,o,p,t,h1,h2,h3,h4=>by
  have hmem:∀{k:Nat} {r:Oper},l[k]?=some r->r.dst=some t->t∈l.filterMap (·.dst):=fun h h'=>List.mem_filterMap.2 ⟨_,FZ h,h'⟩;have hn':(l.filterMap (·.dst)).Nodup:=by
   rw[List.filterMap_cons] at hn;split at hn
   ·exact hn
   ·exact (List.nodup_cons.1 hn).2
  cases i with
  | zero=>
   simp only[F9,Gw] at h1;subst h1
   cases j with
   | zero=>rfl
   | succ j=>
    simp only[List.getElem?_cons_succ] at h2;rw[List.filterMap_cons,h3] at hn;exact absurd (hmem h2 h4) (List.nodup_cons.1 hn).1
  | succ i=>
   simp only[List.getElem?_cons_succ] at h1
   cases j with
   | zero=>
    simp only[F9,Gw] at h2;subst h2;rw[List.filterMap_cons,h4] at hn;exact absurd (hmem h1 h3) (List.nodup_cons.1 hn).1
   | succ j=>
    simp only[List.getElem?_cons_succ] at h2;rw[eB l hn' h1 h2 h3 h4]

theorem At.step {front:List Oper} {φs:List Fact} {listed:Array Bool} {a:Act} {w w':World} {j:Nat} {o:Oper} {φ:Fact} {v:Value} (h:At front φs W a0 listed a w)
  (hn:(front.filterMap (·.dst)).Nodup) (hin:∀o∈front,∀t,o.dst=some t->t<a0.tmps.size) (hmono:∀(i:Nat) (o:Oper) (φ:Fact),front[i]?=some o->φs[i]?=some φ->φ.bB)
  (ho:front[j]?=some o) (hφ:φs[j]?=some φ) (hj:j<listed.size) (hb:Below w.heap.size w w') (hv:φ v w'):At front φs W a0 (listed.setIfInBounds j true) (a.put o.dst v) w':=by
 refine⟨(size_put _ _ _).trans h.size,(eQ _ _ _).trans h.defers,h.below.trans (hb.mono h.below.size),?_,?_⟩
 ·intro i p ψ hp hψ t ht hl;by_cases e:j=i
  ·subst e;obtain rfl:o=p:=Fq (ho.symm.trans hp);obtain rfl:φ=ψ:=Fq (hφ.symm.trans hψ);exact xH
  ·have hl':listed.getD i false=true:=by
    simpa[Fx,FL,e] using hl
   have h1:=hmono i p ψ hp hψ _ _ _ (h.known i p ψ hp hψ t ht hl') hb;cases hd:o.dst with
   | none=>exact h1
   | some d=>
    rw[fi,if_neg (fun hx=>e (eB front hn ho hp (hd.trans (by rw[hx.1])) ht))];exact h1
 ·exact CQ

theorem cm {n:Nat} {front:List Oper} {back:Option Oper} (h:growB n front back=true):
  (front.filterMap (·.dst)).Nodup/\(∀o∈front,∀t,o.dst=some t->t<n)/\
  (∀(j:Nat) (o:Oper),front[j]?=some o->∀t∈o.looksAt (front++back.toList).toArray,∀(i:Nat) (p:Oper),front[i]?=some p->p.dst=some t->i<j/\∃e∈o.after,e.on=i/\F5 .any e=true)/\
  (∀(j:Nat) o,(front++back.toList).toArray[j]?=some o->∀e∈o.after,e.on<j)/\
  (∀o,back=some o->∀i,i<front.length->∃e∈o.after,e.on=i/\F5 .any e=true):=by
 unfold growB at h;simp only[Gl,decide_eq_true_eq] at h;obtain⟨⟨⟨⟨h1,h2⟩,h3⟩,h4⟩,h5⟩:=h;refine⟨h1,?_,?_,?_,?_⟩
 ·intro o ho t ht;exact mb
 ·exact xA
 ·exact yO
 ·exact xb

theorem ec {listed:Array Bool} (hs:listed.size=ops.size) (hlt:∀(j:Nat) o,ops[j]?=some o->∀e∈o.after,e.on<j) (hr:Ge .any ops listed=[]):∀i,i<ops.size->listed.getD i false=true:=by
 intro i;induction i using Nat.strongRecOn with
 | _ i ih=>
  intro hi
  cases hb:listed.getD i false with
  | true=>rfl
  | false=>
   have ho:ops[i]?=some ops[i]:=Array.getElem?_eq_getElem hi;have hm:i∈Ge .any ops listed:=mem_ready.2 ⟨by rw[<-bK af];exact hb,_,ho,fun e he _=>ih e.on (hlt i _ ho e he) (Nat.lt_trans (hlt i _ ho e he) hi)⟩;rw[hr] at hm
   cases hm

theorem dn {listed:Array Bool} (h:listed.toList.count false=0) (i:Nat) (hi:i<listed.size):listed.getD i false=true:=by
 have hm:listed[i]∈listed.toList:=aS
 cases hb:listed[i] with
 | true=>simp[Array.getD,hi,hb]
 | false=>
  rw[hb] at hm;exact absurd (List.count_pos_iff.2 hm) af
theorem count_set {listed:Array Bool} {i:Nat} (hi:i<listed.size) (hf:listed.getD i true=false):(listed.setIfInBounds i true).toList.count false+1=listed.toList.count false:=by
 have hb:listed[i]=false:=by simpa[Array.getD,hi] using hf
 have hm:false∈listed.toList:=by rw[<-hb];simp
 have hp:=List.count_pos_iff.2 hm;rw[Array.toList_setIfInBounds,List.count_set (by simpa using hi)];rw[Array.getElem_toList,hb];simp only[beq_self_eq_true,if_true,show (true==false)=false from rfl,Bool.false_eq_true,if_false];omega

theorem Fin.last {front:List Oper} {φs:List Fact} {listed:Array Bool} {a:Act} {w:World} (hf:Fin P ops Q W a0 back (knAll [] front φs)) (hlen:φs.length=front.length) (hin:∀o∈front,∀t,o.dst=some t->t<a0.tmps.size)
  (h:At front φs W a0 listed a w) (hall:∀i,i<front.length->listed.getD i false=true):eD P ops Q back a w:=by
 have h1:=hf (fun t=>a.tmps.getD t undef) w h.below (fun p hp=>by
  rcases dz front φs [] hp with ⟨i,o,h1,h2,h3⟩|h1
  ·exact h.known i o p.2 h1 h3 p.1 h2 (hall i (Fm.1 h1).1)
  ·simp at h1)
 exact C4

theorem bR {front:List Oper} {φs:List Fact} (hops:ops=(front++back.toList).toArray) (hB:growB a0.tmps.size front back=true) (hlen:φs.length=front.length)
  (hs:∀(i:Nat) (o:Oper) (φ:Fact),front[i]?=some o->φs[i]?=some φ->φ.bB/\Obl P ops Q W a0 (knAll [] (front.take i) (φs.take i)) o φ) (hf:Fin P ops Q W a0 back (knAll [] front φs)):
  ∀(fuel:Nat) (listed:Array Bool) (a:Act) (w:World),listed.size=ops.size->listed.toList.count false<=fuel->(∀o,back=some o->listed.getD front.length false=false)->At front φs W a0 listed a w->wpAny P .any ops Q fuel listed a w:=by
 obtain⟨hn,hin,hdep,hlt,hback⟩:=cm hB;rw[<-hops] at hdep hlt;have hsz:ops.size=front.length+back.toList.length:=by rw[hops];simp
 have hend:∀(listed:Array Bool) (a:Act) (w:World),listed.size=ops.size->(∀i,i<ops.size->listed.getD i false=true)->(∀o,back=some o->listed.getD front.length false=false)->At front φs W a0 listed a w->Q .normal a w:=by
  intro listed a w hz hall hb h;have h1:=hf.last hlen hin h (fun i hi=>hall i af);exact sx
 intro fuel;induction fuel with
 | zero=>
  intro listed a w hz hc hb h;have hall:∀i,i<ops.size->listed.getD i false=true:=fun i hi=>dn af i af;refine⟨?_,hend listed a w hz hall hb h⟩
  cases hr:Ge .any ops listed with
  | nil=>rfl
  | cons j js=>
   have hm:j∈Ge .any ops listed:=by rw[hr];simp
   obtain⟨h1,o,ho,-⟩:=mem_ready.1 hm;have hj:=(FG.1 ho).1;rw[<-bK af,hall j hj] at h1
   cases h1
 | succ fuel ih=>
  intro listed a w hz hc hb h;refine⟨fun hr=>hend listed a w hz (ec hz hlt hr) hb h,fun j hj=>?_⟩;obtain⟨hun,o,ho,hall⟩:=mem_ready.1 hj;have hjs:j<ops.size:=(FG.1 ho).1;have hcs:=count_set (listed:=listed) (i:=j) af hun
  by_cases hjf:j<front.length
  ·have hof:front[j]?=some o:=by rw[hops] at ho;simpa[FN hjf] using ho
   have hφ:φs[j]?=some (φs[j]'(by omega)):=Fu _;obtain⟨hm,hob⟩:=hs j o _ hof hφ
   have hfacts:∀t∈o.looksAt ops,ai a0 (knAll [] (front.take j) (φs.take j)) a w t:=by
    intro t ht;unfold ai
    cases hk:(knAll [] (front.take j) (φs.take j)).lookup t with
    | some φ=>
     rcases b8 _ _ _ hk with ⟨i,p,h1,h2,h3⟩|h1
     ·have hij:i<j:=by have:=(Fm.1 h1).1;simp at this;omega
      rw[FR,if_pos hij] at h1 h3;obtain⟨-,e,he,hon,hbi⟩:=hdep j o hof t ht i p h1 h2;have hl:=hall e he hbi;rw[hon] at hl;exact h.known i p φ h1 h3 t h2 hl
     ·simp at h1
    | none=>
     refine h.other t (fun i p hp hd=>?_)
     exfalso
     obtain⟨hij,-⟩:=hdep j o hof t ht i p hp hd;have hi:=(Fm.1 hp).1;exact (b_ _ _ _ hk).2 i p (φs[i]'(by omega)) kX k9 hd
   have h1:=hob a w (wpAny P .any ops Q fuel (listed.setIfInBounds j true)) h.size h.below hfacts (fun v w' hbw hv=>by
    refine ih _ _ _ fO af (fun o' ho'=>?_) (h.step hn hin (fun i o φ h1 h2=>(hs i o φ h1 h2).1) hof hφ af hbw hv);have h2:=hb o' ho'
    have e:¬j=front.length:=af
    simpa[Fx,FL,e] using h2)
   unfold wpOp;rw[ho]
   simp only
   split
   ·rename_i hw;rw[if_pos hw] at h1;exact .inl h1
   ·rename_i hw;rw[if_neg hw] at h1;exact h1
  ·cases hk:back with
   | none=>rw[hk] at hsz;simp at hsz;omega
   | some b=>
    have hjn:j=front.length:=by rw[hk] at hsz;simp at hsz;omega
    subst hjn
    have hob:o=b:=by
     rw[hops,hk] at ho
     simp at ho
     exact ho.symm
    subst hob
    have hfl:∀i,i<front.length->listed.getD i false=true:=fun i hi=>by
     obtain⟨e,he,hon,hbi⟩:=hback o hk i hi;have:=hall e he hbi
     rwa [hon] at this
    have h1:=hf.last hlen hin h hfl;rw[hk] at h1
    have h2:=h1 (wpAny P .any ops Q fuel (listed.setIfInBounds front.length true)) (fun a' w' hq=>by
     have hr:Ge .any ops (listed.setIfInBounds front.length true)=[]:=by
      cases hr:Ge .any ops (listed.setIfInBounds front.length true) with
      | nil=>rfl
      | cons i is=>
       have hm:i∈Ge .any ops (listed.setIfInBounds front.length true):=by rw[hr];simp
       obtain⟨h3,o',ho',-⟩:=mem_ready.1 hm;have hi:=(FG.1 ho').1
       exfalso
       by_cases e:front.length=i
       ·subst e
        simp[Fx,show front.length<listed.size from by omega] at h3
       ·have h4:=hfl i sb;rw[bK af] at h4
        simp[Fx,e] at h3 h4
        rw[h3] at h4
        cases h4
     cases fuel with
     | zero=>exact⟨hr,hq⟩
     | succ fuel=>exact⟨fun _=>hq,fun i hi=>by rw[hr] at hi;cases hi⟩)
    unfold wpOp;rw[ho]
    simp only
    split
    ·rename_i hw;rw[if_pos hw] at h2;exact .inl h2
    ·rename_i hw;rw[if_neg hw] at h2;exact h2
end

theorem a8 (n i:Nat):(Array.replicate n false).getD i false=false:=by
 rw[Fx,Array.getElem?_replicate];split <;> rfl
theorem bo {P:Program} {id:Nat} {Q:Exit->Act->World->Prop} {a0:Act} {W:World} {l:List Oper} {front:List Oper} {back:Option Oper} (hm:P.follows .mixedOrders=true) (hl:l=front++back.toList) (hB:growB a0.tmps.size front back=true)
  (h:au P l.toArray Q W a0 back front []):(Hn id l.toArray true).wp P Q a0 W:=by
 obtain⟨φs,hlen,hs,hf⟩:=au.spec _ _ h;refine wp_region_any hm (bR (by rw[hl]) hB hlen hs hf _ _ _ _ aS ?_ (fun o ho=>?_) ⟨rfl,rfl,(Fw _ _).drew,fun i o φ h1 h2 t ht hx=>?_,fun t _=>rfl⟩)
 ·exact lh
 ·exact a8 _ _
 ·rw[a8] at hx;cases hx
theorem aR {P:Program} {id:Nat} {Q:Exit->Act->World->Prop} {a0:Act} {W:World} {l:List Oper} {front:List Oper} {last:Oper} (hm:P.follows .mixedOrders=true) (hf:l.dropLast=front) (hb:l.getLast?=some last) (hB:growB a0.tmps.size front (some last)=true)
  (h:au P l.toArray Q W a0 (some last) front []):(Hn id l.toArray true).wp P Q a0 W:=by
 refine bo hm ?_ hB h;exact mg

structure Vd where
 n:ByteArray
 c:Int
 z:ByteArray
 k:ByteArray
 x:Bool
 m:ByteArray
 y:Bool
 zs:List ByteArray
def Vd.Fit (v:Vd):Prop:=v.n.size<=9223372036854775807/\v.z.size<=9223372036854775807/\v.k.size<=9223372036854775807/\v.m.size<=9223372036854775807
def Vd.At (v:Vd) (w:World) (b o:Nat):Prop:=v.Fit/\∃a len cap,ay w a len cap v.zs/\
 w.cell? ⟨b,o,none⟩=some (.string v.n)/\w.cell? ⟨b,o+1,none⟩=some (.int .i64 v.c)/\w.cell? ⟨b,o+2,none⟩=some (.string v.z)/\w.cell? ⟨b,o+3,none⟩=some (.string v.k)/\
 w.cell? ⟨b,o+4,none⟩=some (.bool v.x)/\w.cell? ⟨b,o+5,none⟩=some (.string v.m)/\w.cell? ⟨b,o+6,none⟩=some (.bool v.y)/\w.cell? ⟨b,o+7,none⟩=some (.slice a len cap)
theorem Vd.At.below {v:Vd} {w w':World} {b o:Nat} (h:v.At w b o) (hl:b<w.heap.size) (hb:Below w.heap.size w w'):v.At w' b o:=by
 obtain⟨hf,a,len,cap,hr,h0,h1,h2,h3,h4,h5,h6,h7⟩:=h;exact⟨hf,a,len,cap,hr.below hb,(ak hb hl).trans h0,(ak hb hl).trans h1,(ak hb hl).trans h2,(ak hb hl).trans h3,(ak hb hl).trans h4,(ak hb hl).trans h5,(ak hb hl).trans h6,(ak hb hl).trans h7⟩
def eE (w:World) (a:Option Addr) (len cap:Nat) (vs:List Vd):Prop:=
 vs.length=len/\len<=cap/\cap<=9223372036854775807/\
 (vs=[]\/∃b o,a=some ⟨b,o,none⟩/\b<w.heap.size/\∀(j:Nat) v,vs[j]?=some v->v.At w b (o+j*8))
theorem eE.below {w w':World} {a:Option Addr} {len cap:Nat} {vs:List Vd} (h:eE w a len cap vs) (hb:Below w.heap.size w w'):eE w' a len cap vs:=by
 exact yy
theorem eE.at {w:World} {a:Option Addr} {len cap:Nat} {vs:List Vd} (h:eE w a len cap vs) {j:Nat} (hj:j<len):
  ∃b o v,a=some ⟨b,o,none⟩/\b<w.heap.size/\vs[j]?=some v/\v.At w b (o+j*8):=by
 obtain⟨h1,h2,h3,h5⟩:=h;have hx:vs[j]?=some (vs[j]'(by omega)):=Fu _;exact xM

end Go.Proofs.YtpejepeekdjfoaaGreatDoor

namespace Go.Proofs.YtpejepeekdjfoaaGreatDoor
open Go.RowKit
namespace Rc
open Mk

structure Nd where
 n:ByteArray
 z:ByteArray
 c:Int
 s:Int
 u:Int
 d:Bool
 zs:List ByteArray

def ndF (x:Nd):List Fv:=[.s x.n,.s x.z,.i x.c,.i x.s,.i x.u,.b x.d,.l x.zs]
theorem aZ {w:World} {b o:Nat} {x:Nd} (h:RAt w b o (ndF x)):∃a len cap,ay w a len cap x.zs/\x.n.size<=9223372036854775807/\x.z.size<=9223372036854775807/\w.cell? ⟨b,o,none⟩=some (.string x.n)/\w.cell? ⟨b,o+1,none⟩=some (.string x.z)/\w.cell? ⟨b,o+2,none⟩=some (.int .i64 x.c)/\w.cell? ⟨b,o+3,none⟩=some (.int .i64 x.s)/\w.cell? ⟨b,o+4,none⟩=some (.int .i64 x.u)/\w.cell? ⟨b,o+5,none⟩=some (.bool x.d)/\w.cell? ⟨b,o+6,none⟩=some (.slice a len cap):=by
 obtain⟨v0,h0,rfl,z0⟩:=h 0 _ rfl;obtain⟨v1,h1,rfl,z1⟩:=h 1 _ rfl;obtain⟨v2,h2,rfl⟩:=h 2 _ rfl;obtain⟨v3,h3,rfl⟩:=h 3 _ rfl;obtain⟨v4,h4,rfl⟩:=h 4 _ rfl;obtain⟨v5,h5,rfl⟩:=h 5 _ rfl;obtain⟨v6,h6,a,len,cap,rfl,hr⟩:=h 6 _ rfl;exact⟨a,len,cap,hr,z0,z1,h0,h1,h2,h3,h4,h5,h6⟩
theorem cB {w:World} {a:Option Addr} {len cap:Nat} {xs:List Nd} (h:aN w a len cap 7 (xs.map ndF)) {j:Nat} (hj:j<len):
  ∃b o x,a=some ⟨b,o,none⟩/\b<w.heap.size/\xs[j]?=some x/\RAt w b (o+j*7) (ndF x):=by
 exact nX

structure Kd where
 n:ByteArray
 x:Bool
 y:Bool
 z:ByteArray

def kdF (x:Kd):List Fv:=[.s x.n,.b x.x,.b x.y,.s x.z]
theorem cf {w:World} {b o:Nat} {x:Kd} (h:RAt w b o (kdF x)):x.n.size<=9223372036854775807/\x.z.size<=9223372036854775807/\w.cell? ⟨b,o,none⟩=some (.string x.n)/\w.cell? ⟨b,o+1,none⟩=some (.bool x.x)/\w.cell? ⟨b,o+2,none⟩=some (.bool x.y)/\w.cell? ⟨b,o+3,none⟩=some (.string x.z):=by
 obtain⟨v0,h0,rfl,z0⟩:=h 0 _ rfl;obtain⟨v1,h1,rfl⟩:=h 1 _ rfl;obtain⟨v2,h2,rfl⟩:=h 2 _ rfl;obtain⟨v3,h3,rfl,z3⟩:=h 3 _ rfl;exact⟨z0,z3,h0,h1,h2,h3⟩
theorem eW {w:World} {a:Option Addr} {len cap:Nat} {xs:List Kd} (h:aN w a len cap 4 (xs.map kdF)) {j:Nat} (hj:j<len):
  ∃b o x,a=some ⟨b,o,none⟩/\b<w.heap.size/\xs[j]?=some x/\RAt w b (o+j*4) (kdF x):=by
 exact nX

def vdF (x:Vd):List Fv:=[.s x.n,.i x.c,.s x.z,.s x.k,.b x.x,.s x.m,.b x.y,.l x.zs]
theorem aK {w:World} {b o:Nat} {x:Vd} (h:RAt w b o (vdF x)):∃a len cap,ay w a len cap x.zs/\x.n.size<=9223372036854775807/\x.z.size<=9223372036854775807/\x.k.size<=9223372036854775807/\x.m.size<=9223372036854775807/\w.cell? ⟨b,o,none⟩=some (.string x.n)/\w.cell? ⟨b,o+1,none⟩=some (.int .i64 x.c)/\w.cell? ⟨b,o+2,none⟩=some (.string x.z)/\w.cell? ⟨b,o+3,none⟩=some (.string x.k)/\w.cell? ⟨b,o+4,none⟩=some (.bool x.x)/\w.cell? ⟨b,o+5,none⟩=some (.string x.m)/\w.cell? ⟨b,o+6,none⟩=some (.bool x.y)/\w.cell? ⟨b,o+7,none⟩=some (.slice a len cap):=by
 obtain⟨v0,h0,rfl,z0⟩:=h 0 _ rfl;obtain⟨v1,h1,rfl⟩:=h 1 _ rfl;obtain⟨v2,h2,rfl,z2⟩:=h 2 _ rfl;obtain⟨v3,h3,rfl,z3⟩:=h 3 _ rfl;obtain⟨v4,h4,rfl⟩:=h 4 _ rfl;obtain⟨v5,h5,rfl,z5⟩:=h 5 _ rfl;obtain⟨v6,h6,rfl⟩:=h 6 _ rfl;obtain⟨v7,h7,a,len,cap,rfl,hr⟩:=h 7 _ rfl;exact⟨a,len,cap,hr,z0,z2,z3,z5,h0,h1,h2,h3,h4,h5,h6,h7⟩
theorem bN {w:World} {a:Option Addr} {len cap:Nat} {xs:List Vd} (h:aN w a len cap 8 (xs.map vdF)) {j:Nat} (hj:j<len):
  ∃b o x,a=some ⟨b,o,none⟩/\b<w.heap.size/\xs[j]?=some x/\RAt w b (o+j*8) (vdF x):=by
 exact nX

structure Xd where
 n:ByteArray
 z:Int
 k:ByteArray
 x:Bool
 v:ByteArray

def xdF (x:Xd):List Fv:=[.s x.n,.i x.z,.s x.k,.b x.x,.s x.v]
theorem bw {w:World} {b o:Nat} {x:Xd} (h:RAt w b o (xdF x)):x.n.size<=9223372036854775807/\x.k.size<=9223372036854775807/\x.v.size<=9223372036854775807/\w.cell? ⟨b,o,none⟩=some (.string x.n)/\w.cell? ⟨b,o+1,none⟩=some (.int .i64 x.z)/\w.cell? ⟨b,o+2,none⟩=some (.string x.k)/\w.cell? ⟨b,o+3,none⟩=some (.bool x.x)/\w.cell? ⟨b,o+4,none⟩=some (.string x.v):=by
 obtain⟨v0,h0,rfl,z0⟩:=h 0 _ rfl;obtain⟨v1,h1,rfl⟩:=h 1 _ rfl;obtain⟨v2,h2,rfl,z2⟩:=h 2 _ rfl;obtain⟨v3,h3,rfl⟩:=h 3 _ rfl;obtain⟨v4,h4,rfl,z4⟩:=h 4 _ rfl;exact⟨z0,z2,z4,h0,h1,h2,h3,h4⟩
theorem dF {w:World} {a:Option Addr} {len cap:Nat} {xs:List Xd} (h:aN w a len cap 5 (xs.map xdF)) {j:Nat} (hj:j<len):
  ∃b o x,a=some ⟨b,o,none⟩/\b<w.heap.size/\xs[j]?=some x/\RAt w b (o+j*5) (xdF x):=by
 exact nX

structure Pd where
 n:ByteArray
 c:Int
 z:ByteArray
 zs:List ByteArray
 d:ByteArray
 p:Int

def pdF (x:Pd):List Fv:=[.s x.n,.i x.c,.s x.z,.l x.zs,.s x.d,.i x.p]
theorem aT {w:World} {b o:Nat} {x:Pd} (h:RAt w b o (pdF x)):∃a len cap,ay w a len cap x.zs/\x.n.size<=9223372036854775807/\x.z.size<=9223372036854775807/\x.d.size<=9223372036854775807/\w.cell? ⟨b,o,none⟩=some (.string x.n)/\w.cell? ⟨b,o+1,none⟩=some (.int .i64 x.c)/\w.cell? ⟨b,o+2,none⟩=some (.string x.z)/\w.cell? ⟨b,o+3,none⟩=some (.slice a len cap)/\w.cell? ⟨b,o+4,none⟩=some (.string x.d)/\w.cell? ⟨b,o+5,none⟩=some (.int .i64 x.p):=by
 obtain⟨v0,h0,rfl,z0⟩:=h 0 _ rfl;obtain⟨v1,h1,rfl⟩:=h 1 _ rfl;obtain⟨v2,h2,rfl,z2⟩:=h 2 _ rfl;obtain⟨v3,h3,a,len,cap,rfl,hr⟩:=h 3 _ rfl;obtain⟨v4,h4,rfl,z4⟩:=h 4 _ rfl;obtain⟨v5,h5,rfl⟩:=h 5 _ rfl;exact⟨a,len,cap,hr,z0,z2,z4,h0,h1,h2,h3,h4,h5⟩
theorem bY {w:World} {a:Option Addr} {len cap:Nat} {xs:List Pd} (h:aN w a len cap 6 (xs.map pdF)) {j:Nat} (hj:j<len):
  ∃b o x,a=some ⟨b,o,none⟩/\b<w.heap.size/\xs[j]?=some x/\RAt w b (o+j*6) (pdF x):=by
 exact nX

structure Cl where
 ns:List Nd
 ks:List Kd
 vs:List Vd
 xs:List Xd
 ps:List Pd
 now:Int
structure Cr where
 n:List (List Fv)
 k:List (List Fv)
 v:List (List Fv)
 x:List (List Fv)
 p:List (List Fv)
def Cl.raw (c:Cl):Cr:=⟨c.ns.map ndF,c.ks.map kdF,c.vs.map vdF,c.xs.map xdF,c.ps.map pdF⟩
structure Ad where
 a1:Option Addr
 l1:Nat
 c1:Nat
 a2:Option Addr
 l2:Nat
 c2:Nat
 a3:Option Addr
 l3:Nat
 c3:Nat
 a4:Option Addr
 l4:Nat
 c4:Nat
 a5:Option Addr
 l5:Nat
 c5:Nat
@[reducible] def clv (d:Ad) (n:Int):Array Value:=#[.slice d.a1 d.l1 d.c1,.slice d.a2 d.l2 d.c2,.slice d.a3 d.l3 d.c3,.slice d.a4 d.l4 d.c4,.slice d.a5 d.l5 d.c5,.int .i64 n]
@[reducible] def clo6 (a1:Option Addr) (l1 y1:Nat) (a2:Option Addr) (l2 y2:Nat) (a3:Option Addr) (l3 y3:Nat) (a4:Option Addr) (l4 y4:Nat) (a5:Option Addr) (l5 y5:Nat) (n:Int):Array Value:=#[.slice a1 l1 y1,.slice a2 l2 y2,.slice a3 l3 y3,.slice a4 l4 y4,.slice a5 l5 y5,.int .i64 n]
@[reducible] def trv (d:Ad) (c:Cl) (p:Pd) (n:Nd) (pa:Option Addr) (pl pc:Nat) (na:Option Addr) (nl nc:Nat):Array Value:=#[.slice d.a1 d.l1 d.c1,.slice d.a2 d.l2 d.c2,.slice d.a3 d.l3 d.c3,.slice d.a4 d.l4 d.c4,.slice d.a5 d.l5 d.c5,.int .i64 c.now,.string p.n,.int .i64 p.c,.string p.z,.slice pa pl pc,.string p.d,.int .i64 p.p,.string n.n,.string n.z,.int .i64 n.c,.int .i64 n.s,.int .i64 n.u,.bool n.d,.slice na nl nc]
@[reducible] def vov (v:Vd) (a:Option Addr) (l k:Nat):Array Value:=#[.string v.n,.int .i64 v.c,.string v.z,.string v.k,.bool v.x,.string v.m,.bool v.y,.slice a l k]
@[reducible] def pov (p:Pd) (a:Option Addr) (l k:Nat):Array Value:=#[.string p.n,.int .i64 p.c,.string p.z,.slice a l k,.string p.d,.int .i64 p.p]
@[reducible] def nov (n:Nd) (a:Option Addr) (l k:Nat):Array Value:=#[.string n.n,.string n.z,.int .i64 n.c,.int .i64 n.s,.int .i64 n.u,.bool n.d,.slice a l k]
@[reducible] def xov (x:Xd):Array Value:=#[.string x.n,.int .i64 x.z,.string x.k,.bool x.x,.string x.v]
structure aJ (w:World) (d:Ad) (c:Cr):Prop where
 n:aN w d.a1 d.l1 d.c1 7 c.n
 k:aN w d.a2 d.l2 d.c2 4 c.k
 v:aN w d.a3 d.l3 d.c3 8 c.v
 x:aN w d.a4 d.l4 d.c4 5 c.x
 p:aN w d.a5 d.l5 d.c5 6 c.p
theorem aJ.below {w w':World} {d:Ad} {c:Cr} (h:aJ w d c) (hb:Below w.heap.size w w'):aJ w' d c:=⟨h.n.below hb,h.k.below hb,h.v.below hb,h.x.below hb,h.p.below hb⟩
structure ft (w:World) (d:Ad) (c:Cr) (S:Nat->Prop) (P:Nat->Nat):Prop where
 n:az w d.a1 d.l1 d.c1 7 57 c.n (fun k=>S k/\P k=1)
 k:az w d.a2 d.l2 d.c2 4 102 c.k (fun k=>S k/\P k=2)
 v:az w d.a3 d.l3 d.c3 8 99 c.v (fun k=>S k/\P k=3)
 x:az w d.a4 d.l4 d.c4 5 105 c.x (fun k=>S k/\P k=4)
 p:az w d.a5 d.l5 d.c5 6 64 c.p (fun k=>S k/\P k=5)
def bQ (w:World) (d:Ad) (c:Cr) (S:Nat->Prop):Prop:=∃P,ft w d c S P
theorem ft.row {w:World} {d:Ad} {c:Cr} {S:Nat->Prop} {P:Nat->Nat} (h:ft w d c S P):aJ w d c:=⟨h.n.row,h.k.row,h.v.row,h.x.row,h.p.row⟩
theorem bQ.row {w:World} {d:Ad} {c:Cr} {S:Nat->Prop} (h:bQ w d c S):aJ w d c:=by obtain⟨P,h⟩:=h;exact h.row
end Rc
end Go.Proofs.YtpejepeekdjfoaaGreatDoor

namespace Go.Proofs.YtpejepeekdjfoaaGreatDoor
open Go.RowKit
namespace Rc

theorem db:∀x:List UInt8,FB x x=false
 | []=>rfl
 | a ::x=>by simp[FB,db x]
theorem cg:∀x y z:List UInt8,FB x y=true->FB y z=true->FB x z=true
 | _,[],_,h,_=>by cases ‹List UInt8› <;> simp[FB] at h
 | _,_ ::_,[],_,h=>by simp[FB] at h
 | [],_ ::_,_ ::_,_,_=>rfl
 | a ::x,b ::y,c ::z,h,k=>by
  simp only[FB,Bool.or_eq_true,decide_eq_true_eq,Gl,beq_iff_eq] at h k ⊢;rcases h with h|⟨rfl,h⟩
  ·rcases k with k|⟨rfl,k⟩
   ·exact .inl (UInt8.lt_trans h k)
   ·exact .inl h
  ·rcases k with k|⟨rfl,k⟩
   ·exact .inl k
   ·exact .inr ⟨rfl,cg x y z h k⟩
section
variable {α:Type} {nm:α->ByteArray} {xs:List α} {t:ByteArray}
def aP (nm:α->ByteArray) (xs:List α):Prop:=∀(j:Nat) x y,xs[j+1]?=some x->xs[j]?=some y->FB (nm y).toList (nm x).toList=true
theorem aP.lt (h:aP nm xs) {i j:Nat} {x y:α} (hij:i<j) (hi:xs[i]?=some x) (hj:xs[j]?=some y):FB (nm x).toList (nm y).toList=true:=by
 induction j generalizing y with
 | zero=>omega
 | succ j ih=>
  by_cases e:i=j
  ·subst e;exact h i y x hj hi
  ·have hl:j<xs.length:=by have:=(Fm.1 hj).1;omega
   have hz:xs[j]?=some (xs[j]'hl):=Fu _;exact cg _ _ _ (ih af hz) (h j y _ hj hz)
theorem aP.inj (h:aP nm xs) {i j:Nat} {x y:α} (hi:xs[i]?=some x) (hj:xs[j]?=some y) (e:nm x=nm y):i=j/\x=y:=by
 have hij:i=j:=by
  rcases Nat.lt_trichotomy i j with k|k|k
  ·have:=h.lt k hi hj;rw[e,db] at this;cases this
  ·exact k
  ·have:=h.lt k hj hi;rw[e,db] at this;cases this
 subst hij;rw[hi] at hj;exact⟨rfl,Fq hj⟩
def pl (nm:α->ByteArray) (xs:List α) (t:ByteArray):Nat:=xs.findIdx (fun x=> !FB (nm x).toList t.toList)
def hit (nm:α->ByteArray) (xs:List α) (t:ByteArray):Bool:=match xs[pl nm xs t]? with|some x=>(nm x).toList==t.toList|none=>false
theorem om {k:Nat} {x:α} (h:∀(j:Nat) y,j<k->xs[j]?=some y->FB (nm y).toList t.toList=true) (hx:xs[k]?=some x) (hl:FB (nm x).toList t.toList=false):pl nm xs t=k:=by
 have hk:k<xs.length:=(Fm.1 hx).1;have hxe:xs[k]=x:=(Fm.1 hx).2;unfold pl;rw[List.findIdx_eq hk];refine⟨by rw[hxe,hl];rfl,fun j hj=>?_⟩;rw[h j _ hj (Fu af)];rfl
theorem gg (h:∀(j:Nat) y,xs[j]?=some y->FB (nm y).toList t.toList=true):pl nm xs t=xs.length:=by
 unfold pl;rw[List.findIdx_eq_length];intro x hx;obtain⟨j,hj,rfl⟩:=List.mem_iff_getElem.1 hx;rw[h j _ (Fu hj)];rfl
theorem f_ {a b:ByteArray} (h:(a.toList==b.toList)=true):a=b:=by
 by_cases e:a=b
 ·exact e
 ·rw[bC e] at h;cases h
theorem cN (hr:aP nm xs) {j:Nat} {x:α} (hx:xs[j]?=some x) (hn:nm x=t):pl nm xs t=j/\hit nm xs t=true:=by
 have h:pl nm xs t=j:=om (fun i y hi hy=>by rw[<-hn];exact hr.lt hi hy hx) hx (by rw[hn];exact db _);refine⟨h,?_⟩;unfold hit;rw[h,hx];exact a9 hn
theorem dq (h:hit nm xs t=true):∃x,xs[pl nm xs t]?=some x/\nm x=t:=by
 unfold hit at h;split at h
 ·next x hx=>exact⟨x,hx,f_ h⟩
 ·cases h
def ed (ok:α->Prop) (nm:α->ByteArray) (xs:List α) (most:Int):Prop:=(xs.length:Int)<=most/\(∀(j:Nat) x,xs[j]?=some x->ok x)/\aP nm xs
end
theorem ar.t {p:Prop} {w w':World} (hp:p) (hb:Below w.heap.size w w'):ar p w (.returned (.bool true)) w':=⟨true,rfl,⟨fun _=>hp,fun _=>rfl⟩,hb⟩
theorem ar.f {p:Prop} {w w':World} (hp:¬p) (hb:Below w.heap.size w w'):ar p w (.returned (.bool false)) w':=⟨false,rfl,⟨fun h=>(by cases h),fun h=>absurd h hp⟩,hb⟩
def oA (x:Nd):Prop:=rR x.n x.z x.c x.s x.u x.zs
def ri (x:Kd):Prop:=ie x.n x.z
def pn (v:Vd):Prop:=sQ v.n v.c v.z v.k v.x v.m v.y v.zs
def pd (x:Xd):Prop:=fJ x.n x.z x.k x.v
def qO (x:Pd):Prop:=zY x.n x.c x.z x.zs x.d x.p

end Rc
end Go.Proofs.YtpejepeekdjfoaaGreatDoor

namespace Go.Proofs.YtpejepeekdjfoaaGreatDoor
open Go.RowKit

end Go.Proofs.YtpejepeekdjfoaaGreatDoor

namespace Go.Proofs.YtpejepeekdjfoaaGreatDoor
open Go.RowKit
namespace Rc
open Mk

theorem cV {s:ByteArray} (h:s=⟨#[]⟩):s.toList.isEmpty=true:=by rw[h];exact sH
def kN (c:Cl) (t s:ByteArray):Prop:=∃(i j:Nat) (x:Xd) (v:Vd),c.xs[i]?=some x/\x.n=t/\c.vs[j]?=some v/\v.n=s/\x.v=s/\v.m=t/\x.z<=v.c/\v.k=x.k/\v.x=x.x

def QV (c:Cl) (v:Vd):Prop:=hit Kd.n c.ks v.k=true/\(v.m=⟨#[]⟩\/kN c v.m v.n)
def QX (c:Cl) (x:Xd):Prop:=hit Kd.n c.ks x.k=true/\(x.v=⟨#[]⟩\/kN c x.n x.v)
def rU (c:Cl):Prop:=(∀(j:Nat) v,c.vs[j]?=some v->QV c v)/\(∀(j:Nat) x,c.xs[j]?=some x->QX c x)

def InL (zs:List ByteArray) (t:ByteArray):Prop:=∃j:Nat,zs[j]?=some t

def bJ (c:Cl) (t:ByteArray) (v:Vd):Prop:=∃(i j:Nat) (x:Xd),c.xs[i]?=some x/\x.n=t/\c.vs[j]?=some v/\v.n=x.v
def cpuOf (t:ByteArray):List Pd->Int
 | []=>0
 | p ::ps=>(if p.d=t then p.c else 0)+cpuOf t ps
theorem hQ (t:ByteArray):∀ps qs:List Pd,cpuOf t (ps++qs)=cpuOf t ps+cpuOf t qs
 | [],qs=>by simp[cpuOf]
 | p ::ps,qs=>by simp[cpuOf,hQ t ps];omega
theorem eR {t:ByteArray} {ps:List Pd} {k:Nat} {p:Pd} (h:ps[k]?=some p):cpuOf t (ps.take (k+1))=cpuOf t (ps.take k)+(if p.d=t then p.c else 0):=by
 rw[F6,h,hQ];simp[cpuOf]

def sU (c:Cl) (t:ByteArray):Prop:=∀(i j:Nat) p q,c.ps[i]?=some p->c.ps[j]?=some q->¬p.d=⟨#[]⟩->¬q.d=⟨#[]⟩->InL p.zs t->InL q.zs t->p.d=q.d

def frN (c:Cl) (n:Nd):Int:=n.c - cpuOf n.n c.ps

theorem bJ.inj {c:Cl} {t:ByteArray} {v v':Vd} (hx:aP Xd.n c.xs) (hv:aP Vd.n c.vs) (h:bJ c t v) (h':bJ c t v'):v=v':=by
 obtain⟨i,j,x,e1,e2,e3,e4⟩:=h;obtain⟨i',j',x',f1,f2,f3,f4⟩:=h';obtain⟨_,rfl⟩:=hx.inj e1 f1 (e2.trans f2.symm);exact (hv.inj e3 f3 (e4.trans f4.symm)).2
def C9 (c:Cl) (p:Pd):Prop:=∃(i:Nat) (n:Nd),c.ns[i]?=some n/\n.n=p.d/\(p.z=⟨#[]⟩\/p.z=n.z)/\∀(j:Nat) t,p.zs[j]?=some t->∃v,bJ c t v/\v.z=n.z
def EC (c:Cl) (p:Pd):Prop:=∃(i:Nat) (n:Nd),c.ns[i]?=some n/\n.n=p.d/\n.d=false/\∀(j:Nat) t,p.zs[j]?=some t->∃v,bJ c t v/\InL n.zs v.n
def ue (c:Cl) (n:Nd):Prop:=∀(j:Nat) t,n.zs[j]?=some t->∃(i:Nat) (v:Vd),c.vs[i]?=some v/\v.n=t/\(n.d=true\/InL v.zs n.n)

open Classical in
noncomputable def onOf (t:ByteArray):List Vd->Int
 | []=>0
 | v ::vs=>(if InL v.zs t then 1 else 0)+onOf t vs
theorem dH (t:ByteArray):∀vs us:List Vd,onOf t (vs++us)=onOf t vs+onOf t us
 | [],us=>by simp[onOf]
 | v ::vs,us=>by simp[onOf,dH t vs];omega
open Classical in
theorem iD {t:ByteArray} {vs:List Vd} {k:Nat} {v:Vd} (h:vs[k]?=some v):onOf t (vs.take (k+1))=onOf t (vs.take k)+(if InL v.zs t then 1 else 0):=by
 rw[F6,h,dH];simp[onOf]

def PQ1 (c:Cl) (p:Pd):Prop:=(∀(j:Nat) t,p.zs[j]?=some t->hit Xd.n c.xs t=true)/\(p.d=⟨#[]⟩\/C9 c p)
def PQ2 (c:Cl) (n:Nd):Prop:=cpuOf n.n c.ps<=n.c
def PQ3 (c:Cl) (v:Vd):Prop:=v.x=true->¬v.m=⟨#[]⟩->sU c v.m
def mH (c:Cl):Prop:=(∀(j:Nat) z,c.ps[j]?=some z->PQ1 c z)/\(∀(j:Nat) z,c.ns[j]?=some z->PQ2 c z)/\(∀(j:Nat) z,c.vs[j]?=some z->PQ3 c z)

def AQ1 (c:Cl) (v:Vd):Prop:=∀(j:Nat) t,v.zs[j]?=some t->∃(i:Nat) (n:Nd),c.ns[i]?=some n/\n.n=t/\n.z=v.z
def AQ2 (c:Cl) (n:Nd):Prop:=onOf n.n c.vs<=n.s
def lK (c:Cl):Prop:=(∀(j:Nat) z,c.vs[j]?=some z->AQ1 c z)/\(∀(j:Nat) z,c.ns[j]?=some z->AQ2 c z)

def MQ2 (c:Cl) (p:Pd):Prop:=p.p=2->EC c p
def kv (c:Cl):Prop:=(∀(j:Nat) z,c.ns[j]?=some z->ue c z)/\(∀(j:Nat) z,c.ps[j]?=some z->MQ2 c z)

def cX (c:Cl):Prop:=ed oA Nd.n c.ns 6/\ed ri Kd.n c.ks 8/\ed pn Vd.n c.vs 8/\ed pd Xd.n c.xs 8/\ed qO Pd.n c.ps 8
def aB (c:Cl):Prop:=Inn c.now 0 1000000/\cX c/\rU c/\mH c/\lK c/\kv c

theorem cX.ne {c:Cl} (h:cX c) (j:Nat) (v:Vd) (hv:c.vs[j]?=some v):¬v.n=⟨#[]⟩:=fun e=>by
 have h1:=(h.2.2.1.2.1 j v hv).1.1;rw[e] at h1;exact absurd h1 aj
theorem cX.EP {c:Cl} (h:cX c) (j:Nat) (p:Pd) (hp:c.ps[j]?=some p):0<=p.c/\p.c<=1000000:=(h.2.2.2.2.2.1 j p hp).2.1

end Rc
end Go.Proofs.YtpejepeekdjfoaaGreatDoor

namespace Go.Proofs.YtpejepeekdjfoaaGreatDoor
open Go.RowKit Go.Extern.Stop Go.Stop Go.Extern
namespace Rc

theorem bg {w:World} {b o:Nat} {v:Value} (h:w.cell? ⟨b,o,none⟩=some v):b<w.heap.size:=World.block_lt_of_cell? w _ h
def dA:Nat->Int
 | 0=>2
 | 1=>1
 | 2=>6
 | 3=>7
 | 4=>9
 | 5=>11
 | 6=>7
 | 7=>11
 | 8=>10
 | 9=>3
 | _=>0

end Rc
end Go.Proofs.YtpejepeekdjfoaaGreatDoor

namespace Go.Proofs.YtpejepeekdjfoaaGreatDoor
open Go.RowKit

end Go.Proofs.YtpejepeekdjfoaaGreatDoor

namespace Go.Proofs.YtpejepeekdjfoaaGreatDoor
open Go.RowKit
namespace Rc
open Mk

theorem Below.eY {B:Nat} {w w':World} (h:Below B w w'):Below B w w'.drew:=⟨h.os,h.tape,h.output,h.size,h.block⟩

theorem my:(Tryz.prog.info? 57).map (fun i=>(i.zero,i.size,i.bytes))=some (some (.agg #[.string ⟨#[]⟩,.string ⟨#[]⟩,.int .i64 0,.int .i64 0,.int .i64 0,.bool false,.slice none 0 0]),7,88):=by kernel_rfl

theorem rv:(Tryz.prog.info? 102).map (fun i=>(i.zero,i.size,i.bytes))=some (some (.agg #[.string ⟨#[]⟩,.bool false,.bool false,.string ⟨#[]⟩]),4,40):=by kernel_rfl

theorem gi:(Tryz.prog.info? 99).map (fun i=>(i.zero,i.size,i.bytes))=some (some (.agg #[.string ⟨#[]⟩,.int .i64 0,.string ⟨#[]⟩,.string ⟨#[]⟩,.bool false,.string ⟨#[]⟩,.bool false,.slice none 0 0]),8,112):=by kernel_rfl

theorem iJ:(Tryz.prog.info? 105).map (fun i=>(i.zero,i.size,i.bytes))=some (some (.agg #[.string ⟨#[]⟩,.int .i64 0,.string ⟨#[]⟩,.bool false,.string ⟨#[]⟩]),5,64):=by kernel_rfl

theorem iK:(Tryz.prog.info? 64).map (fun i=>(i.zero,i.size,i.bytes))=some (some (.agg #[.string ⟨#[]⟩,.int .i64 0,.string ⟨#[]⟩,.slice none 0 0,.string ⟨#[]⟩,.int .i64 0]),6,88):=by kernel_rfl

def LFr (w:World) (h:Nat) (S:Nat->Prop) (zs:List ByteArray) (v:Value):Prop:=
 ∃a len cap,v=.slice a len cap/\zs.length=len/\len<=cap/\cap<=9223372036854775807/\(∀(j:Nat) x,zs[j]?=some x->x.size<=9223372036854775807)/\
  (zs=[]\/(a=some ⟨h,0,none⟩/\S h/\∃cu,w.heap[h]?=some (.cells cu 9 (0,0))/\∀(j:Nat) x,zs[j]?=some x->cu[j]?=some (.string x)))
theorem LFr.aM {w w':World} {h:Nat} {S S':Nat->Prop} {zs:List ByteArray} {v:Value} (k:LFr w h S zs v) (hk:∀cu,S h->w.heap[h]?=some (.cells cu 9 (0,0))->w'.heap[h]?=w.heap[h]?) (hs:h<w.heap.size->S h->S' h):LFr w' h S' zs v:=by
 obtain⟨a',l',c',h1,h2,h3,h4,h5,h6⟩:=k;refine⟨a',l',c',h1,h2,h3,h4,h5,h6.imp id ?_⟩;rintro⟨q1,q2,cu,q4,q5⟩;exact⟨q1,hs (ae q4) q2,cu,(hk cu q2 q4).trans q4,q5⟩
def Fv.Fr (w:World) (h:Nat) (S:Nat->Prop):Fv->Value->Prop
 | .s t,v=>v=.string t/\t.size<=9223372036854775807
 | .i n,v=>v=.int .i64 n
 | .b x,v=>v=.bool x
 | .l zs,v=>LFr w h S zs v
theorem Fv.Fr.aM {w w':World} {h:Nat} {S S':Nat->Prop} {f:Fv} {v:Value} (k:f.Fr w h S v) (hk:∀cu,S h->w.heap[h]?=some (.cells cu 9 (0,0))->w'.heap[h]?=w.heap[h]?) (hs:h<w.heap.size->S h->S' h):f.Fr w' h S' v:=by
 cases f with
 | l zs=>exact LFr.aM k hk hs
 | _=>exact k
theorem Fv.Fr.own {w:World} {h g:Nat} {S:Nat->Prop} {f:Fv} {v:Value} {cur:Array Value} {T:TypeId} (k:f.Fr w h S v) (hg:w.heap[g]?=some (.cells cur T (0,0))) (hT:¬T=9):f.Own w h S g v:=by
 cases f with
 | l zs=>
  obtain⟨a',l',c',h1,h2,h3,h4,h5,h6⟩:=k;refine⟨a',l',c',h1,h2,h3,h4,h5,h6.imp id ?_⟩;rintro⟨q1,q2,cu,q4,q5⟩;refine⟨q1,q2,?_,cu,q4,q5⟩;rintro rfl;rw[hg] at q4
  cases q4
  exact hT rfl
 | _=>exact k
theorem Fv.Own.fr {w:World} {h g:Nat} {S:Nat->Prop} {f:Fv} {v:Value} (k:f.Own w h S g v):f.Fr w h S v:=by
 cases f with
 | l zs=>
  obtain⟨a',l',c',h1,h2,h3,h4,h5,h6⟩:=k;refine⟨a',l',c',h1,h2,h3,h4,h5,h6.imp id ?_⟩;rintro⟨q1,q2,q3,cu,q4,q5⟩;exact⟨q1,q2,cu,q4,q5⟩
 | _=>exact k
theorem Fv.Fr.one {w:World} {h:Nat} {S:Nat->Prop} {f:Fv} {v:Value} (k:f.Fr w h S v):v.oneCell'=true:=by
 cases f with
 | l zs=>obtain⟨a',l',c',rfl,_⟩:=k;rfl
 | s t=>obtain⟨rfl,_⟩:=k;rfl
 | i n=>cases (show v=.int .i64 n from k);rfl
 | b x=>cases (show v=.bool x from k);rfl

structure aX (w:World) (S:Nat->Prop) (m:Nat) (rs:List (List Fv)) (vss:List (List Value)) (H:Nat->Nat->Nat):Prop where
 len:vss.length=rs.length
 all:∀(j:Nat) vs,vss[j]?=some vs->vs.length=m
 rl:∀(j:Nat) r,rs[j]?=some r->r.length=m
 cell:∀(j:Nat) r vs,rs[j]?=some r->vss[j]?=some vs->∀(i:Nat) f,r[i]?=some f->∃v,vs[i]?=some v/\f.Fr w (H j i) S v
 inj:∀(j:Nat) r (i:Nat) zs (j':Nat) r' (i':Nat) zs',rs[j]?=some r->r[i]?=some (.l zs)->zs≠[]->rs[j']?=some r'->r'[i']?=some (.l zs')->zs'≠[]->H j i=H j' i'->j=j'/\i=i'

section
variable {w w':World} {S S':Nat->Prop} {m:Nat} {rs:List (List Fv)} {vss:List (List Value)} {H:Nat->Nat->Nat}
theorem aX.nil (w:World) (S:Nat->Prop) (m:Nat) (H:Nat->Nat->Nat):aX w S m [] [] H:=⟨rfl,fun j vs h=>by simp at h,fun j r h=>by simp at h,fun j r vs h=>by simp at h,fun j r i zs j' r' i' zs' h=>by simp at h⟩
theorem aX.aM (h:aX w S m rs vss H) (hk:∀k cu,S k->w.heap[k]?=some (.cells cu 9 (0,0))->w'.heap[k]?=w.heap[k]?) (hs:∀k,k<w.heap.size->S k->S' k):aX w' S' m rs vss H:=
 ⟨h.len,h.all,h.rl,fun j r vs h1 h2 i f h3=>by
  obtain⟨v,h4,h5⟩:=h.cell j r vs h1 h2 i f h3;exact⟨v,h4,h5.aM (hk _) (hs _)⟩,h.inj⟩
theorem aX.below (h:aX w S m rs vss H) (hb:Below w.heap.size w w'):aX w' S m rs vss H:=h.aM (fun k _ _ q=>hb.block k (ae q)) (fun _ _ s=>s)
theorem aX.grown (h:aX w S m rs vss H) {base n:Nat} {T:TypeId} {v:Value} {xs:List Value} (ho:w.ownsRow base T m v n xs) (hT:¬T=9) (hg:w.grownBy w' v.ownBlock):aX w' S m rs vss H:=by
 refine h.aM (fun k cu _ q=>hg.block k (ae q) (fun e=>?_)) (fun _ _ s=>s);rcases ho.2 with ⟨rfl,_⟩|⟨g,cap,cur,rfl,_,hgg,_⟩
 ·cases e
 ·cases e;simp only[] at q;rw[hgg] at q;cases q;exact hT rfl
theorem aX.lt (h:aX w S m rs vss H) {j:Nat} {r:List Fv} {i:Nat} {zs:List ByteArray} (h1:rs[j]?=some r) (h2:r[i]?=some (.l zs)) (h3:zs≠[]):H j i<w.heap.size:=by
 have hj:j<vss.length:=by rw[h.len];exact (Fm.1 h1).1
 obtain⟨v,_,a,len,cap,_,_,_,_,_,h9⟩:=h.cell j r _ h1 (Fu hj) i _ h2;rcases h9 with h9|⟨_,_,cu,q4,_⟩
 ·exact absurd h9 h3
 ·exact ae q4
theorem aX.Fi (h:aX w S m rs vss H) {rs':List (List Fv)} {vss':List (List Value)} (f:Nat->Nat) (hl:vss'.length=rs'.length) (hr:∀j,j<rs'.length->rs'[j]?=rs[f j]?) (hv:∀j,j<rs'.length->vss'[j]?=vss[f j]?)
  (hf:∀j j',j<rs'.length->j'<rs'.length->f j=f j'->j=j'):aX w S m rs' vss' (fun j=>H (f j)):=by
 have lt1:∀{j:Nat} {r},rs'[j]?=some r->j<rs'.length:=fun h=>(Fm.1 h).1;have lt2:∀{j:Nat} {r},vss'[j]?=some r->j<rs'.length:=fun h=>by rw[<-hl];exact (Fm.1 h).1
 refine⟨hl,fun j vs h1=>h.all (f j) vs (by rw[<-hv j (lt2 h1)];exact h1),fun j r h1=>h.rl (f j) r (by rw[<-hr j (lt1 h1)];exact h1),fun j r vs h1 h2=>h.cell (f j) r vs (by rw[<-hr j (lt1 h1)];exact h1) (by rw[<-hv j (lt1 h1)];exact h2),?_⟩;intro j r i zs j' r' i' zs' h1 h2 h3 h4 h5 h6 h7;obtain⟨e1,e2⟩:=h.inj (f j) r i zs (f j') r' i' zs' (by rw[<-hr j (lt1 h1)];exact h1) h2 h3 (by rw[<-hr j' (lt1 h4)];exact h4) h5 h6 h7;exact⟨hf j j' (lt1 h1) (lt1 h4) e1,e2⟩
theorem aX.push (h:aX w S m rs vss H) {r:List Fv} {vs:List Value} {hh:Nat->Nat} (hr:r.length=m) (hvs:vs.length=m) (hc:∀(i:Nat) f,r[i]?=some f->∃v,vs[i]?=some v/\f.Fr w (hh i) S v)
  (hn:∀(i:Nat) zs,r[i]?=some (.l zs)->zs≠[]->∀(j:Nat) r' (i':Nat) zs',rs[j]?=some r'->r'[i']?=some (.l zs')->zs'≠[]->¬H j i'=hh i)
  (h1:∀(i i':Nat) zs zs',r[i]?=some (.l zs)->zs≠[]->r[i']?=some (.l zs')->zs'≠[]->i=i'):
  aX w S m (rs++[r]) (vss++[vs]) (fun j=>if j=rs.length then hh else H j):=by
 have at1:∀{α:Type} {l:List α} {x y:α} {j:Nat},(l++[x])[j]?=some y->(j=l.length/\y=x)\/(j<l.length/\l[j]?=some y):=by
  intro α l x y j hj;by_cases e:j<l.length
  ·rw[FN e] at hj;exact .inr ⟨e,hj⟩
  ·rw[List.getElem?_append_right af] at hj;rcases Nat.eq_zero_or_pos (j - l.length) with e0|e0
   ·rw[e0] at hj;exact .inl ⟨by omega,by simpa using hj.symm⟩
   ·exact vG
 refine⟨by simp[h.len],fun j v hv=>?_,fun j r' hj=>?_,fun j r' v hj hv i f hf=>?_,fun j r1 i zs j' r2 i' zs' a1 a2 a3 b1 b2 b3 e=>?_⟩
 ·rcases at1 hv with ⟨_,rfl⟩|⟨_,hv⟩
  ·exact hvs
  ·exact h.all j v hv
 ·rcases at1 hj with ⟨_,rfl⟩|⟨_,hj⟩
  ·exact hr
  ·exact h.rl j r' hj
 ·rcases at1 hj with ⟨e1,rfl⟩|⟨e1,hj⟩
  ·rcases at1 hv with ⟨_,rfl⟩|⟨e2,hv⟩
   ·simp only[e1,if_true];exact hc i f hf
   ·have:=h.len;omega
  ·rcases at1 hv with ⟨e2,rfl⟩|⟨e2,hv⟩
   ·have:=h.len;omega
   ·simp only[if_neg (show¬j=rs.length by omega)];exact h.cell j r' v hj hv i f hf
 ·rcases at1 a1 with ⟨e1,rfl⟩|⟨e1,a4⟩ <;> rcases at1 b1 with ⟨e2,rfl⟩|⟨e2,b4⟩
  ·exact⟨by omega,h1 _ _ _ _ a2 a3 b2 b3⟩
  ·simp only[e1,if_true,if_neg (show¬j'=rs.length by omega)] at e;exact absurd e.symm (hn i zs a2 a3 j' r2 i' zs' b4 b2 b3)
  ·simp only[e2,if_true,if_neg (show¬j=rs.length by omega)] at e;exact absurd e (hn i' zs' b2 b3 j r1 i zs a4 a2 a3)
  ·simp only[if_neg (show¬j=rs.length by omega),if_neg (show¬j'=rs.length by omega)] at e;exact h.inj j r1 i zs j' r2 i' zs' a4 a2 a3 b4 b2 b3 e
end

theorem fH {α:Type} {m:Nat} :∀{vss:List (List α)},(∀(j:Nat) vs,vss[j]?=some vs->vs.length=m)->∀{j:Nat} {vs:List α} {i:Nat} {u:α},vss[j]?=some vs->vs[i]?=some u->vss.flatten[j*m+i]?=some u
 | [],_,j,vs,i,u,h,_=>by simp at h
 | x ::vss,hl,0,vs,i,u,h,hu=>by
  obtain rfl:x=vs:=iR
  have hx:=hl 0 x rfl;have hi:=(Fm.1 hu).1;rw[Hh,FN af,Nat.zero_mul,FX];exact hu
 | x ::vss,hl,j+1,vs,i,u,h,hu=>by
  have hx:=hl 0 x rfl;rw[Hh,List.getElem?_append_right (by rw[hx,Nat.succ_mul];omega),hx,show (j+1)*m+i - m=j*m+i by rw[Nat.succ_mul];omega];exact fH (fun j' vs' h'=>hl (j'+1) vs' (by simpa using h')) iR hu
theorem g8 {α:Type} {m:Nat} :∀{vss:List (List α)},(∀(j:Nat) vs,vss[j]?=some vs->vs.length=m)->∀{k:Nat} {u:α},vss.flatten[k]?=some u->∃(j i:Nat) (vs:List α),vss[j]?=some vs/\vs[i]?=some u/\k=j*m+i
 | [],_,k,u,h=>by simp at h
 | x ::vss,hl,k,u,h=>by
  have hx:=hl 0 x rfl;rw[Hh] at h;by_cases e:k<m
  ·rw[FN af] at h;exact⟨0,k,x,rfl,h,by omega⟩
  ·rw[List.getElem?_append_right af,hx] at h;obtain⟨j,i,vs,h1,h2,h3⟩:=g8 (fun j' vs' h'=>hl (j'+1) vs' (by simpa using h')) h;exact⟨j+1,i,vs,by simpa using h1,h2,by rw[Nat.succ_mul];omega⟩
theorem dr {α:Type} {m:Nat} :∀{vss:List (List α)},(∀(j:Nat) vs,vss[j]?=some vs->vs.length=m)->vss.flatten.length=vss.length*m
 | [],_=>by simp
 | x ::vss,hl=>by
  have hx:=hl 0 x rfl;rw[Hh,F7,dr (fun j' vs' h'=>hl (j'+1) vs' (by simpa using h')),hx,G0,Nat.succ_mul];omega
theorem aX.one {w:World} {S:Nat->Prop} {m:Nat} {rs:List (List Fv)} {vss:List (List Value)} {H:Nat->Nat->Nat} (h:aX w S m rs vss H):∀u∈vss.flatten,u.oneCell'=true:=by
 intro u hu;obtain⟨k,hk,rfl⟩:=List.mem_iff_getElem.1 hu;obtain⟨j,i,vs,h1,h2,_⟩:=g8 h.all (Fu hk);have hj:j<rs.length:=by rw[<-h.len];exact (Fm.1 h1).1
 have hr:=Fu hj;have hi:i<(rs[j]).length:=by rw[h.rl j _ hr,<-h.all j vs h1];exact (Fm.1 h2).1
 obtain⟨v,h3,h4⟩:=h.cell j _ vs hr h1 i _ (Fu hi);rw[h2] at h3;cases h3;exact h4.one

theorem aX.own {w:World} {S:Nat->Prop} {m:Nat} {T:TypeId} {rs:List (List Fv)} {vss:List (List Value)} {H:Nat->Nat->Nat} (h:aX w S m rs vss H) {base n:Nat} {v:Value} (ho:w.ownsRow base T m v n vss.flatten) (hn:n=rs.length) (hT:¬T=9) (hS:∀g,v.ownBlock=some g->S g):
  ∃a cap,v=.slice a rs.length cap/\az w a rs.length cap m T rs S:=by
 subst hn;rcases ho.2 with ⟨rfl,h0⟩|⟨g,cap,cur,rfl,_,hgg,h1,h2,h3,h4⟩
 ·obtain rfl:rs=[]:=GJ h0;exact⟨none,0,rfl,az.nil _ _ _ _ _ af⟩
 ·refine⟨_,cap,rfl,rfl,h1,by unfold maxLen at h2;omega,.inr ⟨g,cur,H,rfl,hgg,hS g rfl,h.rl,fun j r hj i f hi=>?_,h.inj⟩⟩;have hjl:j<vss.length:=by rw[h.len];exact (Fm.1 hj).1
  have hv:=Fu hjl;obtain⟨u,h5,h6⟩:=h.cell j r _ hj hv i f hi;have h7:=fH h.all hv h5;rw[<-h4,FR] at h7;split at h7
  ·exact⟨u,by simpa using h7,h6.own hgg hT⟩
  ·cases h7
theorem az.lU {w:World} {S:Nat->Prop} {m:Nat} {T:TypeId} {a:Option Addr} {len cap:Nat} {rs:List (List Fv)} (h:az w a len cap m T rs S):
  ∃vss H,aX w S m rs vss H/\∀(k:Nat) u,vss.flatten[k]?=some u->∃g,a=some ⟨g,0,none⟩/\S g/\w.cell? ⟨g,k,none⟩=some u:=by
 obtain⟨h1,h2,h3,h4⟩:=h;rcases h4 with rfl|⟨g,cur,H,rfl,h5⟩
 ·exact⟨[],fun _ _=>0,aX.nil _ _ _ _,fun k u hu=>by simp at hu⟩
 ·have hget:∀(j i:Nat),((Gq rs.length).map fun j=>(Gq m).map fun i=>cur.getD (j*m+i) undef)[j]?=if j<rs.length then some ((Gq m).map fun i=>cur.getD (j*m+i) undef) else none:=by
   intro j _;rw[FC];split
   ·next e=>rw[List.getElem?_range e];rfl
   ·next e=>rw[List.getElem?_eq_none (by simpa using e)];rfl
  have hval:∀(j:Nat) r,rs[j]?=some r->∀(i:Nat),i<m->∃f v,r[i]?=some f/\cur[j*m+i]?=some v/\f.Own w (H j i) S g v/\((Gq m).map fun i=>cur.getD (j*m+i) undef)[i]?=some v:=by
   intro j r hr i hi;have hl:=h5.len j r hr;have hf:=Fu (l:=r) (i:=i) af;obtain⟨v,q1,q2⟩:=h5.cell j r hr i _ hf;refine⟨_,v,hf,q1,q2,?_⟩;rw[FC,List.getElem?_range hi];simp[Fx,q1]
  have hvrecs:aX w S m rs ((Gq rs.length).map fun j=>(Gq m).map fun i=>cur.getD (j*m+i) undef) H:=by
   refine⟨by simp,fun j vs hv=>?_,h5.len,fun j r vs hr hv i f hf=>?_,h5.inj⟩
   ·rw[hget j 0] at hv;split at hv
    ·cases hv;simp
    ·cases hv
   ·rw[hget j 0,if_pos (Fm.1 hr).1] at hv;cases hv;have hi:i<m:=by rw[<-h5.len j r hr];exact (Fm.1 hf).1
    obtain⟨f',v,q1,q2,q3,q4⟩:=hval j r hr i hi;rw[hf] at q1;cases q1;exact⟨v,q4,q3.fr⟩
  refine⟨_,H,hvrecs,fun k u hu=>⟨g,rfl,h5.inS,?_⟩⟩;obtain⟨j,i,vs,e1,e2,rfl⟩:=g8 hvrecs.all hu;rw[hget j 0] at e1;split at e1
  ·next e=>
   cases e1;have hi:i<m:=by have:=(Fm.1 e2).1;simpa using this
   obtain⟨f',v,q1,q2,q3,q4⟩:=hval j _ (Fu e) i hi;rw[e2] at q4;cases q4;exact (aw h5.blk _).trans q2
  ·cases e1

def Bw (y W:World):Prop:=Below y.heap.size y W
theorem Bw.refl (y:World):Bw y y:=Fw _ _
theorem Bw.below {y W W':World} (h:Bw y W) (hb:Below W.heap.size W W'):Bw y W':=Below.trans h (hb.mono (Below.size h))
theorem Bw.out {y W:World} (h:Bw y W):Below y.heap.size y W:=h
def cA (w:World) (a:Option Addr) (l c:Nat) (zs:List ByteArray) (S:Nat->Prop):Prop:=
 ay w a l c zs/\(zs=[]\/∃g cur,a=some ⟨g,0,none⟩/\S g/\w.heap[g]?=some (.cells cur 9 (0,0)))
theorem cA.aM {w w':World} {a:Option Addr} {l c:Nat} {zs:List ByteArray} {S S':Nat->Prop} (h:cA w a l c zs S) (hk:∀k,k<w.heap.size->S k->w'.heap[k]?=w.heap[k]?) (hs:∀k,k<w.heap.size->S k->S' k):cA w' a l c zs S':=by
 obtain⟨⟨h1,h2,h3,h4,h5⟩,h6⟩:=h;rcases h6 with rfl|⟨g,cur,rfl,hS,hg⟩
 ·exact⟨⟨h1,h2,h3,h4,.inl rfl⟩,.inl rfl⟩
 ·have hg':=(hk g (ae hg) hS).trans hg;refine⟨⟨h1,h2,h3,h4,h5.imp id ?_⟩,.inr ⟨g,cur,rfl,hs g (ae hg) hS,hg'⟩⟩;rintro⟨b,o,e,hlt,hc⟩;cases e;exact⟨g,0,rfl,ae hg',fun j x hx=>by have:=hc j x hx;rw[aw hg] at this;rw[aw hg'];exact this⟩
theorem cA.below {w w':World} {a:Option Addr} {l c:Nat} {zs:List ByteArray} {S:Nat->Prop} (h:cA w a l c zs S) (hb:Below w.heap.size w w'):cA w' a l c zs S:=h.aM (fun k hk _=>hb.block k hk) (fun _ _ s=>s)
theorem cA.bA {w:World} {a:Option Addr} {l c:Nat} {zs:List ByteArray} {S S':Nat->Prop} (h:cA w a l c zs S) (hs:∀k,k<w.heap.size->S k->S' k):cA w a l c zs S':=h.aM (fun _ _ _=>rfl) hs
theorem cA.row {w:World} {a:Option Addr} {l c:Nat} {zs:List ByteArray} {S:Nat->Prop} (h:cA w a l c zs S):ay w a l c zs:=h.1
theorem cA.j8 {w:World} {base n:Nat} {v:Value} {zs:List ByteArray} (h:w.ownsRow base 9 1 v n (zs.map FK)) (hs:∀(j:Nat) x,zs[j]?=some x->x.size<=9223372036854775807):∃a c,v=.slice a n c/\cA w a n c zs (fun k=>base<=k):=by
 obtain⟨hl,h⟩:=h;have hl':zs.length=n:=by simpa using hl
 rcases h with ⟨rfl,rfl⟩|⟨g,cap,cur,rfl,hbg,hg,hnc,hcm,hsz,htk⟩
 ·obtain rfl:zs=[]:=GJ hl';exact⟨none,0,rfl,⟨rfl,Ft _,by omega,fun j x hx=>by simp at hx,.inl rfl⟩,.inl rfl⟩
 ·refine⟨some ⟨g,0,none⟩,cap,rfl,⟨hl',hnc,by unfold maxLen at hcm;omega,hs,.inr ⟨g,0,rfl,ae hg,fun j x hx=>?_⟩⟩,.inr ⟨g,cur,rfl,hbg,hg⟩⟩;exact yK
theorem bM {w w':World} {base n m:Nat} {T:TypeId} {v:Value} {xs:List Value} (h:w.ownsRow base T m v n xs) (hb:Below w.heap.size w w'):w'.ownsRow base T m v n xs:=by
 refine⟨h.1,h.2.imp id ?_⟩;rintro⟨g,cap,cur,h1,h2,h3,h4⟩;exact⟨g,cap,cur,h1,h2,(hb.block _ (ae h3)).trans h3,h4⟩

end Rc
end Go.Proofs.YtpejepeekdjfoaaGreatDoor

namespace Go.Proofs.YtpejepeekdjfoaaGreatDoor
open Go.RowKit
namespace Ap

def bT (zs:List ByteArray) (w:World) (a:Option Addr) (len cap:Nat) (w':World):Prop:=
 ay w' a len cap zs/\(zs=[]\/∃g cur,a=some ⟨g,0,none⟩/\w.heap.size<=g/\w'.heap[g]?=some (.cells cur 9 (0,0)))/\Below w.heap.size w w'
theorem sB {w:World} {ad:Addr} {len cap:Nat} {zs:List ByteArray} (h:ay w (some ad) len cap zs):∀j u,(zs.map FK)[j]?=some u->w.cell? (ad.add j)=some u:=by
 intro j u hu;rw[FC] at hu;obtain⟨x,hx,rfl⟩:=FJ.1 hu;rcases h.2.2.2.2 with h|⟨b,o,e,_,hc⟩
 ·subst h;simp at hx
 ·cases e;rw[FT];exact hc j x hx

theorem bT.set {zs:List ByteArray} {w w':World} {a:Option Addr} {l p b i X:Nat} {v:Value} (h:ay w' a l p zs/\(zs=[]\/∃g cur,a=some ⟨g,0,none⟩/\X<=g/\w'.heap[g]?=some (.cells cur 9 (0,0)))/\Below w.heap.size w w') (hb:w.heap.size<=b) (hX:b<X):
  ay (w'.setCell ⟨b,i,none⟩ v) a l p zs/\(zs=[]\/∃g cur,a=some ⟨g,0,none⟩/\X<=g/\(w'.setCell ⟨b,i,none⟩ v).heap[g]?=some (.cells cur 9 (0,0)))/\Below w.heap.size w (w'.setCell ⟨b,i,none⟩ v):=by
 obtain⟨⟨h1,h2,h3,h4,h5⟩,h6,h7⟩:=h;refine⟨⟨h1,h2,h3,h4,?_⟩,?_,h7.setCell hb v⟩
 ·rcases h6 with h6|⟨g,cur,rfl,hg,hh⟩
  ·exact .inl h6
  ·rcases h5 with h5|⟨g',o,e,hl,hc⟩
   ·exact .inl h5
   ·cases e;have hs:(w'.setCell ⟨b,i,none⟩ v).heap[g]?=w'.heap[g]?:=Fp _ _ _ _ (show g≠b by omega);exact .inr ⟨g,0,rfl,by simpa[Gf] using hl,fun j x hx=>by have:=hc j x hx;simp only[World.cell?,hs] at this ⊢;exact this⟩
 ·rcases h6 with h6|⟨g,cur,rfl,hg,hh⟩
  ·exact .inl h6
  ·exact .inr ⟨g,cur,rfl,hg,(Fp _ _ _ _ (show g≠b by omega)).trans hh⟩

end Ap
end Go.Proofs.YtpejepeekdjfoaaGreatDoor

namespace Go.Proofs.YtpejepeekdjfoaaGreatDoor
open Go.RowKit
namespace Rc
open Mk

theorem cA.fr {w:World} {a:Option Addr} {l c:Nat} {zs:List ByteArray} {S:Nat->Prop} (h:cA w a l c zs S):∃g,LFr w g S zs (.slice a l c):=by
 obtain⟨⟨h1,h2,h3,h4,h5⟩,h6⟩:=h;rcases h6 with rfl|⟨g,cur,rfl,hS,hg⟩
 ·exact⟨0,_,_,_,rfl,h1,h2,h3,h4,.inl rfl⟩
 ·refine⟨g,_,_,_,rfl,h1,h2,h3,h4,h5.imp id ?_⟩;rintro⟨b,o,e,hlt,hc⟩;cases e;exact⟨rfl,hS,cur,hg,fun j x hx=>by have:=hc j x hx;rw[aw hg,FX] at this;exact this⟩
theorem LFr.lt {w:World} {h:Nat} {S:Nat->Prop} {zs:List ByteArray} {v:Value} (k:LFr w h S zs v) (hz:zs≠[]):S h/\h<w.heap.size:=by
 obtain⟨a',l',c',h1,h2,h3,h4,h5,h6⟩:=k;rcases h6 with h6|⟨_,q2,cu,q4,_⟩
 ·exact absurd h6 hz
 ·exact⟨q2,ae q4⟩
theorem de (w:World) (vs:List Value) (T:TypeId):∀(j:Nat) u,vs[j]?=some u->(w.alloc (.cells vs.toArray T)).cell? ((⟨w.heap.size,0,none⟩:Addr).add j)=some u:=by
 intro j u hu;rw[FT,aw (heap_alloc_new w _),FX];simpa using hu
theorem aX.app {w W w':World} {S:Nat->Prop} {m:Nat} {rs:List (List Fv)} {vss:List (List Value)} {H:Nat->Nat->Nat} {base n:Nat} {T:TypeId} {v:Value} {xs:List Value} (h:aX w S m rs vss H) (hb:Below w.heap.size w W) (ho:W.ownsRow base T m v n xs) (hT:¬T=9) (hg:W.grownBy w' v.ownBlock)
  {r:List Fv} {vs:List Value} {hh:Nat} (hr:r.length=m) (hvs:vs.length=m) (hc:∀(i:Nat) f,r[i]?=some f->∃v,vs[i]?=some v/\f.Fr W hh S v) (hfr:∀(i:Nat) zs,r[i]?=some (.l zs)->zs≠[]->w.heap.size<=hh)
  (h1:∀(i i':Nat) zs zs',r[i]?=some (.l zs)->zs≠[]->r[i']?=some (.l zs')->zs'≠[]->i=i'):aX w' S m (rs++[r]) (vss++[vs]) (fun j=>if j=rs.length then fun _=>hh else H j):=
 ((h.below hb).push hr hvs hc (fun i zs a b j r' i' zs' c d e q=>by have q1:=h.lt c d e;have q2:=hfr i zs a b;omega) h1).grown ho hT hg

theorem tv {x:Nd} {i:Nat} {zs:List ByteArray} (h:(ndF x)[i]?=some (.l zs)):i=6/\zs=x.zs:=by
 rcases i with _|_|_|_|_|_|_|i
 ·cases h
 ·cases h
 ·cases h
 ·cases h
 ·cases h
 ·cases h
 ·cases h;exact⟨rfl,rfl⟩
 ·simp[ndF] at h
theorem C7 {w:World} {x:Nd} {g:Nat} {Q:Nat->Prop} {a:Option Addr} {l c:Nat} (hn:x.n.size<=9223372036854775807) (hz:x.z.size<=9223372036854775807) (hl:LFr w g Q x.zs (.slice a l c)):∀(i:Nat) f,(ndF x)[i]?=some f->∃v,[.string x.n,.string x.z,.int .i64 x.c,.int .i64 x.s,.int .i64 x.u,.bool x.d,.slice a l c][i]?=some v/\f.Fr w g Q v:=by
 intro i f h;rcases i with _|_|_|_|_|_|_|i
 ·cases h;exact⟨_,rfl,rfl,hn⟩
 ·cases h;exact⟨_,rfl,rfl,hz⟩
 ·cases h;exact⟨_,rfl,rfl⟩
 ·cases h;exact⟨_,rfl,rfl⟩
 ·cases h;exact⟨_,rfl,rfl⟩
 ·cases h;exact⟨_,rfl,rfl⟩
 ·cases h;exact⟨_,rfl,hl⟩
 ·simp[ndF] at h

theorem s_ {x:Vd} {i:Nat} {zs:List ByteArray} (h:(vdF x)[i]?=some (.l zs)):i=7/\zs=x.zs:=by
 rcases i with _|_|_|_|_|_|_|_|i
 ·cases h
 ·cases h
 ·cases h
 ·cases h
 ·cases h
 ·cases h
 ·cases h
 ·cases h;exact⟨rfl,rfl⟩
 ·simp[vdF] at h
theorem ui {w:World} {x:Vd} {g:Nat} {Q:Nat->Prop} {a:Option Addr} {l c:Nat} (hn:x.n.size<=9223372036854775807) (hz:x.z.size<=9223372036854775807) (hk:x.k.size<=9223372036854775807) (hm:x.m.size<=9223372036854775807) (hl:LFr w g Q x.zs (.slice a l c)):∀(i:Nat) f,(vdF x)[i]?=some f->∃v,[.string x.n,.int .i64 x.c,.string x.z,.string x.k,.bool x.x,.string x.m,.bool x.y,.slice a l c][i]?=some v/\f.Fr w g Q v:=by
 intro i f h;rcases i with _|_|_|_|_|_|_|_|i
 ·cases h;exact⟨_,rfl,rfl,hn⟩
 ·cases h;exact⟨_,rfl,rfl⟩
 ·cases h;exact⟨_,rfl,rfl,hz⟩
 ·cases h;exact⟨_,rfl,rfl,hk⟩
 ·cases h;exact⟨_,rfl,rfl⟩
 ·cases h;exact⟨_,rfl,rfl,hm⟩
 ·cases h;exact⟨_,rfl,rfl⟩
 ·cases h;exact⟨_,rfl,hl⟩
 ·simp[vdF] at h

theorem tn {x:Pd} {i:Nat} {zs:List ByteArray} (h:(pdF x)[i]?=some (.l zs)):i=3/\zs=x.zs:=by
 rcases i with _|_|_|_|_|_|i
 ·cases h
 ·cases h
 ·cases h
 ·cases h;exact⟨rfl,rfl⟩
 ·cases h
 ·cases h
 ·simp[pdF] at h
theorem C5 {w:World} {x:Pd} {g:Nat} {Q:Nat->Prop} {a:Option Addr} {l c:Nat} (hn:x.n.size<=9223372036854775807) (hz:x.z.size<=9223372036854775807) (hd:x.d.size<=9223372036854775807) (hl:LFr w g Q x.zs (.slice a l c)):∀(i:Nat) f,(pdF x)[i]?=some f->∃v,[.string x.n,.int .i64 x.c,.string x.z,.slice a l c,.string x.d,.int .i64 x.p][i]?=some v/\f.Fr w g Q v:=by
 intro i f h;rcases i with _|_|_|_|_|_|i
 ·cases h;exact⟨_,rfl,rfl,hn⟩
 ·cases h;exact⟨_,rfl,rfl⟩
 ·cases h;exact⟨_,rfl,rfl,hz⟩
 ·cases h;exact⟨_,rfl,hl⟩
 ·cases h;exact⟨_,rfl,rfl,hd⟩
 ·cases h;exact⟨_,rfl,rfl⟩
 ·simp[pdF] at h

end Rc
end Go.Proofs.YtpejepeekdjfoaaGreatDoor

namespace Go.Proofs.YtpejepeekdjfoaaGreatDoor
open Go.RowKit
namespace Gi

abbrev Rs:=Option Tmp->World->World->Prop
structure Rel (R:Rs) (sp:Tmp):Prop where
 refl:∀w,R none w w
 trans:∀{a b c},R none a b->R none b c->R none a c
 size:∀{a b},R none a b->a.heap.size<=b.heap.size
 drew:∀w,R none w w.drew
 sub:∀s {a b},R s a b->R none a b
 low:∀s {a b},¬s=none->¬s=some sp->R s a b->Below a.heap.size a b
abbrev Fact:=Value->World->Nat->Nat->Prop
abbrev Ex:=Tmp->Option Tmp
def Fact.bB (R:Rs) (ex:Ex) (d:Option Tmp) (φ:Fact):Prop:=∀s,¬s=none->¬s=d->(∀t e,d=some t->ex t=some e->¬s=some e)->∀v w w' l h,φ v w l h->R s w w'->φ v w' l h
theorem Fact.cw (R:Rs) (ex:Ex) (d:Option Tmp) (c:Value):Fact.bB R ex d (fun v _ _ _=>v=c):=fun _ _ _ _ _ _ _ _ _ h _=>h

def ai (ex:Ex) (d:Option Tmp) (a0:Act) (known:List (Tmp×Fact)) (a:Act) (w:World) (lo hi:Tmp->Nat) (t:Tmp):Prop:=
 match known.lookup t with
 | some φ=>(ex t=none\/ex t=d)->φ (a.tmps.getD t undef) w (lo t) (hi t)
 | none=>a.tmps.getD t undef=a0.tmps.getD t undef

def mL (known:List (Tmp×Fact)) (lo hi:Tmp->Nat) (ts:List Tmp):Prop:=∀t∈ts,∀t'∈ts,(known.lookup t).isSome=true->(known.lookup t').isSome=true->¬t=t'->hi t<=lo t'\/hi t'<=lo t
def Obl (R:Rs) (sp:Tmp) (ex:Ex) (P:Program) (ops:Array Oper) (Q:Exit->Act->World->Prop) (W:World) (a0:Act) (known:List (Tmp×Fact)) (o:Oper) (φ:Fact):Prop:=
 ∀(a:Act) (w:World) (K:Act->World->Prop) (lo hi:Tmp->Nat),a.tmps.size=a0.tmps.size->R none W w->(o.dst=some sp->Below W.heap.size W w)->(∀t∈o.looksAt ops,ai ex o.dst a0 known a w lo hi t)->mL known lo hi (o.looksAt ops)->
  (∀v w',R o.dst w w'->φ v w' w.heap.size w'.heap.size->K (a.put o.dst v) w')->if GO o (yielded ops a.tmps)=true then o.wp P a w K Q else K (a.put o.dst undef) w

theorem Obl.plain {R:Rs} {sp:Tmp} {ex:Ex} {P:Program} {ops:Array Oper} {Q:Exit->Act->World->Prop} {W:World} {a0:Act} {known:List (Tmp×Fact)} {o:Oper} {φ:Fact} (hg:o.guard=none)
  (h:∀(a:Act) (w:World) (K:Act->World->Prop) (lo hi:Tmp->Nat),a.tmps.size=a0.tmps.size->R none W w->(o.dst=some sp->Below W.heap.size W w)->(∀t∈eM o,ai ex o.dst a0 known a w lo hi t)->mL known lo hi (eM o)->(∀v w',R o.dst w w'->φ v w' w.heap.size w'.heap.size->K (a.put o.dst v) w')->o.wp P a w K Q):Obl R sp ex P ops Q W a0 known o φ:=by
 intro a w K lo hi h1 h2 h6 h3 h5 h4;have hw:GO o (yielded ops a.tmps)=true:=by simp[GO,hg]
 rw[if_pos hw];have hs:∀t∈eM o,t∈o.looksAt ops:=fun t ht=>by unfold Oper.looksAt;exact List.mem_append_left _ ht
 exact h a w K lo hi h1 h2 h6 (fun t ht=>h3 t (hs t ht)) (fun t ht t' ht'=>h5 t (hs t ht) t' (hs t' ht')) h4

def aE (a0:Act) (known:List (Tmp×Fact)) (x:Tmp->Value):Act:=known.foldr (fun p b=>b.put (some p.1) (x p.1)) a0
def EL (known:List (Tmp×Fact)) (lo hi:Tmp->Nat):Prop:=∀p∈known,∀q∈known,¬p.1=q.1->hi p.1<=lo q.1\/hi q.1<=lo p.1
def Fin (R:Rs) (ex:Ex) (P:Program) (ops:Array Oper) (Q:Exit->Act->World->Prop) (W:World) (a0:Act) (back:Option Oper) (known:List (Tmp×Fact)):Prop:=
 ∀(x:Tmp->Value) (w:World) (lo hi:Tmp->Nat),R none W w->(∀p∈known,ex p.1=none->p.2 (x p.1) w (lo p.1) (hi p.1))->EL known lo hi->eD P ops Q back (aE a0 known x) w

def kn (d:Option Tmp) (φ:Fact) (known:List (Tmp×Fact)):List (Tmp×Fact):=match d with|some t=>(t,φ) ::known|none=>known

def au (R:Rs) (sp:Tmp) (ex:Ex) (P:Program) (ops:Array Oper) (Q:Exit->Act->World->Prop) (W:World) (a0:Act) (back:Option Oper):List Oper->List (Tmp×Fact)->Prop
 | [],known=>Fin R ex P ops Q W a0 back known
 | o ::rest,known=> ∃φ:Fact,φ.bB R ex o.dst/\Obl R sp ex P ops Q W a0 known o φ/\au R sp ex P ops Q W a0 back rest (kn o.dst φ known)
theorem au.step {R:Rs} {sp:Tmp} {ex:Ex} {P:Program} {ops:Array Oper} {Q:Exit->Act->World->Prop} {W:World} {a0:Act} {back:Option Oper} {o:Oper} {rest:List Oper} {known:List (Tmp×Fact)} {t:Tmp} (φ:Fact) (hd:o.dst=some t) (hφ:φ.bB R ex (some t)) (ho:Obl R sp ex P ops Q W a0 known o φ)
  (h:au R sp ex P ops Q W a0 back rest ((t,φ) ::known)):au R sp ex P ops Q W a0 back (o ::rest) known:=⟨φ,by rw[hd];exact hφ,ho,by rw[hd];exact h⟩
theorem au.an {R:Rs} {sp:Tmp} {ex:Ex} {P:Program} {ops:Array Oper} {Q:Exit->Act->World->Prop} {W:World} {a0:Act} {back:Option Oper} {o:Oper} {rest:List Oper} {known:List (Tmp×Fact)} {t:Tmp} (c:Value) (hd:o.dst=some t) (ho:Obl R sp ex P ops Q W a0 known o (fun v _ _ _=>v=c))
  (h:au R sp ex P ops Q W a0 back rest ((t,fun v _ _ _=>v=c) ::known)):au R sp ex P ops Q W a0 back (o ::rest) known:=au.step _ hd (Fact.cw R ex _ c) ho h
theorem au.done {R:Rs} {sp:Tmp} {ex:Ex} {P:Program} {ops:Array Oper} {Q:Exit->Act->World->Prop} {W:World} {a0:Act} {back:Option Oper} {known:List (Tmp×Fact)} (h:Fin R ex P ops Q W a0 back known):au R sp ex P ops Q W a0 back [] known:=h

section
variable {R:Rs} {sp:Tmp} {ex:Ex} {P:Program} {ops:Array Oper} {Q:Exit->Act->World->Prop} {W:World} {a0:Act} {back:Option Oper}

def knAll:List (Tmp×Fact)->List Oper->List Fact->List (Tmp×Fact)
 | known,o ::l,φ ::φs=>knAll (kn o.dst φ known) l φs
 | known,_,_=>known
theorem bW (known:List (Tmp×Fact)) (φs:List Fact):knAll known [] φs=known:=by cases φs <;> rfl

theorem au.spec:∀(l:List Oper) (known:List (Tmp×Fact)),au R sp ex P ops Q W a0 back l known->∃φs:List Fact,φs.length=l.length/\
  (∀(i:Nat) (o:Oper) (φ:Fact),l[i]?=some o->φs[i]?=some φ->φ.bB R ex o.dst/\Obl R sp ex P ops Q W a0 (knAll known (l.take i) (φs.take i)) o φ)/\Fin R ex P ops Q W a0 back (knAll known l φs)
 | [],known,h=>⟨[],rfl,fun i o φ h=>by simp at h,by rw[bW];exact h⟩
 | o ::l,known,h=>by
  exact vQ

theorem iG (d:Option Tmp) (φ:Fact) (known:List (Tmp×Fact)) (t:Tmp):(kn d φ known).lookup t=if d=some t then some φ else known.lookup t:=by
 exact yE

theorem b8:∀(l:List Oper) (φs:List Fact) (known:List (Tmp×Fact)) {t:Tmp} {φ:Fact},(knAll known l φs).lookup t=some φ->
  (∃(i:Nat) (o:Oper),l[i]?=some o/\o.dst=some t/\φs[i]?=some φ)\/known.lookup t=some φ
 | [],φs,known,t,φ,h=>by rw[bW] at h;exact .inr h
 | o ::l,[],known,t,φ,h=>.inr h
 | o ::l,ψ ::φs,known,t,φ,h=>by
  exact yU
theorem b_:∀(l:List Oper) (φs:List Fact) (known:List (Tmp×Fact)) {t:Tmp},(knAll known l φs).lookup t=none->
  known.lookup t=none/\∀(i:Nat) (o:Oper) (φ:Fact),l[i]?=some o->φs[i]?=some φ->o.dst≠some t
 | [],φs,known,t,h=>by rw[bW] at h;exact⟨h,fun i o φ h=>by simp at h⟩
 | o ::l,[],known,t,h=>⟨h,fun i o φ _ h=>by simp at h⟩
 | o ::l,ψ ::φs,known,t,h=>by
  exact CG
theorem dz:∀(l:List Oper) (φs:List Fact) (known:List (Tmp×Fact)) {p:Tmp×Fact},p∈knAll known l φs->
  (∃(i:Nat) (o:Oper),l[i]?=some o/\o.dst=some p.1/\φs[i]?=some p.2)\/p∈known
 | [],φs,known,p,h=>by rw[bW] at h;exact .inr h
 | o ::l,[],known,p,h=>.inr h
 | o ::l,ψ ::φs,known,p,h=>by
  exact CB

theorem dj (a0:Act) (x:Tmp->Value):∀known,(aE a0 known x).tmps.size=a0.tmps.size
 | []=>rfl
 | p ::l=>by unfold aE;rw[List.foldr_cons,size_put];exact dj a0 x l
theorem dm (a0:Act) (x:Tmp->Value):∀known,(aE a0 known x).defers=a0.defers
 | []=>rfl
 | p ::l=>by unfold aE;rw[List.foldr_cons,eQ];exact dm a0 x l
theorem gQ (a0 a:Act) (known:List (Tmp×Fact)) (hk:∀p∈known,p.1<a0.tmps.size) (t:Tmp) (h:(∀p∈known,p.1≠t)->a.tmps.getD t undef=a0.tmps.getD t undef):
  (aE a0 known (fun t=>a.tmps.getD t undef)).tmps.getD t undef=a.tmps.getD t undef:=by
 exact CS
structure At (R:Rs) (sp:Tmp) (ex:Ex) (front:List Oper) (φs:List Fact) (W:World) (a0:Act) (listed:Array Bool) (a:Act) (w:World) (lo hi:Tmp->Nat):Prop where
 size:a.tmps.size=a0.tmps.size
 defers:a.defers=a0.defers
 below:R none W w
 pre:(∀(i:Nat) (p:Oper),front[i]?=some p->p.dst=some sp->listed.getD i false=false)->Below W.heap.size W w
 known:∀(i:Nat) (o:Oper) (φ:Fact),front[i]?=some o->φs[i]?=some φ->∀t,o.dst=some t->listed.getD i false=true->(∀e,ex t=some e->∀(i':Nat) (p':Oper),front[i']?=some p'->p'.dst=some e->listed.getD i' false=false)->φ (a.tmps.getD t undef) w (lo t) (hi t)
 top:∀(i:Nat) (o:Oper),front[i]?=some o->∀t,o.dst=some t->listed.getD i false=true->hi t<=w.heap.size
 apart:∀(i:Nat) (o:Oper) (i':Nat) (o':Oper),front[i]?=some o->front[i']?=some o'->∀t t',o.dst=some t->o'.dst=some t'->listed.getD i false=true->listed.getD i' false=true->¬t=t'->hi t<=lo t'\/hi t'<=lo t
 other:∀t,(∀(i:Nat) (o:Oper),front[i]?=some o->o.dst=some t->listed.getD i false=false)->a.tmps.getD t undef=a0.tmps.getD t undef

theorem At.step {front:List Oper} {φs:List Fact} {listed:Array Bool} {a:Act} {w w':World} {lo hi:Tmp->Nat} {j:Nat} {o:Oper} {φ:Fact} {v:Value} (hR:Rel R sp) (hds:¬o.dst=none) (h:At R sp ex front φs W a0 listed a w lo hi)
  (hn:(front.filterMap (·.dst)).Nodup) (hin:∀o∈front,∀t,o.dst=some t->t<a0.tmps.size) (hmono:∀(i:Nat) (o:Oper) (φ:Fact),front[i]?=some o->φs[i]?=some φ->φ.bB R ex o.dst)
  (ho:front[j]?=some o) (hφ:φs[j]?=some φ) (hj:j<listed.size) (hb:R o.dst w w') (hv:φ v w' w.heap.size w'.heap.size):∃lo hi,At R sp ex front φs W a0 (listed.setIfInBounds j true) (a.put o.dst v) w' lo hi:=by
 have old:∀(i:Nat) (p:Oper) t,front[i]?=some p->p.dst=some t->¬j=i->(listed.setIfInBounds j true).getD i false=true->¬o.dst=some t/\listed.getD i false=true:=fun i p t hp ht e hl=>
  ⟨fun hd=>e (eB front hn ho hp hd ht),by simpa[Fx,FL,e] using hl⟩
 refine⟨fun t=>if o.dst=some t then w.heap.size else lo t,fun t=>if o.dst=some t then w'.heap.size else hi t,(size_put _ _ _).trans h.size,(eQ _ _ _).trans h.defers,hR.trans h.below (hR.sub _ hb),fun hx=>?_,?_,?_,?_,?_⟩
 ·have hns:¬o.dst=some sp:=fun e=>by
   have:=hx j o ho e;simp[Fx,hj] at this
  have h1:=h.pre (fun i p hp hd=>by
   have h2:=hx i p hp hd
   have e:¬j=i:=fun e=>by subst e;exact hns (by rw[Fq (ho.symm.trans hp)];exact hd)
   simpa[Fx,FL,e] using h2)
  exact h1.trans ((hR.low _ hds hns hb).mono h1.size)
 ·intro i p ψ hp hψ t ht hl hx;by_cases e:j=i
  ·subst e;obtain rfl:o=p:=Fq (ho.symm.trans hp);obtain rfl:φ=ψ:=Fq (hφ.symm.trans hψ);simp only[if_pos ht];exact xH
  ·obtain⟨hne,hl'⟩:=old i p t hp ht e hl;simp only[if_neg hne];have hxo:∀e,ex t=some e->∀(i':Nat) (p':Oper),front[i']?=some p'->p'.dst=some e->¬j=i'/\listed.getD i' false=false:=fun e9 he i' p' hp' hd'=>by
    have h9:=hx e9 he i' p' hp' hd';by_cases ej:j=i'
    ·subst ej;simp[Fx,hj] at h9
    ·exact⟨ej,by simpa[Fx,FL,ej] using h9⟩
   have h1:=hmono i p ψ hp hψ o.dst hds (fun e9=>hne (e9.trans ht)) (fun t9 e9 h8 h9 hd=>by
    obtain rfl:t=t9:=Fq (ht.symm.trans h8)
    exact (hxo e9 h9 j o ho hd).1 rfl) _ _ _ _ _ (h.known i p ψ hp hψ t ht hl' (fun e9 he i' p' hp' hd'=>(hxo e9 he i' p' hp' hd').2)) hb
   exact wY
 ·intro i p hp t ht hl;by_cases e:j=i
  ·subst e;obtain rfl:o=p:=Fq (ho.symm.trans hp);simp only[if_pos ht];exact Ft _
  ·obtain⟨hne,hl'⟩:=old i p t hp ht e hl;simp only[if_neg hne];exact FA (h.top i p hp t ht hl') (hR.size (hR.sub _ hb))
 ·intro i p i' p' hp hp' t t' ht ht' hl hl' hne;by_cases e:j=i
  ·subst e;obtain rfl:o=p:=Fq (ho.symm.trans hp);by_cases e':j=i'
   ·subst e';obtain rfl:o=p':=Fq (ho.symm.trans hp');exact absurd (Fq (ht.symm.trans ht')) hne
   ·obtain⟨hne',hl''⟩:=old i' p' t' hp' ht' e' hl';simp only[if_pos ht,if_neg hne'];exact .inr (h.top i' p' hp' t' ht' hl'')
  ·obtain⟨hne1,hl1⟩:=old i p t hp ht e hl;by_cases e':j=i'
   ·subst e';obtain rfl:o=p':=Fq (ho.symm.trans hp');simp only[if_pos ht',if_neg hne1];exact .inl (h.top i p hp t ht hl1)
   ·obtain⟨hne',hl''⟩:=old i' p' t' hp' ht' e' hl';simp only[if_neg hne1,if_neg hne'];exact h.apart i p i' p' hp hp' t t' ht ht' hl1 hl'' hne
 ·exact CQ

theorem Fin.last {front:List Oper} {φs:List Fact} {listed:Array Bool} {a:Act} {w:World} {lo hi:Tmp->Nat} (hf:Fin R ex P ops Q W a0 back (knAll [] front φs)) (hlen:φs.length=front.length) (hin:∀o∈front,∀t,o.dst=some t->t<a0.tmps.size)
  (h:At R sp ex front φs W a0 listed a w lo hi) (hall:∀i,i<front.length->listed.getD i false=true):eD P ops Q back a w:=by
 have h1:=hf (fun t=>a.tmps.getD t undef) w lo hi h.below (fun p hp hpe=>by
  rcases dz front φs [] hp with ⟨i,o,h1,h2,h3⟩|h1
  ·exact h.known i o p.2 h1 h3 p.1 h2 (hall i (Fm.1 h1).1) (fun e he=>by rw[hpe] at he;cases he)
  ·simp at h1) (fun p hp q hq hne=>by
  rcases dz front φs [] hp with ⟨i,o,h1,h2,h3⟩|h1
  ·rcases dz front φs [] hq with ⟨i',o',g1,g2,g3⟩|g1
   ·exact h.apart i o i' o' h1 g1 p.1 q.1 h2 g2 (hall i (Fm.1 h1).1) (hall i' (Fm.1 g1).1) hne
   ·simp at g1
  ·simp at h1)
 exact C4

theorem bR {front:List Oper} {φs:List Fact} (hR:Rel R sp) (hds:∀o∈front,¬o.dst=none) (hops:ops=(front++back.toList).toArray) (hB:growB a0.tmps.size front back=true) (hlen:φs.length=front.length)
  (hs:∀(i:Nat) (o:Oper) (φ:Fact),front[i]?=some o->φs[i]?=some φ->φ.bB R ex o.dst/\Obl R sp ex P ops Q W a0 (knAll [] (front.take i) (φs.take i)) o φ) (hf:Fin R ex P ops Q W a0 back (knAll [] front φs)):
  ∀(fuel:Nat) (listed:Array Bool) (a:Act) (w:World),listed.size=ops.size->listed.toList.count false<=fuel->(∀o,back=some o->listed.getD front.length false=false)->(∃lo hi,At R sp ex front φs W a0 listed a w lo hi)->wpAny P .any ops Q fuel listed a w:=by
 obtain⟨hn,hin,hdep,hlt,hback⟩:=cm hB;rw[<-hops] at hdep hlt;have hsz:ops.size=front.length+back.toList.length:=by rw[hops];simp
 have hend:∀(listed:Array Bool) (a:Act) (w:World),listed.size=ops.size->(∀i,i<ops.size->listed.getD i false=true)->(∀o,back=some o->listed.getD front.length false=false)->(∃lo hi,At R sp ex front φs W a0 listed a w lo hi)->Q .normal a w:=by
  rintro listed a w hz hall hb ⟨lo,hi,h⟩;have h1:=hf.last hlen hin h (fun i hi=>hall i af);exact sx
 intro fuel;induction fuel with
 | zero=>
  intro listed a w hz hc hb h;have hall:∀i,i<ops.size->listed.getD i false=true:=fun i hi=>dn af i af;refine⟨?_,hend listed a w hz hall hb h⟩
  cases hr:Ge .any ops listed with
  | nil=>rfl
  | cons j js=>
   have hm:j∈Ge .any ops listed:=by rw[hr];simp
   obtain⟨h1,o,ho,-⟩:=mem_ready.1 hm;have hj:=(FG.1 ho).1;rw[<-bK af,hall j hj] at h1
   cases h1
 | succ fuel ih=>
  intro listed a w hz hc hb hlh;refine⟨fun hr=>hend listed a w hz (ec hz hlt hr) hb hlh,fun j hj=>?_⟩;obtain⟨lo,hi,h⟩:=hlh;obtain⟨hun,o,ho,hall⟩:=mem_ready.1 hj;have hjs:j<ops.size:=(FG.1 ho).1;have hcs:=count_set (listed:=listed) (i:=j) af hun
  by_cases hjf:j<front.length
  ·have hof:front[j]?=some o:=by rw[hops] at ho;simpa[FN hjf] using ho
   have hφ:φs[j]?=some (φs[j]'(by omega)):=Fu _;obtain⟨hm,hob⟩:=hs j o _ hof hφ
   have hfacts:∀t∈o.looksAt ops,ai ex o.dst a0 (knAll [] (front.take j) (φs.take j)) a w lo hi t:=by
    intro t ht;unfold ai
    cases hk:(knAll [] (front.take j) (φs.take j)).lookup t with
    | some φ=>
     rcases b8 _ _ _ hk with ⟨i,p,h1,h2,h3⟩|h1
     ·have hij:i<j:=by have:=(Fm.1 h1).1;simp at this;omega
      rw[FR,if_pos hij] at h1 h3;obtain⟨-,e,he,hon,hbi⟩:=hdep j o hof t ht i p h1 h2;have hl:=hall e he hbi;rw[hon] at hl;intro hex;refine h.known i p φ h1 h3 t h2 hl (fun e9 he i' p' hp' hd'=>?_)
      rcases hex with h9|h9
      ·rw[h9] at he;cases he
      ·have:i'=j:=eB front hn hp' hof hd' (h9.symm.trans he);subst this;rw[bK af];exact hun
     ·simp at h1
    | none=>
     refine h.other t (fun i p hp hd=>?_)
     exfalso
     obtain⟨hij,-⟩:=hdep j o hof t ht i p hp hd;have hi:=(Fm.1 hp).1;exact (b_ _ _ _ hk).2 i p (φs[i]'(by omega)) kX k9 hd
   have hfind:∀t∈o.looksAt ops,((knAll [] (front.take j) (φs.take j)).lookup t).isSome=true->∃(i:Nat) (p:Oper),front[i]?=some p/\p.dst=some t/\listed.getD i false=true:=by
    intro t ht hk;obtain⟨φ,hφ'⟩:=Option.isSome_iff_exists.1 hk
    rcases b8 _ _ _ hφ' with ⟨i,p,h1,h2,h3⟩|h1
    ·have hij:i<j:=by have:=(Fm.1 h1).1;simp at this;omega
     rw[FR,if_pos hij] at h1;obtain⟨-,e,he,hon,hbi⟩:=hdep j o hof t ht i p h1 h2;have hl:=hall e he hbi;rw[hon] at hl;exact⟨i,p,h1,h2,hl⟩
    ·simp at h1
   have hap:mL (knAll [] (front.take j) (φs.take j)) lo hi (o.looksAt ops):=by
    intro t ht t' ht' hk hk' hne;obtain⟨i,p,h1,h2,h3⟩:=hfind t ht hk;obtain⟨i',p',g1,g2,g3⟩:=hfind t' ht' hk';exact h.apart i p i' p' h1 g1 t t' h2 g2 h3 g3 hne
   have hpre:o.dst=some sp->Below W.heap.size W w:=fun hd=>h.pre (fun i p hp hd'=>by
    have:i=j:=eB front hn hp hof hd' hd;subst this;rw[bK af]
    exact hun)
   have h1:=hob a w (wpAny P .any ops Q fuel (listed.setIfInBounds j true)) lo hi h.size h.below hpre hfacts hap (fun v w' hbw hv=>by
    refine ih _ _ _ fO af (fun o' ho'=>?_) (h.step hR (hds o (FZ hof)) hn hin (fun i o φ h1 h2=>(hs i o φ h1 h2).1) hof hφ af hbw hv);have h2:=hb o' ho'
    have e:¬j=front.length:=af
    simpa[Fx,FL,e] using h2)
   unfold wpOp;rw[ho]
   simp only
   split
   ·rename_i hw;rw[if_pos hw] at h1;exact .inl h1
   ·rename_i hw;rw[if_neg hw] at h1;exact h1
  ·cases hk:back with
   | none=>rw[hk] at hsz;simp at hsz;omega
   | some b=>
    have hjn:j=front.length:=by rw[hk] at hsz;simp at hsz;omega
    subst hjn
    have hob:o=b:=by
     rw[hops,hk] at ho
     simp at ho
     exact ho.symm
    subst hob
    have hfl:∀i,i<front.length->listed.getD i false=true:=fun i hi=>by
     obtain⟨e,he,hon,hbi⟩:=hback o hk i hi;have:=hall e he hbi
     rwa [hon] at this
    have h1:=hf.last hlen hin h hfl;rw[hk] at h1
    have h2:=h1 (wpAny P .any ops Q fuel (listed.setIfInBounds front.length true)) (fun a' w' hq=>by
     have hr:Ge .any ops (listed.setIfInBounds front.length true)=[]:=by
      cases hr:Ge .any ops (listed.setIfInBounds front.length true) with
      | nil=>rfl
      | cons i is=>
       have hm:i∈Ge .any ops (listed.setIfInBounds front.length true):=by rw[hr];simp
       obtain⟨h3,o',ho',-⟩:=mem_ready.1 hm;have hi:=(FG.1 ho').1
       exfalso
       by_cases e:front.length=i
       ·subst e
        simp[Fx,show front.length<listed.size from by omega] at h3
       ·have h4:=hfl i sb;rw[bK af] at h4
        simp[Fx,e] at h3 h4
        rw[h3] at h4
        cases h4
     cases fuel with
     | zero=>exact⟨hr,hq⟩
     | succ fuel=>exact⟨fun _=>hq,fun i hi=>by rw[hr] at hi;cases hi⟩)
    unfold wpOp;rw[ho]
    simp only
    split
    ·rename_i hw;rw[if_pos hw] at h2;exact .inl h2
    ·rename_i hw;rw[if_neg hw] at h2;exact h2
end

theorem bo {R:Rs} {sp:Tmp} {ex:Ex} (hR:Rel R sp) {P:Program} {id:Nat} {Q:Exit->Act->World->Prop} {a0:Act} {W:World} {l:List Oper} {front:List Oper} {back:Option Oper} (hm:P.follows .mixedOrders=true) (hl:l=front++back.toList) (hds:front.all (fun o=>o.dst.isSome)=true) (hB:growB a0.tmps.size front back=true)
  (h:au R sp ex P l.toArray Q W a0 back front []):(Hn id l.toArray true).wp P Q a0 W:=by
 obtain⟨φs,hlen,hs,hf⟩:=au.spec _ _ h;refine wp_region_any hm (bR hR (fun o ho e=>by have:=GA.1 hds o ho;rw[e] at this;cases this) (by rw[hl]) hB hlen hs hf _ _ _ _ aS ?_ (fun o ho=>?_) ⟨fun _=>0,fun _=>0,rfl,rfl,hR.drew _,fun _=>(Fw _ _).drew,fun i o φ h1 h2 t ht hx _=>?_,fun i o h1 t ht hx=>?_,fun i o i' o' h1 h2 t t' ht ht' hx=>?_,fun t _=>rfl⟩)
 ·exact lh
 ·exact a8 _ _
 ·rw[a8] at hx;cases hx
 ·rw[a8] at hx;cases hx
 ·rw[a8] at hx;cases hx
theorem aR {R:Rs} {sp:Tmp} {ex:Ex} (hR:Rel R sp) {P:Program} {id:Nat} {Q:Exit->Act->World->Prop} {a0:Act} {W:World} {l:List Oper} {front:List Oper} {last:Oper} (hm:P.follows .mixedOrders=true) (hf:l.dropLast=front) (hb:l.getLast?=some last) (hds:front.all (fun o=>o.dst.isSome)=true) (hB:growB a0.tmps.size front (some last)=true)
  (h:au R sp ex P l.toArray Q W a0 (some last) front []):(Hn id l.toArray true).wp P Q a0 W:=by
 refine bo hR hm ?_ hds hB h;exact mg

end Gi
end Go.Proofs.YtpejepeekdjfoaaGreatDoor

namespace Go.Proofs.YtpejepeekdjfoaaGreatDoor
open Go.RowKit
namespace Rc
open Mk

structure Sm (c:Cl):Prop where
 n:c.ns.length<=8
 ns:∀(j:Nat) x,c.ns[j]?=some x->x.zs.length<=8001
 k:c.ks.length<=8
 v:c.vs.length<=8
 vs:∀(j:Nat) x,c.vs[j]?=some x->x.zs.length<=8001
 x:c.xs.length<=8
 p:c.ps.length<=8
 ps:∀(j:Nat) x,c.ps[j]?=some x->x.zs.length<=8001
theorem aB.sm {c:Cl} (h:aB c):Sm c:=by
 obtain⟨_,⟨⟨h1,h2,_⟩,⟨h3,_⟩,⟨h4,h5,_⟩,⟨h6,_⟩,⟨h7,h8,_⟩⟩,_⟩:=h;refine⟨by omega,fun j x hj=>?_,by omega,by omega,fun j x hj=>?_,by omega,by omega,fun j x hj=>?_⟩
 ·have:=(h2 j x hj).2.2.2.2.2.1;omega
 ·have:=(iE (h5 j x hj).2.2.2.2.2.2).1;omega
 ·have:=(h8 j x hj).2.2.2.1.1;omega

def dM (r:List Fv):List Value:=r.map fun f=>f.val.getD undef
def fq (r:List Fv):Prop:=∀(i:Nat) f,r[i]?=some f->∃v,f.val=some v
theorem Fv.Is.val {w:World} {f:Fv} {v u:Value} (h:f.Is w v) (hu:f.val=some u):v=u/\f.Fr w 0 (fun _=>False) v:=by
 cases f with
 | s t=>cases hu;exact⟨h.1,h⟩
 | i n=>cases hu;exact⟨h,h⟩
 | b x=>cases hu;exact⟨h,h⟩
 | l zs=>cases hu
theorem Fv.Fr.any {w w':World} {f:Fv} {v u:Value} {h h':Nat} {S S':Nat->Prop} (k:f.Fr w h S v) (hu:f.val=some u):f.Fr w' h' S' v:=by
 cases f with
 | l zs=>cases hu
 | _=>exact k
theorem zJ {r:List Fv} (hf:fq r) {i:Nat} {f:Fv} (hi:r[i]?=some f):∃u,f.val=some u/\(dM r)[i]?=some u:=by
 obtain⟨u,hu⟩:=hf i f hi;exact⟨u,hu,by rw[dM,FC,hi];simp[hu]⟩
theorem tS {r:List Fv} (hf:fq r) {i:Nat} {u:Value} (hi:(dM r)[i]?=some u):∃f,r[i]?=some f/\f.val=some u:=by
 rw[dM,FC] at hi;obtain⟨f,h1,h2⟩:=FJ.1 hi;obtain⟨v,hv⟩:=hf i f h1;rw[hv] at h2;exact⟨f,h1,by rw[hv];simpa using h2⟩
section
variable {w:World} {a:Option Addr} {len cap m:Nat} {rs:List (List Fv)}
theorem g_ (hm:∀(j:Nat) r,rs[j]?=some r->r.length=m):∀(j:Nat) vs,(rs.map dM)[j]?=some vs->vs.length=m:=by
 intro j vs hj;rw[FC] at hj;obtain⟨r,h1,rfl⟩:=FJ.1 hj;rw[dM,FU];exact hm j r h1
theorem lB {b o:Nat} (h:aN w (some ⟨b,o,none⟩) len cap m rs) (hm:∀(j:Nat) r,rs[j]?=some r->r.length=m/\fq r):∀(k:Nat) u,(rs.map dM).flatten[k]?=some u->w.cell? ((⟨b,o,none⟩:Addr).add k)=some u:=by
 intro k u hk;obtain⟨j,i,vs,h1,h2,rfl⟩:=g8 (g_ fun j r hj=>(hm j r hj).1) hk;rw[FC] at h1;obtain⟨r,h3,rfl⟩:=FJ.1 h1;obtain⟨f,h4,h5⟩:=tS (hm j r h3).2 h2;rcases h.2.2.2 with rfl|⟨b',o',e,_,hc⟩
 ·simp at h3
 ·cases e;obtain⟨v,h6,h7⟩:=hc j r h3 i f h4;rw[FT,<-Nat.add_assoc,h6,(h7.val h5).1]
theorem fG (h:aN w a len cap m rs) (hm:∀(j:Nat) r,rs[j]?=some r->r.length=m/\fq r) (w':World) (S:Nat->Prop):aX w' S m rs (rs.map dM) (fun _ _=>0):=by
 refine⟨by simp,g_ fun j r hj=>(hm j r hj).1,fun j r hj=>(hm j r hj).1,fun j r vs hj hv i f hi=>?_,fun j r i zs j' r' i' zs' hj hi=>?_⟩
 ·rw[FC,hj] at hv;cases hv;obtain⟨u,h1,h2⟩:=zJ (hm j r hj).2 hi;rcases h.2.2.2 with rfl|⟨b',o',e,_,hc⟩
  ·simp at hj
  ·obtain⟨v,h6,h7⟩:=hc j r hj i f hi;obtain⟨rfl,h8⟩:=h7.val h1;exact⟨v,h2,h8.any h1⟩
 ·obtain⟨v,hv⟩:=(hm j r hj).2 i _ hi;cases hv
end
theorem sF (x:Kd):(kdF x).length=4/\fq (kdF x):=⟨rfl,fun i f h=>by
 rcases i with _|_|_|_|i <;> first|(cases h;exact⟨_,rfl⟩)|(simp[kdF] at h)⟩
theorem rV (x:Xd):(xdF x).length=5/\fq (xdF x):=⟨rfl,fun i f h=>by
 rcases i with _|_|_|_|_|i <;> first|(cases h;exact⟨_,rfl⟩)|(simp[xdF] at h)⟩
theorem gW {α:Type} {F:α->List Fv} {m:Nat} (hF:∀x,(F x).length=m/\fq (F x)) (xs:List α):∀(j:Nat) r,(xs.map F)[j]?=some r->r.length=m/\fq r:=by
 intro j r hj;rw[FC] at hj;obtain⟨x,_,rfl⟩:=FJ.1 hj;exact hF x

structure Co where
 c:Cl
 n:ByteArray
 p:Int
def cl0:Cl:=⟨[],[],[],[],[],0⟩
def co0 (p:Int):Co:=⟨cl0,⟨#[]⟩,p⟩
def ad0:Ad:=⟨none,0,0,none,0,0,none,0,0,none,0,0,none,0,0⟩
theorem Dy (w:World) (S:Nat->Prop):bQ w ad0 cl0.raw S:=⟨fun _=>1,az.nil _ _ _ _ _ (by decide),az.nil _ _ _ _ _ (by decide),az.nil _ _ _ _ _ (by decide),az.nil _ _ _ _ _ (by decide),az.nil _ _ _ _ _ (by decide)⟩

theorem iw (w:World) (t t' ty e e':TypeId) (i:TypeInfo) (ht:Tryz.prog.underlying t=some (.slice e)) (ht':Tryz.prog.underlying t'=some (.slice e')) (hi:Tryz.prog.info? e=some i) (a:Option Addr) (l c:Nat) (b:Value):(GC #[t,t'] ty #[.slice a l c,b]).run Tryz.prog w=(GC #[t,t] ty #[.slice a l c,b]).run Tryz.prog w:=by
 simp[GC,run_underlying ht,run_underlying ht',sizeOf,typeInfo,hi]
theorem bj {w:World} {ops:Array Oper} {rest:List Oper} {o:Oper} {a:Act} {Q:Exit->Act->World->Prop} (hgd:o.guard=none) (s x:Operand) (t t':TypeId)
  (ho:o.op=.call { callee:=.builtin .append,args:=#[s,x],argTypes:=#[t,t'] })
  (base:Nat) (e e':TypeId) (i:TypeInfo) (z:Value) (size bytes:Nat) (ht:Tryz.prog.underlying t=some (.slice e)) (ht':Tryz.prog.underlying t'=some (.slice e')) (hi:Tryz.prog.info? e=some i) (hz:i.zero=some z)
  (hsize:i.size=size) (hby:i.bytes=bytes) (hzs:z.cells.size=size) (hsz:0<size)
  (v:Value) (n:Nat) (xs:List Value) (hs:a.eval s=v) (hown:w.ownsRow base e size v n xs)
  (ad:Addr) (m c:Nat) (news:List Value) (hx:a.eval x=.slice (some ad) m c) (hl:news.length=m*size) (hnews:∀j u,news[j]?=some u->w.cell? (ad.add j)=some u) (h1:∀u∈news,u.oneCell'=true)
  (h63:n+m<=maxLen) (hbytes:(n+m)*bytes<=140737488355328) (hbase:base<=w.heap.size)
  (h:∀v' w',w'.ownsRow base e size v' (n+m) (xs++news)->w.grownBy w' v.ownBlock->wpList Tryz.prog ops Q rest (a.put o.dst v') w'):wpList Tryz.prog ops Q (o ::rest) a w:=by
 refine wpList_plain hgd fun K hK=>?_;obtain⟨v',w',hr,h2,h3,h4⟩:=run_append_own (P:=Tryz.prog) w base t o.type e i z size bytes ht hi hz hsize hby hzs hsz v n xs hown ad m c news hl hnews h1 h63 hbytes hbase;obtain⟨va,vl,vc,rfl⟩:∃a l c,v=.slice a l c:=by
  exact wO
 rw[<-iw w t t' o.type e e' i ht ht' hi] at hr;exact yq
theorem bV (w:World) {ops:Array Oper} {rest:List Oper} {o:Oper} {a:Act} {Q:Exit->Act->World->Prop} (hgd:o.guard=none) (d s:Operand) (t t':TypeId)
  (ho:o.op=.call { callee:=.builtin .copy,args:=#[d,s],argTypes:=#[t,t'] }) (v u:Value) (hd:a.eval d=v) (hs:a.eval s=u) {v':Value} {w':World}
  (hr:(Builtin.copy_ #[t,t'] o.type #[v,u]).run Tryz.prog w=.ok v' w') (h:wpList Tryz.prog ops Q rest (a.put o.dst v') w'):wpList Tryz.prog ops Q (o ::rest) a w:=by
 refine wpList_plain hgd fun K hK=>?_;unfold Oper.wp execOp;simp only[ho,resolve,invoke,builtin,Sem.run_bind,Sem.run_pure,Result.andThen_ok,List.map_toArray,List.map_cons,List.map_nil,hd,hs,hr];exact hK _ _ h
def br {α:Type} (p:Nat) (x:α) (xs:List α):List α:=xs.take p++[x]++xs.drop p
theorem d_ {α:Type} {p:Nat} {x:α} {xs:List α} (h:p<=xs.length):(br p x xs).length=xs.length+1:=by
 simp only[br,F7,FQ,GG,G0,List.length_nil];omega
theorem kl {α β:Type} (f:α->β) (p:Nat) (x:α) (xs:List α):(br p x xs).map f=br p (f x) (xs.map f):=by simp[br,List.map_take,List.map_drop]
theorem jt {α:Type} {p:Nat} {x:α} {xs:List α} (h:p<=xs.length) (j:Nat) (hj:j<xs.length+1):(br p x xs)[j]?=(xs++[x])[if j<p then j else if j=p then xs.length else j - 1]?:=by
 unfold br;by_cases h1:j<p
 ·rw[if_pos h1,List.append_assoc,FN jK,FN af,FR,if_pos h1]
 ·rw[if_neg h1];by_cases h2:j=p
  ·subst h2;have hl:(xs.take j).length=j:=by rw[FQ,Nat.min_eq_left h]
   have e1:(xs.take j++[x]++xs.drop j)[j]?=some x:=by
    rw[List.append_assoc,List.getElem?_append_right af,hl,Nat.sub_self];rfl
   rw[e1,if_pos rfl];simp
  ·rw[if_neg h2,List.getElem?_append_right (by simp only[F7,FQ,G0,List.length_nil];omega),FN af,Gm];congr 1;simp only[F7,FQ,G0,List.length_nil];omega
theorem aX.ins {w:World} {S:Nat->Prop} {m:Nat} {rs:List (List Fv)} {vss:List (List Value)} {H:Nat->Nat->Nat} (h:aX w S m rs vss H) {r:List Fv} {vs:List Value} {hh:Nat->Nat} (hr:r.length=m) (hvs:vs.length=m) (hc:∀(i:Nat) f,r[i]?=some f->∃v,vs[i]?=some v/\f.Fr w (hh i) S v)
  (hn:∀(i:Nat) zs,r[i]?=some (.l zs)->zs≠[]->∀(j:Nat) r' (i':Nat) zs',rs[j]?=some r'->r'[i']?=some (.l zs')->zs'≠[]->¬H j i'=hh i)
  (h1:∀(i i':Nat) zs zs',r[i]?=some (.l zs)->zs≠[]->r[i']?=some (.l zs')->zs'≠[]->i=i') {p:Nat} (hp:p<=rs.length):∃H',aX w S m (br p r rs) (br p vs vss) H':=by
 have hl:=h.len;have e1:(br p r rs).length=rs.length+1:=d_ hp;have e2:(br p vs vss).length=vss.length+1:=d_ af;refine⟨_,(h.push hr hvs hc hn h1).Fi (fun j=>if j<p then j else if j=p then rs.length else j - 1) af (fun j hj=>jt hp j af) (fun j hj=>?_) (fun j j' hj hj' e=>?_)⟩
 ·have:=jt (x:=vs) (xs:=vss) (p:=p) af j af;rw[hl] at this;exact this
 ·split at e <;> split at e
  ·exact e
  all_goals (try split at e) <;> (try split at e) <;> omega

end Rc
end Go.Proofs.YtpejepeekdjfoaaGreatDoor

namespace Go.Proofs.YtpejepeekdjfoaaGreatDoor
open Go.RowKit

def svB (c:Int) (z k:ByteArray) (x:Bool) (m:ByteArray) (y:Bool) (c':Int) (k':ByteArray) (x':Bool) (t:ByteArray):Bool:=
 (k.toList==k'.toList) && (x==x') && !y && m.toList.isEmpty && decide (c'<=c) && (t.toList.isEmpty || (z.toList==t.toList))

def eZ (v u:Vd):Bool:=decide (v.c<u.c) || ((v.c==u.c) && FB v.n.toList u.n.toList)
def df (sv:Vd->Bool) (acc:Option Vd) (v:Vd):Option Vd:=if (sv v && (match acc with|none=>true|some u=>eZ v u))=true then some v else acc
def dd (sv:Vd->Bool) (vs:List Vd):Option Vd:=vs.foldl (df sv) none
def svV (c':Int) (k':ByteArray) (x':Bool) (t:ByteArray) (v:Vd):Bool:=svB v.c v.z v.k v.x v.m v.y c' k' x' t

def aD:ByteArray:=⟨#[118,95]⟩
def ib (n' k' v' n z t:ByteArray):Prop:=k'=n/\v'=⟨#[]⟩/\(z=⟨#[]⟩\/z=t)/\n'.size<=18
end Go.Proofs.YtpejepeekdjfoaaGreatDoor

namespace Go.Proofs.YtpejepeekdjfoaaGreatDoor
open Go.RowKit
namespace Rc
open Mk

theorem BA {w:World} {a:Option Addr} {len cap:Nat} {vs:List Vd} (h:aN w a len cap 8 (vs.map vdF)):eE w a len cap vs:=by
 obtain⟨h1,h2,h3,h5⟩:=h;refine⟨by simpa using h1,h2,h3,?_⟩;rcases h5 with h5|⟨b,o,rfl,hlt,hc⟩
 ·exact .inl (by simpa using h5)
 ·refine .inr ⟨b,o,rfl,hlt,fun j v hv=>?_⟩;obtain⟨va,vl,vc,hvr,z0,z2,z3,z5,c0,c1,c2,c3,c4,c5,c6,c7⟩:=aK (hc j (vdF v) (by rw[FC,hv];rfl));exact⟨⟨z0,z2,z3,z5⟩,va,vl,vc,hvr,c0,c1,c2,c3,c4,c5,c6,c7⟩
def bdX (x:Xd) (n:ByteArray):Xd:=⟨x.n,x.z,x.k,x.x,n⟩
def bdV (v:Vd) (n:ByteArray):Vd:=⟨v.n,v.c,v.z,v.k,v.x,n,v.y,v.zs⟩
def dw (c:Cl) (i j:Nat) (x:Xd) (u:Vd):Cl:=⟨c.ns,c.ks,c.vs.set j (bdV u x.n),c.xs.set i (bdX x u.n),c.ps,c.now⟩
def mkV (x:Xd) (t:ByteArray):Vd:=⟨aD++x.n,x.z,t,x.k,x.x,x.n,false,[]⟩
def da (c:Cl) (i:Nat) (x:Xd) (t:ByteArray):Cl:=⟨c.ns,c.ks,br (pl Vd.n c.vs (aD++x.n)) (mkV x t) c.vs,c.xs.set i (bdX x (aD++x.n)),c.ps,c.now⟩
def aW (t z:ByteArray):ByteArray:=if t=⟨#[]⟩ then z else t
def ee (x:Xd) (k:Kd) (t:ByteArray):Prop:=¬aW t k.z=⟨#[]⟩/\ib x.n x.k x.v k.n k.z (aW t k.z)
def er (c:Cl) (i:Nat) (x:Xd) (k:Kd) (t:ByteArray) (o:Co):Prop:=
 (∃j u,dd (svV x.z x.k x.x t) c.vs=some u/\c.vs[j]?=some u/\o=⟨dw c i j x u,u.n,0⟩)\/
 (dd (svV x.z x.k x.x t) c.vs=none/\((¬ee x k t/\o=co0 6)\/(ee x k t/\((hit Vd.n c.vs (aD++x.n)=true/\o=co0 7)\/(hit Vd.n c.vs (aD++x.n)=false/\((¬c.vs.length<8/\o=co0 9)\/(c.vs.length<8/\o=⟨da c i x (aW t k.z),aD++x.n,0⟩)))))))
theorem er.same {c:Cl} {i:Nat} {x:Xd} {k:Kd} {t:ByteArray} {o o':Co} (hr:aB c) (h:er c i x k t o) (h':er c i x k t o'):o=o':=by
 rcases h with ⟨j,u,a1,a2,rfl⟩|⟨a1,a⟩ <;> rcases h' with ⟨j',u',b1,b2,rfl⟩|⟨b1,b⟩
 ·rw[a1] at b1;obtain rfl:=Fq b1;obtain⟨rfl,-⟩:=hr.2.1.2.2.1.2.2.inj a2 b2 rfl;rfl
 ·rw[a1] at b1;cases b1
 ·rw[a1] at b1;cases b1
 ·rcases a with ⟨a2,rfl⟩|⟨a2,a⟩ <;> rcases b with ⟨b2,rfl⟩|⟨b2,b⟩
  ·rfl
  ·exact absurd b2 a2
  ·exact absurd a2 b2
  ·rcases a with ⟨a3,rfl⟩|⟨a3,a⟩ <;> rcases b with ⟨b3,rfl⟩|⟨b3,b⟩
   ·rfl
   ·rw[a3] at b3;cases b3
   ·rw[a3] at b3;cases b3
   ·rcases a with ⟨a4,rfl⟩|⟨a4,rfl⟩ <;> rcases b with ⟨b4,rfl⟩|⟨b4,rfl⟩
    ·rfl
    ·exact absurd b4 a4
    ·exact absurd a4 b4
    ·rfl

theorem cZ {α:Type} {xs:List α} {j k:Nat} {u y z:α} (_hu:xs[j]?=some u) (h:(xs.set j y)[k]?=some z):(k=j/\z=y)\/(¬k=j/\xs[k]?=some z):=by
 rw[Hg] at h;by_cases e:j=k
 ·rw[if_pos e] at h;split at h
  ·exact .inl ⟨e.symm,(Fq h).symm⟩
  ·cases h
 ·rw[if_neg e] at h;exact .inr ⟨fun q=>e q.symm,h⟩
theorem fz {α:Type} {xs:List α} {j:Nat} {u y:α} (hu:xs[j]?=some u):(xs.set j y)[j]?=some y:=by
 rw[Hg,if_pos rfl,if_pos (Fm.1 hu).1]
theorem cP {α:Type} {xs:List α} {j k:Nat} {y z:α} (hk:¬k=j) (h:xs[k]?=some z):(xs.set j y)[k]?=some z:=by
 rw[Hg,if_neg (fun e=>hk e.symm)];exact h
theorem gH {α:Type} {nm:α->ByteArray} {xs:List α} {k:Nat} {x y:α} (h:aP nm xs) (hx:xs[k]?=some x) (e:nm y=nm x):aP nm (xs.set k y):=by
 intro j a b ha hb;have hn:∀(q:Nat) z,(xs.set k y)[q]?=some z->∃z',xs[q]?=some z'/\nm z=nm z':=fun q z hz=>by
  rcases cZ hx hz with ⟨rfl,rfl⟩|⟨_,hz⟩
  ·exact⟨x,hx,e⟩
  ·exact⟨z,hz,rfl⟩
 obtain⟨a',ha',ea⟩:=hn _ _ ha;obtain⟨b',hb',eb⟩:=hn _ _ hb;rw[ea,eb];exact h j a' b' ha' hb'
theorem jw {α:Type} {nm:α->ByteArray} {xs:List α} {k:Nat} {x y:α} {t:ByteArray} (h:aP nm xs) (hx:xs[k]?=some x) (e:nm y=nm x) (hh:hit nm xs t=true):hit nm (xs.set k y) t=true:=by
 obtain⟨z,hz,hn⟩:=dq hh;generalize pl nm xs t=q at hz;by_cases hq:q=k
 ·subst hq;rw[hx] at hz;obtain rfl:=Fq hz;exact (cN (gH h hx e) (fz hx) (e.trans hn)).2
 ·exact (cN (gH h hx e) (cP hq hz) hn).2
theorem ou (t:ByteArray):∀(vs:List Vd) (j:Nat) (u y:Vd),vs[j]?=some u->y.zs=u.zs->onOf t (vs.set j y)=onOf t vs
 | [],_,_,_,h,_=>by simp at h
 | v ::vs,0,u,y,h,e=>by
  obtain rfl:v=u:=iR
  rw[FH];unfold onOf;rw[e]
 | v ::vs,j+1,u,y,h,e=>by
  have h':vs[j]?=some u:=iR
  simp[onOf,ou t vs j u y h' e]

theorem jr {α:Type} {p j:Nat} {x y:α} {xs:List α} (h:(br p x xs)[j]?=some y):y=x\/∃i:Nat,xs[i]?=some y:=by
 have h1:=FZ h;unfold br at h1;simp only[G2,GW] at h1;rcases h1 with (h1|h1)|h1
 ·exact .inr (FW (List.mem_of_mem_take h1))
 ·exact .inl h1
 ·exact .inr (FW (List.mem_of_mem_drop h1))
theorem DQ {α:Type} (p:Nat) (x:α) (xs:List α):∃j:Nat,(br p x xs)[j]?=some x:=FW (by unfold br;simp)
theorem kj {α:Type} (p:Nat) (x:α) {j:Nat} {y:α} {xs:List α} (h:xs[j]?=some y):∃i:Nat,(br p x xs)[i]?=some y:=by
 refine FW ?_;have h1:=FZ h;rw[<-List.take_append_drop p xs,G2] at h1;unfold br;simp only[G2,GW];exact h1.elim (fun h=>.inl (.inl h)) .inr
theorem AI (t:ByteArray) (p:Nat) (y:Vd) (vs:List Vd) (e:y.zs=[]):onOf t (br p y vs)=onOf t vs:=by
 have h0:¬InL y.zs t:=fun ⟨k,hk⟩=>by rw[e] at hk;simp at hk
 have h1:onOf t [y]=0:=by
  unfold onOf;rw[if_neg h0];simp[onOf]
 have h2:=dH t (vs.take p) (vs.drop p);rw[List.take_append_drop] at h2;unfold br;rw[dH,dH,h1,h2];omega
theorem tB {x t:ByteArray} (h:FB x.toList t.toList=false) (hn:¬x=t):FB t.toList x.toList=true:=by
 exact xQ
theorem oB (b:Bool):dD [] (if b=true then 1 else 6):=⟨by cases b <;> decide,fun i x h=>by simp at h⟩
theorem Df {α:Type} {nm:α->ByteArray} {xs:List α} {y:α} {t:ByteArray} (h:aP nm xs) (hn:nm y=t) (hh:hit nm xs t=false):aP nm (br (pl nm xs t) y xs):=by
 have hp:pl nm xs t<=xs.length:=G5;have lo:∀(q:Nat) z,q<pl nm xs t->xs[q]?=some z->FB (nm z).toList t.toList=true:=fun q z hq hz=>by
  have h1:=List.not_of_lt_findIdx (p:=fun x=> !FB (nm x).toList t.toList) (xs:=xs) hq;obtain⟨h2,rfl⟩:=Fm.1 hz;simpa using h1
 have hi:∀(q:Nat) z,pl nm xs t<=q->xs[q]?=some z->FB t.toList (nm z).toList=true:=fun q z hq hz=>by
  have hl:=(Fm.1 hz).1;have h1:=List.findIdx_getElem (p:=fun x=> !FB (nm x).toList t.toList) (xs:=xs) (w:=Nat.lt_of_le_of_lt hq hl);have h2:xs[pl nm xs t]?=some (xs[pl nm xs t]'(Nat.lt_of_le_of_lt hq hl)):=Fu _;have h3:FB (nm (xs[pl nm xs t]'(Nat.lt_of_le_of_lt hq hl))).toList t.toList=false:=by simpa[pl] using h1
  have h4:=tB h3 (fun e=>by
   have:=(cN h h2 e).2;rw[hh] at this
   cases this)
  rcases Nat.lt_or_eq_of_le hq with k|k
  ·exact cg _ _ _ h4 (h.lt k h2 hz)
  ·rw[<-k,h2] at hz;obtain rfl:=Fq hz;exact h4
 intro j a b ha hb;have ja:j+1<xs.length+1:=by
  have:=(Fm.1 ha).1;rw[d_ hp] at this;exact this
 rw[jt hp _ ja] at ha;rw[jt hp _ af] at hb;generalize pl nm xs t=p at*;rcases Nat.lt_trichotomy (j+1) p with k|k|k
 ·rw[if_pos k,FN af] at ha;rw[if_pos af,FN af] at hb;exact h j a b ha hb
 ·rw[if_neg af,if_pos k] at ha;rw[if_pos af,FN af] at hb;obtain rfl:y=a:=by simpa using ha
  rw[hn];exact lo j b af hb
 ·rw[if_neg af,if_neg af,Nat.add_sub_cancel,FN af] at ha;rw[if_neg af] at hb;by_cases e:j=p
  ·rw[if_pos e] at hb;obtain rfl:y=b:=by simpa using hb
   rw[hn];exact hi j a af ha
  ·rw[if_neg e,FN af] at hb;obtain⟨q,rfl⟩:∃q,j=q+1:=⟨j - 1,by omega⟩;exact h q a b ha hb

section
variable {c:Cl} {i j:Nat} {x:Xd} {u:Vd}
theorem lH (hT:aB c) (hx:c.xs[i]?=some x) (hxv:x.v=⟨#[]⟩) (hu:c.vs[j]?=some u) (hum:u.m=⟨#[]⟩) {t s:ByteArray} (h:kN c t s):kN (dw c i j x u) t s:=by
 obtain⟨i1,j1,x1,v1,a1,a2,a3,a4,a5,a6,a7⟩:=h;refine⟨i1,j1,x1,v1,cP (fun e=>?_) a1,a2,cP (fun e=>?_) a3,a4,a5,a6,a7⟩
 ·exact xO
 ·subst e;rw[hu] at a3;obtain rfl:=Fq a3;have h1:=(hT.2.1.2.2.2.1.2.1 _ _ a1).1.1;rw[a2,<-a6,hum] at h1;exact absurd h1 aj
theorem tI (hT:aB c) (hx:c.xs[i]?=some x) (hxv:x.v=⟨#[]⟩) (hu:c.vs[j]?=some u) (hum:u.m=⟨#[]⟩) {t:ByteArray} {v:Vd} (h:bJ c t v):bJ (dw c i j x u) t v:=by
 have hb:=h;obtain⟨i1,j1,x1,a1,a2,a3,a4⟩:=h;have h0:¬x1.v=⟨#[]⟩:=fun e=>cX.ne hT.2.1 _ _ a3 (a4.trans e);have hB:=((hT.2.2.1.2 _ _ a1).2.resolve_left h0);obtain⟨i2,j2,x2,v2,c1,c2,c3,c4,c5,c6,-⟩:=hB;obtain⟨rfl,rfl⟩:=hT.2.1.2.2.1.2.2.inj a3 c3 (a4.trans c4.symm);refine⟨i1,j1,x1,cP (fun e=>?_) a1,a2,cP (fun e=>?_) a3,a4⟩
 ·subst e;rw[hx] at a1;obtain rfl:=Fq a1;exact h0 hxv
 ·subst e;rw[hu] at a3;obtain rfl:=Fq a3;have h1:=(hT.2.1.2.2.2.1.2.1 _ _ a1).1.1;rw[<-c6,hum] at h1;exact absurd h1 aj
theorem j_ {t:ByteArray} {v:Vd} (hT:aB c) (hx:c.xs[i]?=some x) (hxv:x.v=⟨#[]⟩) (h:bJ c t v):¬t=x.n:=fun e=>by
 obtain⟨i1,j1,x1,a1,a2,a3,a4⟩:=h;obtain⟨-,rfl⟩:=hT.2.1.2.2.2.1.2.2.inj a1 hx (a2.trans e);exact cX.ne hT.2.1 _ _ a3 (a4.trans hxv)
theorem tX (hx:c.xs[i]?=some x) (hu:c.vs[j]?=some u) (hz:x.z<=u.c) (hk:u.k=x.k) (hxx:u.x=x.x):kN (dw c i j x u) x.n u.n:=
 ⟨i,j,bdX x u.n,bdV u x.n,fz hx,rfl,fz hu,rfl,rfl,rfl,hz,hk,hxx⟩
theorem rP (hT:aB c) (hx:c.xs[i]?=some x) (hxv:x.v=⟨#[]⟩) (hu:c.vs[j]?=some u) (hum:u.m=⟨#[]⟩) (huy:u.y=false) (hz:x.z<=u.c) (hk:u.k=x.k) (hxx:u.x=x.x):aB (dw c i j x u):=by
 have hV:=hT.2.1.2.2.1;have hX:=hT.2.1.2.2.2.1;have hux:=hV.2.1 _ _ hu;have hxo:=hX.2.1 _ _ hx;have hB:=tX hx hu hz hk hxx;refine⟨hT.1,⟨hT.2.1.1,hT.2.1.2.1,⟨?_,?_,gH hV.2.2 hu rfl⟩,⟨?_,?_,gH hX.2.2 hx rfl⟩,hT.2.1.2.2.2.2⟩,⟨?_,?_⟩,⟨?_,hT.2.2.2.1.2.1,?_⟩,⟨?_,?_⟩,?_,?_⟩
 ·rw[show (dw c i j x u).vs=c.vs.set j (bdV u x.n) from rfl,List.length_set];exact hV.1
 ·intro k v hv;rcases cZ hu hv with ⟨-,rfl⟩|⟨-,hv⟩
  ·exact⟨hux.1,hux.2.1,hux.2.2.1,hux.2.2.2.1,.inr hxo.1,fun e=>absurd (show u.y=true from e) (by rw[huy];exact Bool.noConfusion),hux.2.2.2.2.2.2⟩
  ·exact hV.2.1 _ _ hv
 ·rw[show (dw c i j x u).xs=c.xs.set i (bdX x u.n) from rfl,List.length_set];exact hX.1
 ·intro k v hv;rcases cZ hx hv with ⟨-,rfl⟩|⟨-,hv⟩
  ·exact⟨hxo.1,hxo.2.1,hxo.2.2.1,.inr hux.1⟩
  ·exact hX.2.1 _ _ hv
 ·intro k v hv;rcases cZ hu hv with ⟨-,rfl⟩|⟨-,hv⟩
  ·exact⟨(hT.2.2.1.1 _ _ hu).1,.inr hB⟩
  ·exact⟨(hT.2.2.1.1 _ _ hv).1,(hT.2.2.1.1 _ _ hv).2.imp id (lH hT hx hxv hu hum)⟩
 ·intro k v hv;rcases cZ hx hv with ⟨-,rfl⟩|⟨-,hv⟩
  ·exact⟨(hT.2.2.1.2 _ _ hx).1,.inr hB⟩
  ·exact⟨(hT.2.2.1.2 _ _ hv).1,(hT.2.2.1.2 _ _ hv).2.imp id (lH hT hx hxv hu hum)⟩
 ·intro k p hp;have h1:=hT.2.2.2.1.1 k p hp;refine⟨fun q t ht=>jw hX.2.2 hx rfl (h1.1 q t ht),h1.2.imp id ?_⟩;rintro⟨i1,n,b1,b2,b3,b4⟩;exact xX
 ·intro k v hv;rcases cZ hu hv with ⟨-,rfl⟩|⟨-,hv⟩
  ·exact yB
  ·exact hT.2.2.2.1.2.2 _ _ hv
 ·intro k v hv;rcases cZ hu hv with ⟨-,rfl⟩|⟨-,hv⟩
  ·exact (hT.2.2.2.2.1.1 j u hu:AQ1 c u)
  ·exact hT.2.2.2.2.1.1 _ _ hv
 ·intro k n hn;have h1:onOf n.n c.vs<=n.s:=hT.2.2.2.2.1.2 k n hn;show onOf n.n (c.vs.set j (bdV u x.n))<=n.s;rw[ou n.n c.vs j u (bdV u x.n) hu rfl];exact h1
 ·intro k n hn q t ht;obtain⟨i1,v,b1,b2,b3⟩:=hT.2.2.2.2.2.1 k n hn q t ht;by_cases e:i1=j
  ·subst e;rw[hu] at b1;obtain rfl:=Fq b1;exact⟨i1,bdV u x.n,fz hu,b2,b3⟩
  ·exact⟨i1,v,cP e b1,b2,b3⟩
 ·intro k p hp h2;obtain⟨i1,n,b1,b2,b3,b4⟩:=hT.2.2.2.2.2.2 k p hp h2;exact xX
end

section
variable {c:Cl} {i:Nat} {x:Xd} {t:ByteArray}
theorem lG (hT:aB c) (hx:c.xs[i]?=some x) (hxv:x.v=⟨#[]⟩) {r s:ByteArray} (h:kN c r s):kN (da c i x t) r s:=by
 obtain⟨i1,j1,x1,v1,a1,a2,a3,a4,a5,a6,a7⟩:=h;obtain⟨j2,a3'⟩:=kj (pl Vd.n c.vs (aD++x.n)) (mkV x t) a3;refine⟨i1,j2,x1,v1,cP (fun e=>?_) a1,a2,a3',a4,a5,a6,a7⟩;exact xO
theorem tH (hT:aB c) (hx:c.xs[i]?=some x) (hxv:x.v=⟨#[]⟩) {r:ByteArray} {v:Vd} (h:bJ c r v):bJ (da c i x t) r v:=by
 obtain⟨i1,j1,x1,a1,a2,a3,a4⟩:=h;obtain⟨j2,a3'⟩:=kj (pl Vd.n c.vs (aD++x.n)) (mkV x t) a3;refine⟨i1,j2,x1,cP (fun e=>?_) a1,a2,a3',a4⟩;subst e;rw[hx] at a1;obtain rfl:=Fq a1;exact cX.ne hT.2.1 _ _ a3 (a4.trans hxv)
theorem tA (hx:c.xs[i]?=some x):kN (da c i x t) x.n (aD++x.n):=by
 obtain⟨j,hj⟩:=DQ (pl Vd.n c.vs (aD++x.n)) (mkV x t) c.vs;exact⟨i,j,bdX x (aD++x.n),mkV x t,fz hx,rfl,hj,rfl,rfl,rfl,Int.le_refl _,rfl,rfl⟩
theorem qZ (hT:aB c) (hx:c.xs[i]?=some x) (hxv:x.v=⟨#[]⟩) (hh:hit Vd.n c.vs (aD++x.n)=false) (hl:c.vs.length<8) (hnm:aO (aD++x.n)) (ht:aO t):aB (da c i x t):=by
 have hV:=hT.2.1.2.2.1;have hX:=hT.2.1.2.2.2.1;have hxo:=hX.2.1 _ _ hx;have hB:kN (da c i x t) x.n (aD++x.n):=tA hx;refine⟨hT.1,⟨hT.2.1.1,hT.2.1.2.1,⟨?_,?_,Df hV.2.2 rfl hh⟩,⟨?_,?_,gH hX.2.2 hx rfl⟩,hT.2.1.2.2.2.2⟩,⟨?_,?_⟩,⟨?_,hT.2.2.2.1.2.1,?_⟩,⟨?_,?_⟩,?_,?_⟩
 ·rw[show (da c i x t).vs=br (pl Vd.n c.vs (aD++x.n)) (mkV x t) c.vs from rfl,d_ (show pl Vd.n c.vs (aD++x.n)<=c.vs.length from G5)];omega
 ·intro k v hv;rcases jr hv with rfl|⟨k1,hv⟩
  ·exact⟨hnm,hxo.2.1,ht,hxo.2.2.1,.inr hxo.1,fun e=>absurd (show false=true from e) Bool.noConfusion,oB x.x⟩
  ·exact hV.2.1 _ _ hv
 ·rw[show (da c i x t).xs=c.xs.set i (bdX x (aD++x.n)) from rfl,List.length_set];exact hX.1
 ·intro k v hv;rcases cZ hx hv with ⟨-,rfl⟩|⟨-,hv⟩
  ·exact⟨hxo.1,hxo.2.1,hxo.2.2.1,.inr hnm⟩
  ·exact hX.2.1 _ _ hv
 ·intro k v hv;rcases jr hv with rfl|⟨k1,hv⟩
  ·exact⟨(hT.2.2.1.2 _ _ hx).1,.inr hB⟩
  ·exact⟨(hT.2.2.1.1 _ _ hv).1,(hT.2.2.1.1 _ _ hv).2.imp id (lG hT hx hxv)⟩
 ·intro k v hv;rcases cZ hx hv with ⟨-,rfl⟩|⟨-,hv⟩
  ·exact⟨(hT.2.2.1.2 _ _ hx).1,.inr hB⟩
  ·exact⟨(hT.2.2.1.2 _ _ hv).1,(hT.2.2.1.2 _ _ hv).2.imp id (lG hT hx hxv)⟩
 ·intro k p hp;have h1:=hT.2.2.2.1.1 k p hp;refine⟨fun q r hr=>jw hX.2.2 hx rfl (h1.1 q r hr),h1.2.imp id ?_⟩;rintro⟨i1,n,b1,b2,b3,b4⟩;exact xP
 ·intro k v hv;rcases jr hv with rfl|⟨k1,hv⟩
  ·exact yB
  ·exact hT.2.2.2.1.2.2 _ _ hv
 ·intro k v hv;rcases jr hv with rfl|⟨k1,hv⟩
  ·intro q r hr;simp[mkV] at hr
  ·exact hT.2.2.2.2.1.1 _ _ hv
 ·intro k n hn;have h1:onOf n.n c.vs<=n.s:=hT.2.2.2.2.1.2 k n hn;show onOf n.n (br (pl Vd.n c.vs (aD++x.n)) (mkV x t) c.vs)<=n.s;rw[AI _ _ _ _ rfl];exact h1
 ·intro k n hn q r hr;obtain⟨i1,v,b1,b2,b3⟩:=hT.2.2.2.2.2.1 k n hn q r hr;obtain⟨i2,b1'⟩:=kj (pl Vd.n c.vs (aD++x.n)) (mkV x t) b1;exact⟨i2,v,b1',b2,b3⟩
 ·intro k p hp h2;obtain⟨i1,n,b1,b2,b3,b4⟩:=hT.2.2.2.2.2.2 k p hp h2;exact xP
end

theorem q_ (s:ByteArray):(aD++s).size=2+s.size:=by rw[ByteArray.size_append];rfl
theorem rb {s:ByteArray} (h:aO s) (hs:s.size<=18):aO (aD++s):=by
 obtain⟨h1,-,h3⟩:=h;have hz:=q_ s;refine⟨by omega,by omega,fun i hi=>?_⟩;by_cases h2:i<2
 ·have e:(aD++s)[i]'hi=aD[i]'(by exact h2):=ByteArray.getElem_append_left h2;rw[e];match i,h2 with
  | 0,_=>rfl
  | 1,_=>rfl
 ·have e:(aD++s)[i]'hi=s[i - 2]'(by omega):=ByteArray.getElem_append_right (by show 2<=i;omega);rw[e];have:=h3 (i - 2) af;revert this;generalize (s[i - 2]'(by omega)).toNat=b;intro h;have hi0:¬i=0:=af
  unfold okB at h ⊢;rw[if_neg hi0];by_cases h4:i - 2=0
  ·rw[if_pos h4] at h;simp[nbB,h]
  ·rw[if_neg h4] at h;exact h
theorem Al (sv:Vd->Bool) (acc:Option Vd) (v:Vd):df sv acc v=acc\/(df sv acc v=some v/\sv v=true):=by
 unfold df;exact (Decidable.em _).elim (fun h=>.inr ⟨if_pos h,(Bool.and_eq_true_iff.1 h).1⟩) (fun h=>.inl (if_neg h))
theorem sO (sv:Vd->Bool) {u:Vd} :∀(vs:List Vd) (acc:Option Vd),vs.foldl (df sv) acc=some u->acc=some u\/sv u=true
 | [],_,h=>.inl h
 | v ::vs,acc,h=>by
  rcases sO sv vs (df sv acc v) h with h1|h1
  ·rcases Al sv acc v with h2|⟨h2,h3⟩
   ·rw[h2] at h1;exact .inl h1
   ·rw[h2] at h1;obtain rfl:=Fq h1;exact .inr h3
  ·exact .inr h1
theorem sZ {t z:ByteArray} (ht:cW t) (hz:cW z) (h:¬aW t z=⟨#[]⟩):aO (aW t z):=by
 unfold aW at h ⊢;by_cases e:t=⟨#[]⟩
 ·rw[if_pos e] at h ⊢;exact hz.resolve_left h
 ·rw[if_neg e];exact ht.resolve_left e
theorem tY {c:Cl} {i j:Nat} {x:Xd} {k:Kd} {t:ByteArray} {o:Co} (hT:aB c) (hx:c.xs[i]?=some x) (hxv:x.v=⟨#[]⟩) (hk:c.ks[j]?=some k) (ht:cW t) (h:er c i x k t o) (h0:o.p=0):aB o.c:=by
 rcases h with ⟨j1,u,a1,a2,rfl⟩|⟨-,⟨-,rfl⟩|⟨a2,⟨-,rfl⟩|⟨a3,⟨-,rfl⟩|⟨a4,rfl⟩⟩⟩⟩
 ·have h1:=(sO _ _ _ a1).resolve_left (fun e=>by cases e);unfold svV svB at h1;simp only[Bool.and_eq_true_iff] at h1;obtain⟨⟨⟨⟨⟨b1,b2⟩,b3⟩,b4⟩,b5⟩,-⟩:=h1;exact rP hT hx hxv a2 ((dP _).1 b4) (by simpa using b3) (of_decide_eq_true b5) (f_ b1) (eq_of_beq b2)
 ·exact absurd h0 aj
 ·exact absurd h0 aj
 ·exact absurd h0 aj
 ·exact qZ hT hx hxv a3 a4 (rb (hT.2.1.2.2.2.1.2.1 _ _ hx).1 a2.2.2.2.2) (sZ ht (hT.2.1.2.1.2.1 _ _ hk).2 a2.1)

def gq (c:Cl) (v:Vd) (s:ByteArray):Prop:=v.x=true/\((∃(j:Nat) (t:ByteArray),v.zs[j]?=some t/\¬t=s)\/∃(j:Nat) (p:Pd),c.ps[j]?=some p/\¬p.d=⟨#[]⟩/\¬p.d=s/\InL p.zs v.m)
def cJ (c:Cl) (n:Nd) (t:ByteArray) (c':Cl) (e:Int):Prop:=∃(i:Nat) (x:Xd),c.xs[i]?=some x/\x.n=t/\
 ((∃(j:Nat) (v:Vd),c.vs[j]?=some v/\v.n=x.v/\c'=c/\((¬v.z=n.z/\e=8)\/(v.z=n.z/\gq c v n.n/\e=10)\/(v.z=n.z/\¬gq c v n.n/\e=0)))\/
  (x.v=⟨#[]⟩/\∃(j:Nat) (k:Kd) (o:Co),c.ks[j]?=some k/\k.n=x.k/\er c i x k n.z o/\c'=o.c/\((k.x=false/\e=11)\/(k.x=true/\e=o.p))))
theorem cJ.same {c c1 c2:Cl} {n:Nd} {t:ByteArray} {e1 e2:Int} (hT:aB c) (h:cJ c n t c1 e1) (h':cJ c n t c2 e2):c1=c2/\e1=e2:=by
 obtain⟨i,x,a1,a2,a⟩:=h;obtain⟨i',x',b1,b2,b⟩:=h';obtain⟨rfl,rfl⟩:=hT.2.1.2.2.2.1.2.2.inj a1 b1 (a2.trans b2.symm);rcases a with ⟨j,v,a3,a4,rfl,a⟩|⟨a3,j,k,o,a4,a5,a6,rfl,a⟩ <;> rcases b with ⟨j',v',b3,b4,rfl,b⟩|⟨b3,j',k',o',b4,b5,b6,rfl,b⟩
 ·obtain⟨-,rfl⟩:=hT.2.1.2.2.1.2.2.inj a3 b3 (a4.trans b4.symm);refine⟨rfl,?_⟩;rcases a with ⟨p1,rfl⟩|⟨p1,p2,rfl⟩|⟨p1,p2,rfl⟩ <;> rcases b with ⟨q1,rfl⟩|⟨q1,q2,rfl⟩|⟨q1,q2,rfl⟩ <;> first|rfl|exact absurd q1 p1|exact absurd p1 q1|exact absurd q2 p2|exact absurd p2 q2
 ·exact absurd (a4.trans b3) (cX.ne hT.2.1 _ _ a3)
 ·exact absurd (b4.trans a3) (cX.ne hT.2.1 _ _ b3)
 ·obtain⟨-,rfl⟩:=hT.2.1.2.1.2.2.inj a4 b4 (a5.trans b5.symm);obtain rfl:=a6.same hT b6;refine⟨rfl,?_⟩;rcases a with ⟨p1,rfl⟩|⟨p1,rfl⟩ <;> rcases b with ⟨q1,rfl⟩|⟨q1,rfl⟩
  ·rfl
  ·rw[p1] at q1;cases q1
  ·rw[p1] at q1;cases q1
  ·rfl
theorem er.keeps {c:Cl} {i:Nat} {x:Xd} {k:Kd} {t:ByteArray} {o:Co} (hT:aB c) (hx:c.xs[i]?=some x) (h:er c i x k t o) (h0:o.p=0):o.c.ns=c.ns/\o.c.ks=c.ks/\o.c.ps=c.ps/\o.c.now=c.now/\∀s,hit Xd.n c.xs s=true->hit Xd.n o.c.xs s=true:=by
 rcases h with ⟨j1,u,-,-,rfl⟩|⟨-,⟨-,rfl⟩|⟨-,⟨-,rfl⟩|⟨-,⟨-,rfl⟩|⟨-,rfl⟩⟩⟩⟩
 ·exact⟨rfl,rfl,rfl,rfl,fun s hs=>jw hT.2.1.2.2.2.1.2.2 hx rfl hs⟩
 ·exact absurd h0 aj
 ·exact absurd h0 aj
 ·exact absurd h0 aj
 ·exact⟨rfl,rfl,rfl,rfl,fun s hs=>jw hT.2.1.2.2.2.1.2.2 hx rfl hs⟩
theorem cJ.right {c c':Cl} {n:Nd} {t:ByteArray} (hT:aB c) (hn:aO n.z) (h:cJ c n t c' 0):aB c'/\c'.ns=c.ns/\c'.ks=c.ks/\c'.ps=c.ps/\c'.now=c.now/\∀s,hit Xd.n c.xs s=true->hit Xd.n c'.xs s=true:=by
 obtain⟨i,x,a1,-,a⟩:=h;rcases a with ⟨j,v,-,-,rfl,-⟩|⟨a3,j,k,o,a4,-,a6,rfl,a⟩
 ·exact⟨hT,rfl,rfl,rfl,rfl,fun _ h=>h⟩
 ·rcases a with ⟨-,e⟩|⟨-,e⟩
  ·exact absurd e aj
  ·exact⟨tY hT a1 a3 a4 (.inr hn) a6 e.symm,a6.keeps hT a1 e.symm⟩
def cv (c:Cl) (n:Nd) (ts:List ByteArray):Nat->Cl->Prop
 | 0,c'=>c'=c
 | k+1,c'=> ∃(c1:Cl) (t:ByteArray),cv c n ts k c1/\ts[k]?=some t/\cJ c1 n t c' 0
theorem cv.right {c:Cl} {n:Nd} {ts:List ByteArray} (hT:aB c) (hn:aO n.z):∀(k:Nat) (c':Cl),cv c n ts k c'->aB c'/\c'.ns=c.ns/\c'.ks=c.ks/\c'.ps=c.ps/\c'.now=c.now/\∀s,hit Xd.n c.xs s=true->hit Xd.n c'.xs s=true
 | 0,c',h=>by
  obtain rfl:c'=c:=h;exact⟨hT,rfl,rfl,rfl,rfl,fun _ h=>h⟩
 | k+1,c',h=>by
  obtain⟨c1,t,h1,-,h3⟩:=h;obtain⟨r1,r2,r3,r4,r5,r6⟩:=cv.right hT hn k c1 h1;obtain⟨q1,q2,q3,q4,q5,q6⟩:=h3.right r1 hn;exact⟨q1,q2.trans r2,q3.trans r3,q4.trans r4,q5.trans r5,fun s hs=>q6 s (r6 s hs)⟩
theorem cv.same {c:Cl} {n:Nd} {ts:List ByteArray} (hT:aB c) (hn:aO n.z):∀(k:Nat) (c1 c2:Cl),cv c n ts k c1->cv c n ts k c2->c1=c2
 | 0,_,_,h,h'=>Eq.trans h (Eq.symm h')
 | k+1,c1,c2,h,h'=>by
  obtain⟨d1,t,h1,h2,h3⟩:=h;obtain⟨d2,t',g1,g2,g3⟩:=h';obtain rfl:=cv.same hT hn k d1 d2 h1 g1;rw[h2] at g2;obtain rfl:=Fq g2;exact (h3.same (cv.right hT hn k _ h1).1 g3).1
theorem cv.less {c:Cl} {n:Nd} {ts:List ByteArray} :∀(k j:Nat) (c':Cl),j<=k->cv c n ts k c'->∃c1,cv c n ts j c1
 | 0,j,c',h,r=>by
  obtain rfl:j=0:=af
  exact⟨c',r⟩
 | k+1,j,c',h,r=>by
  by_cases e:j=k+1
  ·subst e;exact⟨c',r⟩
  ·obtain⟨c1,t,r1,-,-⟩:=r;exact cv.less k j c1 af r1
def o8 (c:Cl) (n:Nd) (ts:List ByteArray) (c':Cl) (e:Int):Prop:=(cv c n ts ts.length c'/\e=0)\/∃(k:Nat) (c1:Cl) (t:ByteArray),cv c n ts k c1/\ts[k]?=some t/\cJ c1 n t c' e/\¬e=0
theorem o8.same {c c1 c2:Cl} {n:Nd} {ts:List ByteArray} {e1 e2:Int} (hT:aB c) (hn:aO n.z) (h:o8 c n ts c1 e1) (h':o8 c n ts c2 e2):c1=c2/\e1=e2:=by
 have gen:∀{k k':Nat} {d d' d1:Cl} {t:ByteArray} {e:Int},cv c n ts k d->ts[k]?=some t->cJ d n t d1 e->¬e=0->cv c n ts k' d'->k'<=k:=fun {k k' d d' d1 t e} r ht hd he r'=>by
  rcases Nat.lt_or_ge k k' with hk|hk
  ·obtain⟨f,r2⟩:=cv.less k' (k+1) d' hk r';obtain⟨g,t',r3,ht',hd'⟩:=r2;obtain rfl:=cv.same hT hn k _ _ r r3;rw[ht] at ht';obtain rfl:=Fq ht';exact absurd (hd.same (cv.right hT hn k _ r).1 hd').2 he
  ·exact hk
 rcases h with ⟨a1,rfl⟩|⟨k,d,t,a1,a2,a3,a4⟩ <;> rcases h' with ⟨b1,rfl⟩|⟨k',d',t',b1,b2,b3,b4⟩
 ·exact⟨cv.same hT hn _ _ _ a1 b1,rfl⟩
 ·have h1:=gen b1 b2 b3 b4 a1;have h2:=(Fm.1 b2).1;omega
 ·have h1:=gen a1 a2 a3 a4 b1;have h2:=(Fm.1 a2).1;omega
 ·have h1:=gen b1 b2 b3 b4 a1;have h2:=gen a1 a2 a3 a4 b1;obtain rfl:k=k':=af
  obtain rfl:=cv.same hT hn k _ _ a1 b1;rw[a2] at b2;obtain rfl:=Fq b2;exact a3.same (cv.right hT hn k _ a1).1 b3

def jd (p:Pd) (t m:ByteArray):Prop:=p.d=t/\InL p.zs m

def inB (zs:List ByteArray) (t:ByteArray):Bool:=zs.any fun z=>z.toList==t.toList
theorem eO {zs:List ByteArray} {t:ByteArray} :inB zs t=true↔InL zs t:=by
 unfold inB;rw[List.any_eq_true];constructor
 ·rintro⟨z,hz,he⟩;obtain⟨j,hj⟩:=FW hz;exact⟨j,by rw[hj,f_ he]⟩
 ·rintro⟨j,hj⟩;exact⟨t,FZ hj,a9 rfl⟩
def rX (c:Cl) (t m:ByteArray):Bool:=c.ps.any fun p=>(p.d.toList==t.toList) && inB p.zs m
theorem dy {c:Cl} {t m:ByteArray} :rX c t m=true↔∃(j:Nat) (p:Pd),c.ps[j]?=some p/\jd p t m:=by
 unfold rX;rw[List.any_eq_true];constructor
 ·rintro⟨p,hp,he⟩;obtain⟨j,hj⟩:=FW hp;rw[Gl] at he;exact⟨j,p,hj,f_ he.1,eO.1 he.2⟩
 ·rintro⟨j,p,hj,h1,h2⟩;exact⟨p,FZ hj,by rw[Gl];exact⟨a9 h1,eO.2 h2⟩⟩
def onB (c:Cl) (t:ByteArray) (v:Vd):Bool:=inB v.zs t || rX c t v.m
def dJ (c:Cl) (t:ByteArray) (vs:List Vd):List ByteArray:=(vs.filter (onB c t)).map Vd.n

def EH (c:Cl) (x:Pd):Prop:=∃n:Nd,c.ns[pl Nd.n c.ns x.d]?=some n/\n.n=x.d/\n.d=true/\n.u+5<c.now
def Aa (c:Cl) (t:ByteArray):Nat->Prop
 | 0=>8000<t.size
 | 1=>¬8000<t.size/\¬aB c
 | 2=>¬8000<t.size/\aB c/\hit Pd.n c.ps t=false
 | 8=>¬8000<t.size/\aB c/\∃x,c.ps[pl Pd.n c.ps t]?=some x/\x.n=t/\x.p=0
 | 7=>¬8000<t.size/\aB c/\∃x,c.ps[pl Pd.n c.ps t]?=some x/\x.n=t/\¬x.p=0/\¬EH c x
 | _=>False
theorem Aa.cases {c:Cl} {t:ByteArray} {i:Nat} (h:Aa c t i):(i=0/\8000<t.size)\/(i=1/\¬8000<t.size/\¬aB c)\/(i=2/\¬8000<t.size/\aB c/\hit Pd.n c.ps t=false)\/(i=8/\¬8000<t.size/\aB c/\∃x,c.ps[pl Pd.n c.ps t]?=some x/\x.n=t/\x.p=0)\/(i=7/\¬8000<t.size/\aB c/\∃x,c.ps[pl Pd.n c.ps t]?=some x/\x.n=t/\¬x.p=0/\¬EH c x):=by
 rcases i with _|_|_|_|_|_|_|_|_|i <;> simp only[Aa] at h
 ·exact .inl ⟨rfl,h⟩
 ·exact .inr (.inl ⟨rfl,h⟩)
 ·exact .inr (.inr (.inl ⟨rfl,h⟩))
 ·exact .inr (.inr (.inr (.inr ⟨rfl,h⟩)))
 ·exact .inr (.inr (.inr (.inl ⟨rfl,h⟩)))
theorem aB.node {c:Cl} {x:Pd} {i:Nat} (h:aB c) (hx:c.ps[i]?=some x) (hp:¬x.p=0):∃(j:Nat) (n:Nd),c.ns[j]?=some n/\n.n=x.d/\Inn n.u 0 1000000:=by
 have h1:=h.2.1.2.2.2.2.2.1 i x hx;have h2:=(h.2.2.2.1.1 i x hx).2;have hd:¬x.d=⟨#[]⟩:=fun e=>by
  have h3:=h1.2.2.2.2;rw[e] at h3;rcases h3 with ⟨h3,_⟩|⟨_,h3⟩
  ·exact hp h3
  ·have h5:=h3.1;revert h5;decide
 obtain⟨j,n,h3,h4,_⟩:=h2.resolve_left hd;exact⟨j,n,h3,h4,(h.2.1.1.2.1 j n h3).2.2.2.2.1⟩

def onP (p:Pd) (s:ByteArray):Pd:=⟨p.n,p.c,p.z,p.zs,s,1⟩
def plC (c:Cl) (i:Nat) (p:Pd) (s:ByteArray):Cl:=⟨c.ns,c.ks,c.vs,c.xs,c.ps.set i (onP p s),c.now⟩
def fY (c:Cl) (n:Nd):Prop:=n.d=true\/n.u<=c.now
def jc (p:Pd) (n:Nd):Prop:=¬p.z=⟨#[]⟩/\¬p.z=n.z
def kM (c:Cl) (p:Pd) (n:Nd):Prop:=n.c - cpuOf n.n c.ps<p.c
def gw (c:Cl) (i:Nat) (p:Pd) (n:Nd):Prop:=n.s<((dJ (plC c i p n.n) n.n c.vs).length:Int)
def dx (c:Cl) (i:Nat) (p:Pd) (n:Nd) (c':Cl) (e:Int):Prop:=
 (fY c n/\e=11)\/(¬fY c n/\((jc p n/\e=8)\/(¬jc p n/\((kM c p n/\e=9)\/(¬kM c p n/\∃c1 e1,o8 c n p.zs c1 e1/\
  ((¬e1=0/\e=e1)\/(e1=0/\((gw c1 i p n/\e=9)\/(¬gw c1 i p n/\e=0/\c'=plC c1 i p n.n)))))))))
theorem dx.same {c c1 c2:Cl} {i:Nat} {p:Pd} {n:Nd} {e1 e2:Int} (hT:aB c) (hn:aO n.z) (h:dx c i p n c1 e1) (h':dx c i p n c2 e2):e1=e2/\(e1=0->c1=c2):=by
 rcases h with ⟨a1,rfl⟩|⟨a1,⟨a2,rfl⟩|⟨a2,⟨a3,rfl⟩|⟨a3,d1,f1,a4,a5⟩⟩⟩ <;> rcases h' with ⟨b1,rfl⟩|⟨b1,⟨b2,rfl⟩|⟨b2,⟨b3,rfl⟩|⟨b3,d2,f2,b4,b5⟩⟩⟩
 all_goals first
  | exact⟨rfl,fun e=>absurd e aj⟩
  | exact absurd a1 b1
  | exact absurd b1 a1
  | exact absurd a2 b2
  | exact absurd b2 a2
  | exact absurd a3 b3
  | exact absurd b3 a3
  | skip
 obtain⟨rfl,rfl⟩:=a4.same hT hn b4;rcases a5 with ⟨a5,rfl⟩|⟨a5,⟨a6,rfl⟩|⟨a6,rfl,rfl⟩⟩ <;> rcases b5 with ⟨b5,rfl⟩|⟨b5,⟨b6,rfl⟩|⟨b6,rfl,rfl⟩⟩
 all_goals first
  | exact⟨rfl,fun e=>absurd e a5⟩
  | exact absurd a5 b5
  | exact absurd b5 a5
  | exact⟨rfl,fun e=>absurd e aj⟩
  | exact absurd a6 b6
  | exact absurd b6 a6
  | exact⟨rfl,fun _=>rfl⟩

def OtP (p:Pd) (t m:ByteArray):Prop:=¬p.d=⟨#[]⟩/\¬p.d=t/\InL p.zs m

theorem mE (t:ByteArray):∀{ps:List Pd},(∀(j:Nat) p,ps[j]?=some p->0<=p.c/\p.c<=1000000)->0<=cpuOf t ps/\cpuOf t ps<=ps.length*1000000
 | [],_=>by simp[cpuOf]
 | p ::ps,h=>by
  have h1:=h 0 p rfl;have h2:=mE t (ps:=ps) (fun j q hq=>h (j+1) q (by simpa using hq));simp only[cpuOf,G0];split <;> omega

def ic (c:Cl) (i:Nat) (p:Pd) (n:Nd):Prop:=∃c',dx c i p n c' 0
def fp (c:Cl) (i:Nat) (p:Pd):Prop:=∀(j:Nat) n,c.ns[j]?=some n->¬ic c i p n
def kO (c:Cl) (i:Nat) (p:Pd) (b:Nat) (n:Nd):Prop:=c.ns[b]?=some n/\ic c i p n/\∀(j:Nat) m,c.ns[j]?=some m->ic c i p m->frN c m<frN c n\/(frN c m=frN c n/\b<=j)
def kB (c:Cl) (t:ByteArray):Nat->Prop
 | 0=>8000<t.size
 | 1=>¬8000<t.size/\¬aB c
 | 2=>¬8000<t.size/\aB c/\hit Pd.n c.ps t=false
 | 7=>¬8000<t.size/\aB c/\∃x,c.ps[pl Pd.n c.ps t]?=some x/\x.n=t/\x.p=0/\fp c (pl Pd.n c.ps t) x
 | 8=>¬8000<t.size/\aB c/\∃x,c.ps[pl Pd.n c.ps t]?=some x/\x.n=t/\¬x.p=0
 | _=>False
def Ab (R:Cl->Nat->Pd->Nd->Cl->Prop) (c:Cl) (t:ByteArray) (o:Co):Prop:=(∃i,kB c t i/\o=co0 (dA i))\/(¬8000<t.size/\aB c/\∃x b n c',c.ps[pl Pd.n c.ps t]?=some x/\x.n=t/\x.p=0/\kO c (pl Pd.n c.ps t) x b n/\R c (pl Pd.n c.ps t) x n c'/\o=⟨c',n.n,0⟩)
def dE:Cl->ByteArray->Co->Prop:=Ab fun c _ _ _ c'=>c'=c

end Rc
end Go.Proofs.YtpejepeekdjfoaaGreatDoor

namespace Go.Proofs.YtpejepeekdjfoaaGreatDoor
open Go.RowKit
namespace Gs

section
variable {SR:World->World->Prop} {t4:Tmp} {Ψ:Fact} {P:Program} {ops:Array Oper} {Q:Exit->Act->World->Prop} {W:World} {a0:Act} {back:Option Oper}
theorem ec {listed:Array Bool} (hs:listed.size=ops.size) (hlt:∀(j:Nat) o,ops[j]?=some o->∀e∈o.after,F5 .any e=true->e.on<j) (hr:Ge .any ops listed=[]):∀i,i<ops.size->listed.getD i false=true:=by
 intro i;induction i using Nat.strongRecOn with
 | _ i ih=>
  intro hi
  cases hb:listed.getD i false with
  | true=>rfl
  | false=>
   have ho:ops[i]?=some ops[i]:=Array.getElem?_eq_getElem hi;have hm:i∈Ge .any ops listed:=mem_ready.2 ⟨by rw[<-bK af];exact hb,_,ho,fun e he hbe=>ih e.on (hlt i _ ho e he hbe) (Nat.lt_trans (hlt i _ ho e he hbe) hi)⟩;rw[hr] at hm
   cases hm

theorem m8 {listed:Array Bool} {i j:Nat} (h:listed.getD i false=true):(listed.setIfInBounds j true).getD i false=true:=by
 by_cases e:j=i
 ·subst e;simp only[Fx,FL];split
  ·split
   ·rfl
   ·simp[Fx] at h;next hx=>
     have:listed[j]?=none:=Array.getElem?_eq_none_iff.2 af;rw[this] at h
     cases h
  ·contradiction
 ·simpa[Fx,FL,e] using h
theorem kS {listed:Array Bool} {i j:Nat} (e:¬j=i) (h:(listed.setIfInBounds j true).getD i false=true):listed.getD i false=true:=by
 simpa[Fx,FL,e] using h

end
end Gs
namespace Gt

def growB (n:Nat) (front:List Oper) (back:Option Oper):Bool:=
 let ops:=(front++back.toList).toArray
 decide ((front.filterMap (·.dst)).Nodup) && front.all (fun o=>match o.dst with|some t=>decide (t<n)|none=>true) &&
 (Gq front.length).all (fun j=>match front[j]? with
  | some o=>(o.looksAt ops).all (fun t=>(Gq front.length).all fun i=>match front[i]? with
    | some p=>p.dst !=some t || (decide (i<j) && o.after.any fun e=>e.on==i && F5 .any e)
    | none=>true)
  | none=>true) &&
 (Gq ops.size).all (fun j=>match ops[j]? with|some o=>o.after.all (fun e=>decide (e.on<j))|none=>true) &&
 (match back with|some o=>(Gq front.length).all (fun i=>o.after.any fun e=>F5 .any e && (e.on==i || match front[e.on]? with|some p=>p.after.any (fun e'=>e'.on==i && F5 .any e')|none=>false))|none=>true)

section
variable {P:Program} {ops:Array Oper} {Q:Exit->Act->World->Prop} {W:World} {a0:Act} {back:Option Oper}
theorem cm {n:Nat} {front:List Oper} {back:Option Oper} (h:growB n front back=true):
  (front.filterMap (·.dst)).Nodup/\(∀o∈front,∀t,o.dst=some t->t<n)/\
  (∀(j:Nat) (o:Oper),front[j]?=some o->∀t∈o.looksAt (front++back.toList).toArray,∀(i:Nat) (p:Oper),front[i]?=some p->p.dst=some t->i<j/\∃e∈o.after,e.on=i/\F5 .any e=true)/\
  (∀(j:Nat) o,(front++back.toList).toArray[j]?=some o->∀e∈o.after,e.on<j)/\
  (∀o,back=some o->∀i,i<front.length->∃e∈o.after,F5 .any e=true/\(e.on=i\/∃p,front[e.on]?=some p/\∃e'∈p.after,e'.on=i/\F5 .any e'=true)):=by
 unfold growB at h;simp only[Gl,decide_eq_true_eq] at h;obtain⟨⟨⟨⟨h1,h2⟩,h3⟩,h4⟩,h5⟩:=h;refine⟨h1,?_,?_,?_,?_⟩
 ·intro o ho t ht;exact mb
 ·exact xA
 ·exact yO
 ·intro o ho i hi;subst ho;have:=GA.1 h5 i (List.mem_range.2 hi);obtain⟨k,hk,hx⟩:=Array.any_eq_true.1 this;simp only[Gl,Bool.or_eq_true,beq_iff_eq] at hx;refine⟨_,Array.getElem_mem hk,hx.1,hx.2.imp id fun h9=>?_⟩;split at h9
  ·next p hp=>
   obtain⟨k',hk',hx'⟩:=Array.any_eq_true.1 h9;simp only[Gl,beq_iff_eq] at hx';exact⟨p,hp,_,Array.getElem_mem hk',hx'.1,hx'.2⟩
  ·cases h9

structure Ac (front:List Oper) (φs:List Fact) (W:World) (a0:Act) (listed:Array Bool) (a:Act) (w:World):Prop where
 old:At front φs W a0 listed a w
 cl:∀(j:Nat) (o:Oper),front[j]?=some o->listed.getD j false=true->∀e∈o.after,F5 .any e=true->listed.getD e.on false=true
theorem bR {front:List Oper} {φs:List Fact} (hops:ops=(front++back.toList).toArray) (hB:growB a0.tmps.size front back=true) (hlen:φs.length=front.length)
  (hs:∀(i:Nat) (o:Oper) (φ:Fact),front[i]?=some o->φs[i]?=some φ->φ.bB/\Obl P ops Q W a0 (knAll [] (front.take i) (φs.take i)) o φ) (hf:Fin P ops Q W a0 back (knAll [] front φs)):
  ∀(fuel:Nat) (listed:Array Bool) (a:Act) (w:World),listed.size=ops.size->listed.toList.count false<=fuel->(∀o,back=some o->listed.getD front.length false=false)->Ac front φs W a0 listed a w->wpAny P .any ops Q fuel listed a w:=by
 obtain⟨hn,hin,hdep,hlt,hback⟩:=cm hB;rw[<-hops] at hdep hlt;have hsz:ops.size=front.length+back.toList.length:=by rw[hops];simp
 have hend:∀(listed:Array Bool) (a:Act) (w:World),listed.size=ops.size->(∀i,i<ops.size->listed.getD i false=true)->(∀o,back=some o->listed.getD front.length false=false)->Ac front φs W a0 listed a w->Q .normal a w:=by
  intro listed a w hz hall hb h;have h1:=Fin.last hf hlen hin h.old (fun i hi=>hall i af);exact sx
 intro fuel;induction fuel with
 | zero=>
  intro listed a w hz hc hb h;have hall:∀i,i<ops.size->listed.getD i false=true:=fun i hi=>dn af i af;refine⟨?_,hend listed a w hz hall hb h⟩
  cases hr:Ge .any ops listed with
  | nil=>rfl
  | cons j js=>
   have hm:j∈Ge .any ops listed:=by rw[hr];simp
   obtain⟨h1,o,ho,-⟩:=mem_ready.1 hm;have hj:=(FG.1 ho).1;rw[<-bK af,hall j hj] at h1
   cases h1
 | succ fuel ih=>
  intro listed a w hz hc hb h;refine⟨fun hr=>hend listed a w hz (ec hz hlt hr) hb h,fun j hj=>?_⟩;obtain⟨hun,o,ho,hall⟩:=mem_ready.1 hj;have hjs:j<ops.size:=(FG.1 ho).1;have hcs:=count_set (listed:=listed) (i:=j) af hun
  by_cases hjf:j<front.length
  ·have hof:front[j]?=some o:=by rw[hops] at ho;simpa[FN hjf] using ho
   have hφ:φs[j]?=some (φs[j]'(by omega)):=Fu _;obtain⟨hm,hob⟩:=hs j o _ hof hφ
   have hfacts:∀t∈o.looksAt ops,ai a0 (knAll [] (front.take j) (φs.take j)) a w t:=by
    intro t ht;unfold ai
    cases hk:(knAll [] (front.take j) (φs.take j)).lookup t with
    | some φ=>
     rcases b8 _ _ _ hk with ⟨i,p,h1,h2,h3⟩|h1
     ·have hij:i<j:=by have:=(Fm.1 h1).1;simp at this;omega
      rw[FR,if_pos hij] at h1 h3;obtain⟨-,e,he,hon,hbi⟩:=hdep j o hof t ht i p h1 h2;have hl:=hall e he hbi;rw[hon] at hl;exact h.old.known i p φ h1 h3 t h2 hl
     ·simp at h1
    | none=>
     refine h.old.other t (fun i p hp hd=>?_)
     exfalso
     obtain⟨hij,-⟩:=hdep j o hof t ht i p hp hd;have hi:=(Fm.1 hp).1;exact (b_ _ _ _ hk).2 i p (φs[i]'(by omega)) kX k9 hd
   have h1:=hob a w (wpAny P .any ops Q fuel (listed.setIfInBounds j true)) h.old.size h.old.below hfacts (fun v w' hbw hv=>by
    refine ih _ _ _ fO af (fun o' ho'=>?_) ⟨h.old.step hn hin (fun i o φ h1 h2=>(hs i o φ h1 h2).1) hof hφ af hbw hv,fun j' o' ho' hl e he hbe=>(by
     by_cases ej:j=j'
     ·subst ej;obtain rfl:o=o':=Fq (hof.symm.trans ho');exact Gs.m8 (hall e he hbe)
     ·exact Gs.m8 (h.cl j' o' ho' (Gs.kS ej hl) e he hbe))⟩
    have h2:=hb o' ho'
    have e:¬j=front.length:=af
    simpa[Fx,FL,e] using h2)
   unfold wpOp;rw[ho]
   simp only
   split
   ·rename_i hw;rw[if_pos hw] at h1;exact .inl h1
   ·rename_i hw;rw[if_neg hw] at h1;exact h1
  ·cases hk:back with
   | none=>rw[hk] at hsz;simp at hsz;omega
   | some b=>
    have hjn:j=front.length:=by rw[hk] at hsz;simp at hsz;omega
    subst hjn
    have hob:o=b:=by
     rw[hops,hk] at ho
     simp at ho
     exact ho.symm
    subst hob
    have hfl:∀i,i<front.length->listed.getD i false=true:=fun i hi=>by
     obtain⟨e,he,hbi,hon⟩:=hback o hk i hi;have hl:=hall e he hbi
     rcases hon with hon|⟨p,hp,e',he',hon,hbi'⟩
     ·rwa [hon] at hl
     ·have:=h.cl e.on p hp hl e' he' hbi'
      rwa [hon] at this
    have h1:=Fin.last hf hlen hin h.old hfl;rw[hk] at h1
    have h2:=h1 (wpAny P .any ops Q fuel (listed.setIfInBounds front.length true)) (fun a' w' hq=>by
     have hr:Ge .any ops (listed.setIfInBounds front.length true)=[]:=by
      cases hr:Ge .any ops (listed.setIfInBounds front.length true) with
      | nil=>rfl
      | cons i is=>
       have hm:i∈Ge .any ops (listed.setIfInBounds front.length true):=by rw[hr];simp
       obtain⟨h3,o',ho',-⟩:=mem_ready.1 hm;have hi:=(FG.1 ho').1
       exfalso
       by_cases e:front.length=i
       ·subst e
        simp[Fx,show front.length<listed.size from by omega] at h3
       ·have h4:=hfl i sb;rw[bK af] at h4
        simp[Fx,e] at h3 h4
        rw[h3] at h4
        cases h4
     cases fuel with
     | zero=>exact⟨hr,hq⟩
     | succ fuel=>exact⟨fun _=>hq,fun i hi=>by rw[hr] at hi;cases hi⟩)
    unfold wpOp;rw[ho]
    simp only
    split
    ·rename_i hw;rw[if_pos hw] at h2;exact .inl h2
    ·rename_i hw;rw[if_neg hw] at h2;exact h2
end
theorem aR {P:Program} {id:Nat} {Q:Exit->Act->World->Prop} {a0:Act} {W:World} {l:List Oper} {front:List Oper} {last:Oper} (hm:P.follows .mixedOrders=true) (hf:l.dropLast=front) (hb:l.getLast?=some last) (hB:growB a0.tmps.size front (some last)=true)
  (h:au P l.toArray Q W a0 (some last) front []):(Hn id l.toArray true).wp P Q a0 W:=by
 obtain⟨φs,hlen,hs,hfi⟩:=au.spec _ _ h;have hl:l=front++(some last).toList:=by
  exact mg
 refine wp_region_any hm (bR (by rw[hl]) hB hlen hs hfi _ _ _ _ aS ?_ (fun o ho=>?_) ⟨⟨rfl,rfl,(Fw _ _).drew,fun i o φ h1 h2 t ht hx=>?_,fun t _=>rfl⟩,fun j o h1 hx=>?_⟩)
 ·exact lh
 ·exact a8 _ _
 ·rw[a8] at hx;cases hx
 ·rw[a8] at hx;cases hx
end Gt
namespace Gu

def waits (front:List Oper) (i:Nat):Nat->Array Edge->Bool
 | 0,after=>after.any fun e=>F5 .any e && e.on==i
 | f+1,after=>after.any fun e=>F5 .any e && (e.on==i || match front[e.on]? with|some p=>waits front i f p.after|none=>false)
theorem jy {front:List Oper} {i:Nat} {listed:Array Bool} (hc:∀(j:Nat) (o:Oper),front[j]?=some o->listed.getD j false=true->∀e∈o.after,F5 .any e=true->listed.getD e.on false=true):∀(f:Nat) (after:Array Edge),waits front i f after=true->(∀e∈after,F5 .any e=true->listed.getD e.on false=true)->listed.getD i false=true
 | 0,after,h,ha=>by
  obtain⟨k,hk,hx⟩:=Array.any_eq_true.1 h;simp only[Gl,beq_iff_eq] at hx;have:=ha _ (Array.getElem_mem hk) hx.1
  rwa [hx.2] at this
 | f+1,after,h,ha=>by
  obtain⟨k,hk,hx⟩:=Array.any_eq_true.1 h;simp only[Gl,Bool.or_eq_true,beq_iff_eq] at hx;have h1:=ha _ (Array.getElem_mem hk) hx.1
  rcases hx.2 with h2|h2
  ·rwa [h2] at h1
  ·split at h2
   ·next p hp=>exact jy hc f p.after h2 (fun e he hb=>hc _ p hp h1 e he hb)
   ·cases h2
def sE (P:Program) (ops:Array Oper) (Q:Exit->Act->World->Prop) (s t:Oper) (a:Act) (w:World):Prop:=
 ∀K:Act->World->Prop,(∀a' w',(∀K':Act->World->Prop,(∀a w,Q .normal a w->K' a w)->if GO t (yielded ops a'.tmps)=true then t.wp P a' w' K' Q else K' (a'.put t.dst undef) w')->K a' w')->if GO s (yielded ops a.tmps)=true then s.wp P a w K Q else K (a.put s.dst undef) w
def Fin (P:Program) (ops:Array Oper) (Q:Exit->Act->World->Prop) (W:World) (a0:Act) (s t:Oper) (known:List (Tmp×Fact)):Prop:=
 ∀(x:Tmp->Value) (w:World),Below W.heap.size W w->(∀p∈known,p.2 (x p.1) w)->sE P ops Q s t (aE a0 known x) w
def au (P:Program) (ops:Array Oper) (Q:Exit->Act->World->Prop) (W:World) (a0:Act) (s t:Oper):List Oper->List (Tmp×Fact)->Prop
 | [],known=>Fin P ops Q W a0 s t known
 | o ::rest,known=> ∃φ:Fact,φ.bB/\Obl P ops Q W a0 known o φ/\au P ops Q W a0 s t rest (kn o.dst φ known)
section
variable {P:Program} {ops:Array Oper} {Q:Exit->Act->World->Prop} {W:World} {a0:Act} {s t:Oper}
theorem au.step {o:Oper} {rest:List Oper} {known:List (Tmp×Fact)} {d:Tmp} (φ:Fact) (hd:o.dst=some d) (hφ:φ.bB) (ho:Obl P ops Q W a0 known o φ)
  (h:au P ops Q W a0 s t rest ((d,φ) ::known)):au P ops Q W a0 s t (o ::rest) known:=⟨φ,hφ,ho,(by rw[hd];exact h)⟩
theorem au.an {o:Oper} {rest:List Oper} {known:List (Tmp×Fact)} {d:Tmp} (c:Value) (hd:o.dst=some d) (ho:Obl P ops Q W a0 known o (fun v _=>v=c))
  (h:au P ops Q W a0 s t rest ((d,fun v _=>v=c) ::known)):au P ops Q W a0 s t (o ::rest) known:=au.step _ hd (Fact.cw c) ho h
theorem au.done {known:List (Tmp×Fact)} (h:Fin P ops Q W a0 s t known):au P ops Q W a0 s t [] known:=h
theorem au.spec:∀(l:List Oper) (known:List (Tmp×Fact)),au P ops Q W a0 s t l known->∃φs:List Fact,φs.length=l.length/\
  (∀(i:Nat) (o:Oper) (φ:Fact),l[i]?=some o->φs[i]?=some φ->φ.bB/\Obl P ops Q W a0 (knAll known (l.take i) (φs.take i)) o φ)/\Fin P ops Q W a0 s t (knAll known l φs)
 | [],known,h=>⟨[],rfl,fun i o φ h=>by simp at h,by rw[bW];exact h⟩
 | o ::l,known,h=>by
  exact vQ
def growB (n:Nat) (front:List Oper) (s t:Oper):Bool:=
 let ops:=(front++[s,t]).toArray
 decide ((front.filterMap (·.dst)).Nodup) && front.all (fun o=>match o.dst with|some d=>decide (d<n)|none=>true) &&
 (Gq front.length).all (fun j=>match front[j]? with
  | some o=>(o.looksAt ops).all (fun d=>(Gq front.length).all fun i=>match front[i]? with
    | some p=>p.dst !=some d || (decide (i<j) && o.after.any fun e=>e.on==i && F5 .any e)
    | none=>true)
  | none=>true) &&
 (Gq ops.size).all (fun j=>match ops[j]? with|some o=>o.after.all (fun e=> !F5 .any e || decide (e.on<j))|none=>true) &&
 (Gq front.length).all (fun i=>waits front i 12 s.after) && t.after.any (fun e=>F5 .any e && e.on==front.length)
theorem cm {n:Nat} {front:List Oper} (h:growB n front s t=true):
  (front.filterMap (·.dst)).Nodup/\(∀o∈front,∀d,o.dst=some d->d<n)/\
  (∀(j:Nat) (o:Oper),front[j]?=some o->∀d∈o.looksAt (front++[s,t]).toArray,∀(i:Nat) (p:Oper),front[i]?=some p->p.dst=some d->i<j/\∃e∈o.after,e.on=i/\F5 .any e=true)/\
  (∀(j:Nat) o,(front++[s,t]).toArray[j]?=some o->∀e∈o.after,F5 .any e=true->e.on<j)/\
  (∀i,i<front.length->waits front i 12 s.after=true)/\∃e∈t.after,F5 .any e=true/\e.on=front.length:=by
 unfold growB at h;simp only[Gl,decide_eq_true_eq] at h;obtain⟨⟨⟨⟨⟨h1,h2⟩,h3⟩,h4⟩,h5⟩,h6⟩:=h;refine⟨h1,?_,?_,?_,?_,?_⟩
 ·intro o ho d hd;have:=GA.1 h2 o ho;rw[hd] at this;simpa using this
 ·exact xz
 ·exact wV
 ·intro i hi;exact GA.1 h5 i (List.mem_range.2 hi)
 ·obtain⟨k,hk,hx⟩:=Array.any_eq_true.1 h6;exact sr
theorem Fin.last {front:List Oper} {φs:List Fact} {listed:Array Bool} {a:Act} {w:World} (hf:Fin P ops Q W a0 s t (knAll [] front φs)) (hlen:φs.length=front.length) (hin:∀o∈front,∀d,o.dst=some d->d<a0.tmps.size)
  (h:At front φs W a0 listed a w) (hall:∀i,i<front.length->listed.getD i false=true):sE P ops Q s t a w:=by
 exact CM
theorem pG {fuel:Nat} {listed:Array Bool} {a:Act} {w:World} {j:Nat} {o:Oper} (ho:ops[j]?=some o) (h1:if GO o (yielded ops a.tmps)=true then o.wp P a w (wpAny P .any ops Q fuel (listed.setIfInBounds j true)) Q else wpAny P .any ops Q fuel (listed.setIfInBounds j true) (a.put o.dst undef) w):wpOp P ops Q j (wpAny P .any ops Q fuel (listed.setIfInBounds j true)) a w:=by
 unfold wpOp;rw[ho];simp only;split
 ·rename_i hw;rw[if_pos hw] at h1;exact .inl h1
 ·rename_i hw;rw[if_neg hw] at h1;exact h1
theorem qQ {listed:Array Bool} (hz:listed.size=ops.size) (hall:∀i,i<ops.size->listed.getD i false=true):Ge .any ops listed=[]:=by
 cases hr:Ge .any ops listed with
 | nil=>rfl
 | cons j js=>
  have hm:j∈Ge .any ops listed:=by rw[hr];simp
  obtain⟨h1,o,ho,-⟩:=mem_ready.1 hm;have hj:=(FG.1 ho).1;rw[<-bK af,hall j hj] at h1
  cases h1
theorem A4 {fuel:Nat} {listed:Array Bool} {a:Act} {w:World} (hz:listed.size=ops.size) (hall:∀i,i<ops.size->listed.getD i false=true) (hq:Q .normal a w):wpAny P .any ops Q fuel listed a w:=by
 have hr:=qQ hz hall;cases fuel with
 | zero=>exact⟨hr,hq⟩
 | succ fuel=>exact⟨fun _=>hq,fun i hi=>by rw[hr] at hi;cases hi⟩
theorem bR {front:List Oper} {φs:List Fact} (hops:ops=(front++[s,t]).toArray) (hB:growB a0.tmps.size front s t=true) (hlen:φs.length=front.length)
  (hs:∀(i:Nat) (o:Oper) (φ:Fact),front[i]?=some o->φs[i]?=some φ->φ.bB/\Obl P ops Q W a0 (knAll [] (front.take i) (φs.take i)) o φ) (hf:Fin P ops Q W a0 s t (knAll [] front φs)):
  ∀(fuel:Nat) (listed:Array Bool) (a:Act) (w:World),listed.size=ops.size->listed.toList.count false<=fuel->listed.getD front.length false=false->listed.getD (front.length+1) false=false->Gt.Ac front φs W a0 listed a w->wpAny P .any ops Q fuel listed a w:=by
 obtain⟨hn,hin,hdep,hlt,hwait,e2,he2,hb2,hon2⟩:=cm hB;rw[<-hops] at hdep hlt;have hsz:ops.size=front.length+2:=by rw[hops];simp
 have hos:ops[front.length]?=some s:=by rw[hops];simp
 have hot:ops[front.length+1]?=some t:=by rw[hops];simp
 intro fuel;induction fuel with
 | zero=>
  intro listed a w hz hc hb hb' h;have h9:=dn (by omega:listed.toList.count false=0) front.length af;rw[hb] at h9
  cases h9
 | succ fuel ih=>
  intro listed a w hz hc hb hb' h;refine⟨fun hr=>?_,fun j hj=>?_⟩
  ·have h9:=Gs.ec hz hlt hr front.length af;rw[hb] at h9
   cases h9
  obtain⟨hun,o,ho,hall⟩:=mem_ready.1 hj;have hjs:j<ops.size:=(FG.1 ho).1;have hcs:=count_set (listed:=listed) (i:=j) af hun
  by_cases hjf:j<front.length
  ·have hof:front[j]?=some o:=by rw[hops] at ho;simpa[FN hjf] using ho
   have hφ:φs[j]?=some (φs[j]'(by omega)):=Fu _;obtain⟨hm,hob⟩:=hs j o _ hof hφ
   have hfacts:∀t∈o.looksAt ops,ai a0 (knAll [] (front.take j) (φs.take j)) a w t:=by
    intro t ht;unfold ai
    cases hk:(knAll [] (front.take j) (φs.take j)).lookup t with
    | some φ=>
     rcases b8 _ _ _ hk with ⟨i,p,h1,h2,h3⟩|h1
     ·have hij:i<j:=by have:=(Fm.1 h1).1;simp at this;omega
      rw[FR,if_pos hij] at h1 h3;obtain⟨-,e,he,hon,hbi⟩:=hdep j o hof t ht i p h1 h2;have hl:=hall e he hbi;rw[hon] at hl;exact h.old.known i p φ h1 h3 t h2 hl
     ·simp at h1
    | none=>
     refine h.old.other t (fun i p hp hd=>?_)
     exfalso
     obtain⟨hij,-⟩:=hdep j o hof t ht i p hp hd;have hi:=(Fm.1 hp).1;exact (b_ _ _ _ hk).2 i p (φs[i]'(by omega)) kX k9 hd
   have hkeep:∀i,¬j=i->listed.getD i false=false->(listed.setIfInBounds j true).getD i false=false:=fun i e h2=>by
    simpa[Fx,FL,e] using h2
   exact pG ho (hob a w _ h.old.size h.old.below hfacts (fun v w' hbw hv=>ih _ _ _ fO af (hkeep _ af hb) (hkeep _ af hb') ⟨h.old.step hn hin (fun i o φ h1 h2=>(hs i o φ h1 h2).1) hof hφ af hbw hv,fun j' o' ho' hl e he hbe=>(by
     by_cases ej:j=j'
     ·subst ej;obtain rfl:o=o':=Fq (hof.symm.trans ho');exact Gs.m8 (hall e he hbe)
     ·exact Gs.m8 (h.cl j' o' ho' (Gs.kS ej hl) e he hbe))⟩))
  ·by_cases hj1:j=front.length
   ·subst hj1;obtain rfl:s=o:=Fq (hos.symm.trans ho);have hfl:=fun i hi=>jy h.cl 12 s.after (hwait i hi) (fun e he hbe=>hall e he hbe);refine pG ho (Fin.last hf hlen hin h.old hfl _ (fun a' w' ht=>?_))
    have hz2:(listed.setIfInBounds front.length true).size=ops.size:=fO
    have hl2:∀i,i<front.length+1->(listed.setIfInBounds front.length true).getD i false=true:=fun i hi=>by
     by_cases e:front.length=i
     ·subst e
      simp[Fx,show front.length<listed.size from by omega]
     ·exact Gs.m8 (hfl i af)
    have hu2:(listed.setIfInBounds front.length true).getD (front.length+1) false=false:=by
     have e:¬front.length=front.length+1:=af
     simpa[Fx,FL,e] using hb'
    cases fuel with
    | zero=>
     have h9:=dn (by omega:(listed.setIfInBounds front.length true).toList.count false=0) (front.length+1) af;rw[hu2] at h9
     cases h9
    | succ fuel=>
     refine⟨fun hr=>?_,fun i hi=>?_⟩
     ·have h9:=Gs.ec hz2 hlt hr (front.length+1) af;rw[hu2] at h9
      cases h9
     ·obtain⟨hun2,o2,ho2,-⟩:=mem_ready.1 hi;have his:i<ops.size:=(FG.1 ho2).1
      have hie:i=front.length+1:=Classical.byContradiction fun e=>by
       have h9:=hl2 i af;rw[bK af] at h9;rw[h9] at hun2
       cases hun2
      subst hie;obtain rfl:t=o2:=Fq (hot.symm.trans ho2);refine pG ho2 (ht _ (fun a3 w3 hq=>A4 (by simpa using hz2) (fun i hi=>?_) hq))
      by_cases e:front.length+1=i
      ·subst e
       simp[Fx,show front.length+1<listed.size from by omega]
      ·exact Gs.m8 (hl2 i af)
   ·obtain rfl:j=front.length+1:=af
    obtain rfl:t=o:=Fq (hot.symm.trans ho);have h9:=hall e2 he2 hb2;rw[hon2,bK af] at h9;rw[bK af] at hb;rw[hb] at h9
    cases h9
end
theorem pe {P:Program} {id:Nat} {Q:Exit->Act->World->Prop} {a0:Act} {W:World} {l:List Oper} {front:List Oper} {s t:Oper} (hm:P.follows .mixedOrders=true) (hfr:l.dropLast.dropLast=front) (hss:l.dropLast.getLast?=some s) (htt:l.getLast?=some t) (hB:growB a0.tmps.size front s t=true)
  (h:au P l.toArray Q W a0 s t front []):(Hn id l.toArray true).wp P Q a0 W:=by
 have hl:l=front++[s,t]:=by
  obtain⟨l',rfl⟩:=List.getLast?_eq_some_iff.1 htt;rw[Hi] at hfr hss;obtain⟨l2,rfl⟩:=List.getLast?_eq_some_iff.1 hss;rw[Hi] at hfr;rw[<-hfr];simp
 obtain⟨φs,hlen,hs,hfi⟩:=au.spec _ _ h;refine wp_region_any hm (bR (by rw[hl]) hB hlen hs hfi _ _ _ _ aS ?_ ?_ ?_ ⟨⟨rfl,rfl,(Fw _ _).drew,fun i o φ h1 h2 d hd hx=>?_,fun d _=>rfl⟩,fun j o h1 hx=>?_⟩)
 ·exact lh
 ·exact a8 _ _
 ·exact a8 _ _
 ·rw[a8] at hx;cases hx
 ·rw[a8] at hx;cases hx
end Gu
end Go.Proofs.YtpejepeekdjfoaaGreatDoor

namespace Go.Proofs.YtpejepeekdjfoaaGreatDoor
open Go.RowKit
namespace Rc

end Rc
end Go.Proofs.YtpejepeekdjfoaaGreatDoor

namespace Go.Proofs.YtpejepeekdjfoaaGreatDoor
open Go.RowKit
namespace Rc
open Mk

end Rc
end Go.Proofs.YtpejepeekdjfoaaGreatDoor

namespace Go.Proofs.YtpejepeekdjfoaaGreatDoor
open Go.RowKit
namespace Rc

section
variable {P:Program}
end

end Rc
end Go.Proofs.YtpejepeekdjfoaaGreatDoor

namespace Go.Proofs.YtpejepeekdjfoaaGreatDoor
open Go.RowKit

end Go.Proofs.YtpejepeekdjfoaaGreatDoor

namespace Go.Proofs.YtpejepeekdjfoaaGreatDoor
open Go.RowKit Go.Shelf

attribute [local go_sem] Oper.semAt_some

attribute [local go_sem] Oper.semAt_some

end Go.Proofs.YtpejepeekdjfoaaGreatDoor

namespace Go.Proofs.YtpejepeekdjfoaaGreatDoor
open Go.RowKit
namespace Rc
open Mk

theorem gn (w:World) (o p q r:Obj):Below w.heap.size w ((((w.alloc o).alloc p).alloc q).alloc r):=(bI w o p q).alloc (by simp;omega) r
end Rc
end Go.Proofs.YtpejepeekdjfoaaGreatDoor

namespace Go.Proofs.YtpejepeekdjfoaaGreatDoor
open Go

end Go.Proofs.YtpejepeekdjfoaaGreatDoor

namespace Go.Proofs.YtpejepeekdjfoaaGreatDoor
open Go.RowKit
namespace Rc
open Mk

theorem Am (sv:Vd->Bool) (acc:Option Vd) (v:Vd):df sv acc v=some v\/df sv acc v=acc:=by
 unfold df;exact (Decidable.em _).elim (fun h=>.inl (if_pos h)) (fun h=>.inr (if_neg h))
theorem sP (sv:Vd->Bool) {u:Vd} :∀(vs:List Vd) (acc:Option Vd),vs.foldl (df sv) acc=some u->acc=some u\/u∈vs
 | [],acc,h=>.inl h
 | v ::vs,acc,h=>by
  have h2:=Am sv acc v;rcases sP sv vs (df sv acc v) h with h1|h1
  ·rcases h2 with h2|h2
   ·rw[h2] at h1;exact .inr (by rw[Fq h1];exact List.mem_cons_self ..)
   ·rw[h2] at h1;exact .inl h1
  ·exact .inr (List.mem_cons_of_mem _ h1)
theorem oX {sv:Vd->Bool} {vs:List Vd} {u:Vd} (h:dd sv vs=some u):∃j:Nat,vs[j]?=some u:=by
 rcases sP sv vs none h with h1|h1
 ·cases h1
 ·exact FW h1

end Rc
end Go.Proofs.YtpejepeekdjfoaaGreatDoor

namespace Go.Proofs.YtpejepeekdjfoaaGreatDoor
open Go.RowKit
namespace Gv

section
variable {P:Program} {ops:Array Oper} {Q:Exit->Act->World->Prop} {W:World} {a0:Act} {s u t:Oper}
end
end Gv
end Go.Proofs.YtpejepeekdjfoaaGreatDoor

namespace Go.Proofs.YtpejepeekdjfoaaGreatDoor
open Go.RowKit
namespace Rc
open Mk

end Rc
end Go.Proofs.YtpejepeekdjfoaaGreatDoor

namespace Go.Proofs.YtpejepeekdjfoaaGreatDoor
open Go.RowKit
namespace Rc

end Rc
end Go.Proofs.YtpejepeekdjfoaaGreatDoor

namespace Go.Proofs.YtpejepeekdjfoaaGreatDoor
open Go.RowKit
namespace Rc
open Mk

end Rc
end Go.Proofs.YtpejepeekdjfoaaGreatDoor

namespace Go.Proofs.YtpejepeekdjfoaaGreatDoor
open Go.RowKit Rc Mk

end Go.Proofs.YtpejepeekdjfoaaGreatDoor

namespace Go.Proofs.YtpejepeekdjfoaaGreatDoor
open Go.RowKit
namespace Rc

end Rc
end Go.Proofs.YtpejepeekdjfoaaGreatDoor

namespace Go.Proofs.YtpejepeekdjfoaaGreatDoor
open Go.RowKit Go.ChangeShapes Go.WideShapes Go.Deep

section
variable {H:Type} {enc:TypeId×Value->H} {P:Program} {w:World} {base:Nat} {spare:Nat->Bool} {held:Bool}

end

section
variable {H:Type} {enc:TypeId×Value->H} {w:World} {base:Nat} {spare:Nat->Bool} {held:Bool}

end

end Go.Proofs.YtpejepeekdjfoaaGreatDoor

namespace Go.Proofs.YtpejepeekdjfoaaGreatDoor
open Go.RowKit Go.ChangeShapes Go.WideShapes Go.Deep
namespace Rc

section
variable {H:Type} {enc:TypeId×Value->H} {w:World} {base:Nat} {spare:Nat->Bool} {held:Bool}

end

end Rc
end Go.Proofs.YtpejepeekdjfoaaGreatDoor
