import Derived.Test.YtiplhgedmjoliaaGreatDoorRows
import Derived.WalkKit
import Derived.WalkSpells
import Derived.OwnWalk
import Derived.Outline
import Derived.Laws.Cover1
import Derived.Lib.BufferWrite
import Derived.Laws.CopyOwn
import Derived.Deep.QuietTactic
import Derived.BigQuiet
import Derived.WalkSmall
import Derived.Laws.IdiomStrings
import Derived.Laws.AppendOwn
import Derived.Laws.AppendOwnNone
import Derived.Deep.AppendLies
import Derived.LaidEql
import Derived.Stop.Asserts
import Derived.RowKitTokens
import Derived.RegionTactic
import Derived.Lib.Overlaps
import Derived.Lib.SliceRun
import Derived.Lib.AppendZerosOnto
import Derived.Deep.RegionLaw
import Derived.Shelf.RegionOpenPlain
import Derived.Maps.OwnSet
import Derived.DeepKeys4
import Derived.WideKeyEntry
import Derived.OpenShut
import Derived.Lib.Bytealg
import Derived.RangeFuncNested
import Derived.RangeFuncBound
import Derived.RangeFuncCalls
import Derived.RangeFuncLeaves
import Derived.Shelf.Abstract
import Derived.Shelf.RegionOpen
import Derived.OwnWalkIn
import Derived.TacticsInMore
import Derived.LoopNIn
import Derived.LoopIn
import Derived.ScopeJumps
import Derived.WalkMore
import Derived.Deep.RegionWith
import Derived.Deep.CutRange
import Derived.Laws.StructEq
import Derived.BigRegion
import Derived.ChangeAlike
import Derived.Laws.Rows
import Derived.Lib.VarintMem
import Derived.Lib.Hide
import Derived.Lib.Slices
import Derived.Deep.Cut
import Derived.Stop.LaidErr
import Derived.ChangeVars
/-
 What NameRight of the program and of the specification answer: yes just where a text is a name: 1 to 20 bytes, the first a lower letter, the others lower letters, digits or '_'; at every text.
-/
set_option maxRecDepth 100000
set_option maxHeartbeats 12800000
open Bool renaming false→G_,true→Hb
open Go.Ending renaming returned→Ha
open Go.IntKind renaming i64→G6
open Go.Obj renaming cells→G7
open Go.Value renaming string→I,slice→J,int→GZ,bool→G8,agg→Hc,pointer→Hf,tuple→Hg
open Option renaming none→U,some→F_
open Or renaming inr→Hd,inl→He
open And renaming intro→Fk
open Array renaming getElem?_push_size→Fs, getD_eq_getD_getElem?→FD, getElem?_eq_some_iff→FJ
open Bool renaming and_eq_true→FU
open Go.Addr renaming add_lit→FC
open Go.Calls renaming quiet_of_same→FP
open Go.Lib renaming toList_data→GM
open Go.Op renaming bytesLess→Fx
open Go.Region renaming wanted→F5, binds→F9, ready→Ga
open Go.RowKit.Below renaming heap_setCell→Fl, refl→Ft, heap_alloc→Fy
open Go.Value renaming string→Fz, ownBlock→FX
open Go.World renaming setCell→Gb, cell?→Gc
open List renaming getElem?_eq_some_iff→Fm, lookup→Fo, getElem?_eq_getElem→Fu, length_map→FB, setIfInBounds_toArray→FF, getElem?_map→FG, forall_mem_cons→FH, getElem?_append_left→FI, mem_of_getElem?→FK, set_cons_zero→FL, set_cons_succ→FM, drop_eq_nil_of_le→FN, getElem?_take→FQ, take_of_length_le→FT, getElem?_of_mem→FV, length_take→FW, take_add_one→FZ, eq_nil_of_length_eq_zero→F6, foldr→F7, getElem?_eq_none→Gh, range→Gm, getElem?_set→GH
open Nat renaming le_refl→Fq, lt_of_lt_of_le→Fw, le_trans→FA, zero_add→FE, le_succ→FO, zero_le→FY
open Option renaming map_eq_some_iff→FR
open Option.some renaming inj→Fp
open UInt8 renaming lt_iff_toNat_lt→GG
namespace Go.Proofs.YtiplhgedmjoliaaGreatDoor
variable {p:Prop}
namespace Mk
end Mk
open Go.RowKit Mk
variable {α:Type} {H:Nat->Nat->Nat} {P:Program} {Q:Exit->Act->World->Prop} {S S':Nat->Prop} {T:TypeId} {W w' w1:World} {a:Option Addr} {a0:Act} {back:Option Oper} {base cap g h i id j:Nat} {cur:Array Value} {e:Ending} {front l rest:List Oper} {listed:Array Bool} {o:Oper} {ops:Array Oper} {r:List Value} {v0 v1 v2 v3 v4 v5 v6:Value} {vss:List (List Value)}
theorem af(h:p:=by omega):p:=h
theorem ah(h:p:=by decide):p:=h
theorem au(h:p:=by kernel_rfl):p:=h
theorem da(h:p:=by have:=(Fm.1 hz).1;omega):p:=h
theorem bT(h:p:=by first|trivial|rfl):p:=h
theorem aH(h:p:=by simp):p:=h
theorem bD(h:p:=by simp;omega):p:=h
theorem j5(h:p:=by simpa using (show (c.vs.map vdF).length=l3 from hr.v.1)):p:=h
theorem bY(h:p:=by cases h):p:=h
theorem eu(h:p:=by simpa using hr.1):p:=h
theorem rK(h:p:=by rw[FQ,if_pos hij];exact Fu _):p:=h
theorem nB(h:p:=by have:=(Fm.1 hj).1;omega):p:=h
theorem rJ(h:p:=by simpa using (show (c.ns.map ndF).length=l1 from hr.n.1)):p:=h
theorem nA(h:p:=by rw[Nat.sub_add_cancel hk0];exact HXx.out):p:=h
theorem rH(h:p:=by have:=(Fm.1 ht).1;omega):p:=h
theorem rG(h:p:=by rw[FQ,if_pos hij];exact hp):p:=h
theorem hM(h:p:=by simpa using h):p:=h
theorem uv(h:p:=by simpa using (show (c.xs.map xdF).length=l4 from hr.x.1)):p:=h
theorem uu(h:p:=by simpa using (show (c.ps.map pdF).length=l5 from hr.p.1)):p:=h
theorem nX(h:p:=by
 have HB:=HB1;clear HB1;have Bk:=Ck;clear Ck;clear ek;go_wp2_with fail;refine⟨⟨k+1,by omega,by go_num,λj z hj hz=>?_,λj z y hj hz hy=>?_,HB.out,Bk.out⟩,by simp[intOf];omega⟩
 ·exact wh
 ·by_cases e:j+1=k
  ·have hj:j=k - 1:=af
   subst hj;rw[Nat.sub_add_cancel hk0,HXx.out] at hz;obtain rfl:=Fp hz;rw[HXy.out] at hy;obtain rfl:=Fp hy;exact hless
  ·exact HO.out j z y af hz hy):p:=h
theorem nW(h:p:=by
 have HB:=HB1;clear HB1;have Bk:=Ck;clear Ck;clear hd;go_wp2_with fail;refine⟨⟨k+1,by omega,by go_num,λj z hj hz=>?_,λj z y hj hz hy=>?_,HB.out,Bk.out⟩,by simp[intOf];omega⟩
 ·exact wh
 ·by_cases e:j+1=k
  ·exact absurd hk0 af
  ·exact HO.out j z y af hz hy):p:=h
theorem nV(h:p:=by
 by_cases hn:x.n=t
 ·have hq:=aW hn;have HN:=ae hn;clear hn;go_wp2;go_ret;exact⟨aq _ _,He ⟨k,x,HX.out,HN.out,rfl⟩⟩
 ·have hq:=bH hn;have HN:=ae hn;clear hn;go_wp2;refine⟨⟨k+1,by omega,by go_num,by rw[ha],λj z hj hz=>?_⟩,by simp[intOf];omega⟩;exact we):p:=h
theorem fL(h:p:=by
 have HN:=ae (λh=>hq (hr.2 h));clear hr;go_wp2_with fail;go_ret;exact⟨G_,rfl,⟨λh=>bY,λh=>(HN.out (h.1)).elim⟩,aq _ _⟩):p:=h
theorem ik(h:p:=by
 have HN:=ae (λh=>hq (hr.2 h));clear hr;go_wp2_with fail;go_ret;exact⟨G_,rfl,⟨λh=>bY,λh=>(HN.out (h.2.2.1)).elim⟩,aq _ _⟩):p:=h
theorem ij(h:p:=by
 have HN:=ae (λh=>hq (hr.2 h));clear hr;go_wp2_with fail;go_ret;exact⟨G_,rfl,⟨λh=>bY,λh=>(HN.out (h.2.1)).elim⟩,aq _ _⟩):p:=h
theorem CH(h:p:=by
 have e:aN a0 (knAll [] front φs) (λt=>a.tmps.getD t undef)=a:=by
  refine AG ((dn _ _ _).trans h.size.symm) ((dp _ _ _).trans h.defers.symm) (λt=>il a0 a _ (λp hp=>?_) t (λhn=>?_))
  ·rcases dC front φs [] hp with ⟨i,o,h1,h2,h3⟩|h1
   ·exact hin o (FK h1) _ h2
   ·simp at h1
  ·refine h.other t (λi o ho hd=>?_);exfalso;have hi:=(Fm.1 ho).1;have hφ:φs[i]?=F_ (φs[i]'(by omega)):=Fu _;cases hk:(knAll [] front φs).lookup t with
   | none=>exact (cS front φs [] hk).2 i o _ ho hφ hd
   | some φ=>
    have:∃p∈knAll [] front φs,p.1=t:=by
     revert hk
     generalize knAll [] front φs=l
     intro hk
     induction l with
     | nil=>simp at hk
     | cons p l ih=>
      rw[List.lookup_cons] at hk
      cases hb:t==p.1 with
      | true=>exact⟨p,by simp,(by simpa using hb:t=p.1).symm⟩
      | false=>
       rw[hb] at hk;obtain⟨q,hq,he⟩:=ih hk;exact⟨q,by simp[hq],he⟩
    obtain⟨p,hp,he⟩:=this;exact hn p hp he
 rw[e] at h1;exact h1):p:=h
theorem lx(h:p:=by
 have HN:=ae (λh=>hq (hr.2 h));clear hr;go_wp2_with fail;go_ret;exact⟨G_,rfl,⟨λh=>bY,λh=>(HN.out (h.2.2.2.1)).elim⟩,aq _ _⟩):p:=h
theorem u7(h:p:=by
 obtain⟨φ,hφ,ho,hr⟩:=h;obtain⟨φs,hl,hs,hf⟩:=Grow.spec l _ hr;refine⟨φ ::φs,by simp[hl],?_,hf⟩;intro i o' φ' h1 h2;cases i with
 | zero=>
  simp only[List.getElem?_cons_zero,Option.some.injEq] at h1 h2;subst h1;subst h2;exact⟨hφ,ho⟩
 | succ i=>
  simp only[List.getElem?_cons_succ] at h1 h2
  simpa[knAll] using hs i o' φ' h1 h2):p:=h
theorem lu(h:p:=by
 obtain⟨b,o,r,h1,h2,h3,h4⟩:=h.at hj;rw[FG] at h3;obtain⟨x,h5,rfl⟩:=FR.1 h3;exact⟨b,o,x,h1,h2,h5,h4⟩):p:=h
theorem nR(h:p:=by
 rintro e w' ⟨hb,h⟩;rcases h with ⟨i,y,h1,h2,rfl⟩|⟨h1,rfl⟩
 ·obtain⟨rfl,_⟩:=hs.inj h1 hx (h2.trans hn.symm);exact⟨rfl,hb⟩
 ·exact absurd hn (h1 j x hx)):p:=h
theorem nQ(h:p:=by
 have HN:=ae (λh=>hq (hr.2 h));clear hr;go_wp2_with fail;go_ret;exact⟨G_,rfl,⟨λh=>bY,λh=>(HN.out (h.2.2.2.2.1)).elim⟩,aq _ _⟩):p:=h
theorem Cw(h:p:=by
 intro j o ho t ht i p hp hd;have hj:j<front.length:=(Fm.1 ho).1;have hi:i<front.length:=(Fm.1 hp).1;have:=List.all_eq_true.1 h3 j (List.mem_range.2 hj);rw[ho] at this;have:=List.all_eq_true.1 this t ht;have:=List.all_eq_true.1 this i (List.mem_range.2 hi);rw[hp] at this;simp only[hd,bne_self_eq_false,Bool.false_or,FU,decide_eq_true_eq] at this;exact wH):p:=h
theorem Cq(h:p:=by
 induction known with
 | nil=>exact (h (λp hp=>by simp at hp)).symm
 | cons p l ih=>
  have e:aN a0 (p ::l) (λt=>a.tmps.getD t undef)=(aN a0 l (λt=>a.tmps.getD t undef)).put (F_ p.1) (a.tmps.getD p.1 undef):=rfl;rw[e,iz,dn]
  by_cases hp:p.1=t
  ·subst hp;rw[if_pos ⟨rfl,hk p aH⟩]
  ·rw[if_neg (λh=>hp h.1)]
   exact ih (λq hq=>hk q (by simp[hq])) (λhn=>h (λq hq=>by
    rcases List.mem_cons.1 hq with rfl|hq
    ·exact hp
    ·exact hn q hq))):p:=h
theorem nO(h:p:=by
 go_wp2;go_ret;exact⟨aq _ _,Hd ⟨λj z hz=>HE.out j z da hz,rfl⟩⟩):p:=h
theorem Ci(h:p:=by
 intro t ht;have hne:o.dst≠F_ t:=λhd=>by
  have:=ht j o ho hd;simp[FD,hj] at this
 have h1:=h.other t (λi p hp hd=>by
  have h2:=ht i p hp hd
  have e:¬j=i:=λe=>by subst e;exact hne (by rw[Fp (ho.symm.trans hp)];exact hd)
  simpa[FD,Array.getElem?_setIfInBounds,e] using h2)
 exact wi):p:=h
theorem nN(h:p:=by
 rintro e w' ⟨hb,h⟩;rcases h with ⟨i,y,h1,h2,rfl⟩|⟨h1,rfl⟩
 ·exact absurd h2 (hn i y h1)
 ·exact⟨rfl,hb⟩):p:=h
theorem Ca(h:p:=by
 obtain⟨h1,h2⟩:=cS l φs (kn o.dst ψ known) h;rw[jh] at h1;by_cases hd:o.dst=F_ t
 ·rw[if_pos hd] at h1;cases h1
 ·rw[if_neg hd] at h1;refine⟨h1,λi o' φ h3 h4=>?_⟩;cases i with
  | zero=>simp only[List.getElem?_cons_zero,Option.some.injEq] at h3;subst h3;exact hd
  | succ i=>exact h2 i o' φ (by simpa using h3) (by simpa using h4)):p:=h
theorem rU(h:p:=by
 go_wp2;go_round;case rel=>exact⟨k+1,by omega,by go_num,lC hlt HB.out HA.out⟩
 case measure=>simp[intOf];omega):p:=h
theorem B7(h:p:=by
 rcases dC l φs (kn o.dst ψ known) h with ⟨i,o',h1,h2,h3⟩|h
 ·exact He ⟨i+1,o',by simpa using h1,h2,by simpa using h3⟩
 ·cases hd:o.dst with
  | none=>rw[hd] at h;exact Hd h
  | some d=>
   rw[hd] at h;simp only[kn,List.mem_cons] at h
   rcases h with rfl|h
   ·exact He ⟨0,o,rfl,hd,rfl⟩
   ·exact Hd h):p:=h
theorem BY(h:p:=by
 rcases cR l φs (kn o.dst ψ known) h with ⟨i,o',h1,h2,h3⟩|h
 ·exact He ⟨i+1,o',by simpa using h1,h2,by simpa using h3⟩
 ·rw[jh] at h;by_cases hd:o.dst=F_ t
  ·rw[if_pos hd] at h;exact He ⟨0,o,rfl,hd,by simpa using h⟩
  ·rw[if_neg hd] at h;exact Hd h):p:=h
theorem lW(h:p:=by
 have:=List.count_le_length (a:=G_) (l:=(Array.replicate l.toArray.size G_).toList);simp at this ⊢):p:=h
theorem yN(h:p:=by
 intro j o ho e he;have hj:j<(front++back.toList).toArray.size:=(FJ.1 ho).1;have:=List.all_eq_true.1 h4 j (List.mem_range.2 hj);rw[ho] at this;have:=Array.all_eq_true.1 this;obtain⟨k,hk,rfl⟩:=Array.mem_iff_getElem.1 he;simpa using this k hk):p:=h
theorem pZ(h:p:=by
 go_wp2;go_ret;exact⟨congrArg (λz=>Ending.returned (GZ G6 z)) (HS.trans (by rw[FT af])),HB.out⟩):p:=h
theorem pY(h:p:=by
 cases hk:back with
 | none=>rw[hk] at h1;exact h1
 | some o=>
  have h2:=hb o hk;rw[hall _ (by rw[hsz,hk];simp)] at h2
  cases h2):p:=h
theorem yI(h:p:=by
 rw[FE,ar hg];have hj:j<n:=by have:=(Fm.1 hx).1;omega
 have e1:(cur.toList.take (n*1))[j]?=F_ (I x):=by rw[htk];simp[hx]
 rw[FQ,if_pos af] at e1;simpa using e1):p:=h
theorem kd(h:p:=by
 obtain⟨q,h1,h2⟩:=haty 0 _ rfl;obtain⟨rfl,-⟩:=h2;exact h1):p:=h
theorem pV(h:p:=by
 go_wp2_with (go_at_call 36;refine (jM _ _ _ _).mono ?_;rintro e w1 ⟨r,rfl,hr,rfl⟩);go_ret;exact⟨r,rfl,hr,rfl⟩):p:=h
theorem yE(h:p:=by
 by_cases h:∃v,bh c t v
 ·exact He h
 ·exact Hd (λv hv=>h ⟨v,hv⟩)):p:=h
theorem yz(h:p:=by
 cases d with
 | none=>simp[kn]
 | some d=>
  simp only[kn,Option.some.injEq,List.lookup_cons]
  by_cases h:d=t
  ·subst h;simp
  ·rw[if_neg h]
   have:(t==d)=G_:=by simpa using λe=>h e.symm
   rw[this]):p:=h
theorem yt(h:p:=by
 obtain⟨h1,h2,h3,h5⟩:=h;refine⟨h1,h2,h3,?_⟩;rcases h5 with h5|⟨b,o,rfl,hlt,hc⟩
 ·exact Or.inl h5
 ·exact Or.inr ⟨b,o,rfl,Fw hlt hb.size,λj v hv=>(hc j v hv).below hlt hb⟩):p:=h
theorem yo(h:p:=by
 have HN:=ae (λh=>hq (hr.2 h));clear hsl hb hb1 hr;go_wp2_with fail;go_ret;exact⟨G_,rfl,⟨λh=>bY,λh=>(HN.out (f_ h.2.2.2.2.2.2)).elim⟩,HB.out⟩):p:=h
theorem lV(h:p:=by
 go_wp2;go_ret;exact⟨G_,rfl,by unfold aV;simp;omega,rfl⟩):p:=h
theorem lU(h:p:=by
 clear HQ;go_wp2;go_ret;exact av.t ⟨HQ1.out,HQ2.out⟩ HB.out):p:=h
theorem pO(h:p:=by
 obtain⟨l',rfl⟩:=List.getLast?_eq_some_iff.1 hb;rw[<-hf];simp):p:=h
theorem xK(h:p:=by
 go_wp2;go_ret;refine⟨Hb,rfl,?_,rfl⟩;simp only[true_iff];exact⟨by omega,by omega,λi h=>HA.out i h af⟩):p:=h
theorem xx(h:p:=by
 rw[if_pos hw];exact h a w K h1 h2 (λt ht=>h3 t (by unfold Oper.looksAt;exact List.mem_append_left _ ht)) h4):p:=h
theorem xv(h:p:=by
 rcases h5 with h5|⟨b,o,rfl,hlt,hc⟩
 ·subst h5;simp at h1;omega
 ·exact⟨b,o,_,rfl,hlt,hx,hc j _ hx⟩):p:=h
theorem xu(h:p:=by
 show _=_;rw[je HX.out,if_neg (λh=>by have:=HI.2 h;cases this),<-HS.out,Int.add_zero]):p:=h
theorem xt(h:p:=by
 rcases Nat.lt_or_ge b w.heap.size with h1|h1
 ·exact h1
 ·rw[Array.getElem?_eq_none h1] at h;cases h):p:=h
theorem xo(h:p:=by
 rw[ht,iz,if_pos ⟨rfl,by rw[h.size];exact hin o (FK ho) t ht⟩];exact hv):p:=h
theorem wH(h:p:=by
 obtain⟨h6,h7⟩:=this;obtain⟨k,hk,hx⟩:=Array.any_eq_true.1 h7;simp only[FU,beq_iff_eq] at hx;exact⟨h6,_,Array.getElem_mem hk,hx.1,hx.2⟩):p:=h
theorem wE(h:p:=by
 rintro e w1 ⟨r,rfl,hr,rfl⟩;go_wp2_with fail;go_ret;exact⟨r,rfl,⟨λh=>⟨h0.out,h1.out,h2.out,hr.1 h⟩,λh=>hr.2 h.2.2.2⟩,aq _ _⟩):p:=h
theorem wv(h:p:=by
 rintro e w1 ⟨r,rfl,hr,rfl⟩;go_wp2_with fail;go_ret;exact⟨r,rfl,⟨λh=>⟨h0.out,hr.1 h⟩,λh=>hr.2 h.2⟩,aq _ _⟩):p:=h
theorem wi(h:p:=by
 cases hd:o.dst with
 | none=>exact h1
 | some d=>
  rw[iz,if_neg (λhx=>hne (hd.trans (by rw[hx.1])))];exact h1):p:=h
theorem wh(h:p:=by
 by_cases e:j=k
 ·subst e;rw[HXx.out] at hz;obtain rfl:=Fp hz;exact HOK.out
 ·exact HQ.out j z af hz):p:=h
theorem we(h:p:=by
 by_cases e:j=k
 ·subst e;rw[HX.out] at hz;obtain rfl:=Fp hz;exact HN.out
 ·exact HE.out j z af hz):p:=h
theorem vZ(h:p:=by
 go_wp2;go_ret;exact⟨G_,rfl,⟨λh=>bY,λh=>absurd (h.2.2.2.2.2.1 rfl) hm0⟩,aq _ _⟩):p:=h
theorem ew(h:p:=by
 have HR:=ae hr;have hl1:c.ns.length=l1:=rJ
 have hm1:l1<=9223372036854775807:=FA hr.n.2.1 hr.n.2.2.1;have hl2:c.ks.length=l2:=by simpa using (show (c.ks.map kdF).length=l2 from hr.k.1)
 have hm2:l2<=9223372036854775807:=FA hr.k.2.1 hr.k.2.2.1;have hl3:c.vs.length=l3:=j5
 have hm3:l3<=9223372036854775807:=FA hr.v.2.1 hr.v.2.2.1;have hl4:c.xs.length=l4:=uv
 have hm4:l4<=9223372036854775807:=FA hr.x.2.1 hr.x.2.2.1;have hl5:c.ps.length=l5:=uu
 have hm5:l5<=9223372036854775807:=FA hr.p.2.1 hr.p.2.2.1;exact Fk HR (Fk hl1 (Fk hm1 (Fk hl2 (Fk hm2 (Fk hl3 (Fk hm3 (Fk hl4 (Fk hm4 (Fk hl5 hm5)))))))))):p:=h
theorem gu(h:p:=by
 have x0:=λq:Wd wr=>(q.cell hb).trans c0;have x1:=λq:Wd wr=>(q.cell hb).trans c1;have x2:=λq:Wd wr=>(q.cell hb).trans c2;have x3:=λq:Wd wr=>(q.cell hb).trans c3;have x4:=λq:Wd wr=>(q.cell hb).trans c4;exact Fk x0 (Fk x1 (Fk x2 (Fk x3 x4)))):p:=h
theorem nI(h:p:=by
 have v1w:=λq:Wd w2=>(q.cell hbv).trans v1;have v3w:=λq:Wd w2=>(q.cell hbv).trans v3;have v4w:=λq:Wd w2=>(q.cell hbv).trans v4;have v5w:=λq:Wd w2=>(q.cell hbv).trans v5;have hne0:=Wd.ne w2;exact Fk v1w (Fk v3w (Fk v4w (Fk v5w hne0)))):p:=h
theorem rQ(h:p:=by
 have HW:=HB;have k1:=λq:Wd wr=>q.slot (o:=1) Gk.out rfl;have x0:=λq:Wd wr=>(q.cell hb).trans c0;have x1:=λq:Wd wr=>(q.cell hb).trans c1;have x2:=λq:Wd wr=>(q.cell hb).trans c2;have x3:=λq:Wd wr=>(q.cell hb).trans c3;exact Fk HW (Fk k1 (Fk x0 (Fk x1 (Fk x2 x3))))):p:=h
theorem cf(h:p:=by
 have Ck:=upK Gk q1.b;have Cr:=upK Gr q1.b;exact Fk Ck Cr):p:=h
theorem uI(h:p:=by
 have Gk:=Bk;have Gx:=Bx;have Gy:=By;have HW:=HB;have k2:=λq:Wd q1.w=>q.slot (o:=2) Gk.out rfl;have x3:=λq:Wd q1.w=>q.slot (o:=3) Gx.out rfl;have y3:=λq:Wd q1.w=>q.slot (o:=3) Gy.out rfl;have tw:=λq:Wd q1.w=>(q.cell hbw1).trans hcw1;have vw:=λq:Wd q1.w=>(q.cell hbv1).trans hcv1;have hne0:=Wd.ne q1.w;exact Fk Gk (Fk Gx (Fk Gy (Fk HW (Fk k2 (Fk x3 (Fk y3 (Fk tw (Fk vw hne0))))))))):p:=h
theorem ju(h:p:=by
 have x5:=λq:Wd wr=>(q.cell hb).trans c5;have x6:=λq:Wd wr=>(q.cell hb).trans c6;exact Fk x5 x6):p:=h
theorem bJ(h:p:=by
 have Gk:=Bk;have Gr:=Br;have HW:=HB;exact Fk Gk (Fk Gr HW)):p:=h
theorem gE(h:p:=by
 have yw:=λq:Wd wr=>(q.cell hb).trans y0;have hne0:=Wd.ne wr;exact Fk yw hne0):p:=h
theorem di(h:p:=by
 have HB1:=upB HW q.b;have Ck:=upK Gk q.b;exact Fk HB1 Ck):p:=h
theorem dU(h:p:=by
 have HB2:=upB HW q2.b;have Ck:=upK Gk q2.b;exact Fk HB2 Ck):p:=h
theorem Bq(h:p:=by
 have yw:=λq:Wd w1=>(q.cell hbv).trans hcv;have hne0:=Wd.ne w1;have HC0:=ae (λq:Wd w1=>dm ⟨a1,l1,y1,a2,l2,y2,(F_ ⟨b,o,U⟩),l3,y3,(F_ ⟨b4,o4,U⟩),l4,y4,a5,l5,y5⟩ c.now c.ks v.k q.w (HR.k.below (HW.trans (q.b.mono HW.size))) HKS.out HG1.out HG2.out);exact Fk yw (Fk hne0 HC0)):p:=h
theorem eK(h:p:=by
 have HB1:=upB HW q1.b;have Ck:=upK Gk q1.b;exact Fk HB1 Ck):p:=h
theorem j7(h:p:=by
 have HW:=HB;have k3:=λq:Wd wr=>q.slot (o:=3) Gk.out rfl;exact Fk HW k3):p:=h
theorem j6(h:p:=by
 have HW:=HB;have k4:=λq:Wd wr=>q.slot (o:=4) Gk.out rfl;exact Fk HW k4):p:=h
theorem A7(h:p:=by
 have hne0:=Wd.ne w1;have HC0:=ae (λq:Wd w1=>dm ⟨a1,l1,y1,a2,l2,y2,(F_ ⟨b,o,U⟩),l3,y3,a4,l4,y4,a5,l5,y5⟩ c.now c.ks v.k q.w (HR.k.below (HW.trans (q.b.mono HW.size))) HKS.out HG1.out HG2.out);exact Fk hne0 HC0):p:=h
theorem j_(h:p:=by
 have hd:decide ((0:Int)<k)=G_:=by simp;omega
 have Gk:=Bk;exact Fk hd Gk):p:=h
theorem fK(h:p:=by
 have HX:=ae hx;have HV:=ae hv;have HNE:=ae hne;exact Fk HX (Fk HV HNE)):p:=h
theorem uR(h:p:=by
 have Gk:Hid (wr.heap[w.heap.size]?=F_ (G7 (clo6 (F_ ⟨b,o,U⟩) l1 y1 a2 l2 y2 a3 l3 y3 a4 l4 y4 a5 l5 y5 c.now) 29 (0,0))):=Bk.out;have HW:=HB;have k0:=λq:Wd wr=>q.slot (o:=0) Gk.out rfl;exact Fk Gk (Fk HW k0)):p:=h
theorem uQ(h:p:=by
 have Gk:Hid (wr.heap[w.heap.size]?=F_ (G7 (clo6 a1 l1 y1 a2 l2 y2 (F_ ⟨b,o,U⟩) l3 y3 a4 l4 y4 a5 l5 y5 c.now) 29 (0,0))):=Bk.out;have HW:=HB;have k2:=λq:Wd wr=>q.slot (o:=2) Gk.out rfl;exact Fk Gk (Fk HW k2)):p:=h
def kK(b:Int):Bool:=decide (97<=b) && decide (b<=122)
def AB(b:Int):Bool:=decide (48<=b) && decide (b<=57)
def nbB(b:Int):Bool:=kK b || AB b || decide (b=95)
def okB(i:Nat) (b:Int):Bool:=if i=0 then kK b else nbB b
def aV(s:ByteArray):Prop:=1<=s.size/\s.size<=20/\∀i (h:i<s.size),okB i ((s[i]'h).toNat:Int)=Hb
def cO(p:Prop) (w:World) (e:Ending) (w':World):Prop:=∃r:Bool,e=Ha (G8 r)/\(r=Hb↔p)/\w=w'
theorem ir {s:ByteArray} {k:Nat} (hlt:k<s.size) (h:okB k ((s[k]'hlt).toNat:Int)=G_):(G_=Hb↔aV s):=by
 constructor
 ·intro h;cases h
 ·intro h3;have:=h3.2.2 k hlt;rw[h] at this;exact this
theorem lC {s:ByteArray} {k:Nat} (hlt:k<s.size) (h:okB k ((s[k]'hlt).toNat:Int)=Hb) (ha:∀i (h:i<s.size),i<k->okB i ((s[i]'h).toNat:Int)=Hb):
  ∀i (h:i<s.size),i<k+1->okB i ((s[i]'h).toNat:Int)=Hb:=by
 intro i hi hk;by_cases e:i=k
 ·subst e;exact h
 ·exact ha i hi af
theorem bo(s:ByteArray) (w:World) (hs:s.size<=9223372036854775807):
  Calls Tryz.prog 137 #[I s] w (cO (aV s) w):=by
 by_cases h1:s.size<1
 ·go_enter Tryz.func137,Tryz.ntmps137;exact lV
 by_cases h2:20<s.size
 ·go_enter Tryz.func137,Tryz.ntmps137;exact lV
 go_enter Tryz.func137,Tryz.ntmps137;go_wp2;go_loop [3] (λi=> ∃k:Nat,k<=s.size/\i=GZ G6 k/\∀i (h:i<s.size),i<k->okB i ((s[i]'h).toNat:Int)=Hb) (λi=>s.size - (intOf i).toNat);case atStart=>exact⟨0,by omega,rfl,λi _ h=>by omega⟩
 case round=>
  obtain⟨k,hk,rfl,hall⟩:=hrel;have HA:Hid (∀i (h:i<s.size),i<k->okB i ((s[i]'h).toNat:Int)=Hb):=hall;clear hall;by_cases hlt:k<s.size
  ·cases hok:okB k ((s[k]'hlt).toNat:Int)
   ·have HB:Hid (okB k ((s[k]'hlt).toNat:Int)=G_):=hok;by_cases hk0:k=0
    ·have hkb:((k:Int)==0)=Hb:=by simp[hk0]
     have hk1:k<1:=af
     unfold okB kK at hok;rw[if_pos hk0] at hok;simp only[Bool.and_eq_false_iff,decide_eq_false_iff_not] at hok;clear hk0;rcases (show ((s[k]'hlt).toNat:Int)<97\/(97<=((s[k]'hlt).toNat:Int)/\122<((s[k]'hlt).toNat:Int)) by omega) with hA|⟨hA,hB⟩;all_goals
      clear hok
      go_wp2
      all_goals first|(exfalso;rename_i hx;simp at hx;omega)|(go_ret;exact⟨G_,rfl,ir hlt HB.out,rfl⟩)
    ·have hkb:((k:Int)==0)=G_:=by simp[hk0]
     unfold okB nbB kK AB at hok;rw[if_neg hk0] at hok;simp only[Bool.or_eq_false_iff,Bool.and_eq_false_iff,decide_eq_false_iff_not] at hok;have hne:(((s[k]'hlt).toNat:Int) !=95)=Hb:=by simp;omega
     rcases (show (((s[k]'hlt).toNat:Int)<97\/(97<=((s[k]'hlt).toNat:Int)/\122<((s[k]'hlt).toNat:Int)))/\(((s[k]'hlt).toNat:Int)<48\/(48<=((s[k]'hlt).toNat:Int)/\57<((s[k]'hlt).toNat:Int))) by omega) with ⟨hA|⟨hA,hB⟩,hC|⟨hC,hD⟩⟩;all_goals
      clear hok
      try omega
     all_goals
      go_wp2
      all_goals first|(exfalso;rename_i hx;simp at hx;omega)|(go_ret;exact⟨G_,rfl,ir hlt HB.out,rfl⟩)
   ·have HB:Hid (okB k ((s[k]'hlt).toNat:Int)=Hb):=hok;by_cases hk0:k=0
    ·have hkb:((k:Int)==0)=Hb:=by simp[hk0]
     have hk1:k<1:=af
     unfold okB kK at hok;rw[if_pos hk0] at hok;simp only[FU,decide_eq_true_eq] at hok;obtain⟨hA,hB⟩:=hok;clear hk0;exact rU
    ·have hkb:((k:Int)==0)=G_:=by simp[hk0]
     unfold okB nbB kK AB at hok;rw[if_neg hk0] at hok;simp only[Bool.or_eq_true,FU,decide_eq_true_eq] at hok;rcases (show (97<=((s[k]'hlt).toNat:Int)/\((s[k]'hlt).toNat:Int)<=122)\/(48<=((s[k]'hlt).toNat:Int)/\((s[k]'hlt).toNat:Int)<=57)\/(95<=((s[k]'hlt).toNat:Int)/\((s[k]'hlt).toNat:Int)<=95) by omega) with ⟨hA,hB⟩|⟨hA,hB⟩|⟨hA,hB⟩
     ·clear hok;exact rU
     ·clear hok;exact rU
     ·clear hok;have hne:(((s[k]'hlt).toNat:Int) !=95)=G_:=by simp;omega
      exact rU
  ·exact xK
def aD(w:World) (a:Option Addr) (len cap:Nat) (zs:List ByteArray):Prop:=
 zs.length=len/\len<=cap/\cap<=9223372036854775807/\(∀(j:Nat) x,zs[j]?=F_ x->x.size<=9223372036854775807)/\
 (zs=[]\/∃b o,a=F_ ⟨b,o,U⟩/\b<w.heap.size/\∀(j:Nat) x,zs[j]?=F_ x->w.cell? ⟨b,o+j,U⟩=F_ (I x))
theorem aj {w:World} (hb:Below w.heap.size w w') {b o:Nat} (h:b<w.heap.size):w'.cell? ⟨b,o,U⟩=w.cell? ⟨b,o,U⟩:=by
 simp[Gc,hb.block b h]
theorem aD.below {w:World} {len:Nat} {zs:List ByteArray} (h:aD w a len cap zs) (hb:Below w.heap.size w w'):aD w' a len cap zs:=by
 obtain⟨h1,h2,h3,h4,h5⟩:=h;refine⟨h1,h2,h3,h4,?_⟩;rcases h5 with h5|⟨b,o,rfl,hlt,hc⟩
 ·exact Or.inl h5
 ·exact Or.inr ⟨b,o,rfl,Fw hlt hb.size,λj x hx=>by rw[aj hb hlt];exact hc j x hx⟩
theorem aD.at {w:World} {len:Nat} {zs:List ByteArray} (h:aD w a len cap zs) {k:Nat} (hk:k<len):
  ∃b o x,a=F_ ⟨b,o,U⟩/\b<w.heap.size/\zs[k]?=F_ x/\w.cell? ⟨b,o+k,U⟩=F_ (I x)/\x.size<=9223372036854775807:=by
 obtain⟨h1,h2,h3,h4,h5⟩:=h;have hx:zs[k]?=F_ (zs[k]'(by omega)):=Fu _;rcases h5 with h5|⟨b,o,rfl,hlt,hc⟩
 ·subst h5;simp at h1;omega
 ·exact⟨b,o,_,rfl,hlt,hx,hc k _ hx,h4 k _ hx⟩
theorem dI:(Tryz.prog.info? 9).map (λi=>(i.zero,i.size,i.bytes))=F_ (F_ (I ⟨#[]⟩),1,16):=by kernel_rfl
theorem az {w:World} {cs:Array Value} {t:TypeId} {fr:Nat×Nat} (h:w.heap[g]?=F_ (G7 cs t fr)) (v:Value):(w.setCell ⟨g,i,U⟩ v).heap[g]?=F_ (G7 (cs.setIfInBounds i v) t fr):=by
 obtain⟨hl,hh⟩:=FJ.1 h;unfold Gb;simp[Array.getElem?_modify,h]
theorem bH {a b:ByteArray} (h:¬a=b):(a.toList==b.toList)=G_:=by
 rw[beq_eq_false_iff_ne];intro e;rw[GM,GM] at e;exact h (by cases a;cases b;simp at e;rw[e])
def av(p:Prop) (w:World) (e:Ending) (w':World):Prop:=∃r:Bool,e=Ha (G8 r)/\(r=Hb↔p)/\Below w.heap.size w w'
def gR(zs:List ByteArray):Prop:=∀(i:Nat) x,zs[i]?=F_ x->aV x/\∀y,0<i->zs[i - 1]?=F_ y->Fx y.toList x.toList=Hb
def ed(zs:List ByteArray) (most:Int):Prop:=(zs.length:Int)<=most/\gR zs
theorem fP:∀x y:List UInt8,(Fx y x || y==x)=!Fx x y
 | [],[]=>by simp[Fx]
 | _ ::_,[]=>by simp[Fx]
 | [],_ ::_=>by simp[Fx]
 | a ::x,b ::y=>by
  have ih:=fP x y;simp only[Fx];rcases Nat.lt_trichotomy a.toNat b.toNat with h|h|h
  ·have h1:=GG.2 h;have h2:¬b<a:=λh'=>by have:=GG.1 h';omega
   have h3:¬b=a:=λh'=>by subst h';omega
   simp[h1,h2,h3]
  ·obtain rfl:a=b:=UInt8.toNat_inj.1 h;have h2:¬a<a:=λh'=>by have:=GG.1 h';omega
   simp[h2];simpa using ih
  ·have h1:=GG.2 h;have h2:¬a<b:=λh'=>by have:=GG.1 h';omega
   have h3:¬a=b:=λh'=>by subst h';omega
   simp[h1,h2,h3]
theorem cO.yes {p:Prop} {w:World} (h:cO p w e w') (hp:p):e=Ha (G8 Hb)/\w'=w:=by
 obtain⟨r,rfl,hr,rfl⟩:=h;exact⟨by rw[hr.2 hp],rfl⟩
theorem cO.no {p:Prop} {w:World} (h:cO p w e w') (hp:¬p):e=Ha (G8 G_)/\w'=w:=by
 obtain⟨r,rfl,hr,rfl⟩:=h;cases r
 ·exact⟨rfl,rfl⟩
 ·exact absurd (hr.1 rfl) hp
theorem gR.step {zs:List ByteArray} {k:Nat} {x:ByteArray} (h:gR (zs.take k)) (hx:zs[k]?=F_ x) (hn:aV x) (hy:∀y,0<k->zs[k - 1]?=F_ y->Fx y.toList x.toList=Hb):gR (zs.take (k+1)):=by
 intro i z hz;rw[FQ] at hz;split at hz
 ·rename_i hi;by_cases e:i=k
  ·subst e;rw[hx] at hz;obtain rfl:=Fp hz;refine⟨hn,λy h0 h1=>hy y h0 ?_⟩;rw[FQ,if_pos af] at h1;exact h1
  ·have:=h i z (by rw[FQ,if_pos af];exact hz);refine⟨this.1,λy h0 h1=>this.2 y h0 ?_⟩;rw[FQ,if_pos af] at h1 ⊢;exact h1
 ·cases hz
theorem fi(a:Option Addr) (len cap:Nat) (zs:List ByteArray) (most:Int) (w:World) (hr:aD w a len cap zs):
  Calls Tryz.prog 139 #[J a len cap,GZ G6 most] w (av (ed zs most) w):=by
 have HR:Hid (aD w a len cap zs):=hr;have hlc:=FA hr.2.1 hr.2.2.1;have hzl:=hr.1;clear hr;go_enter Tryz.func139,Tryz.ntmps139;go_wp2;go_loopw [5] (λi wr=> ∃k:Nat,k<=len/\i=GZ G6 k/\Hid (gR (zs.take k))/\Hid (Below w.heap.size w wr)) (λi _=>len - (intOf i).toNat);case atStart=>exact⟨0,by omega,rfl,λi x h=>by simp at h,Ft _ _⟩
 case round=>
  obtain⟨k,hk,rfl,HE,HB⟩:=hrel;by_cases hlt:k<len
  ·obtain⟨b,o,x,rfl,hb,hx,hc,hsz⟩:=(HR.below HB.out).at hlt;by_cases hn:aV x
   ·have HY:Hid (∀w,Calls Tryz.prog 137 #[I x] w λe w'=>e=Ha (G8 Hb)/\w'=w):=λw=>(bo x w hsz).mono λ_ _ h=>h.yes hn;by_cases hk0:0<k
    ·obtain⟨b',o',y,e',hb',hy,hcy,-⟩:=(HR.below HB.out).at (k:=k - 1) af;cases e';have ek:((k:Int) - 1).toNat=k - 1:=af
     cases hless:Fx y.toList x.toList
     ·go_wp2;go_quiet ((go_at_call 137;exact FP (HY.out _)));go_wp2;go_ret;exact⟨G_,rfl,⟨λh=>bY,λh=>absurd ((h.2 k x hx).2 y hk0 hy) (by rw[hless];decide)⟩,below_drewN HB.out _⟩
     ·go_wp2;go_quiet ((go_at_call 137;exact FP (HY.out _)));go_wp2;exact⟨⟨k+1,by omega,by go_num,HE.step hx hn (λy' _ hy'=>by rw[hy] at hy';obtain rfl:=Fp hy';exact hless),below_drewN HB.out _⟩,by simp[intOf];omega⟩
    ·have hd:decide ((0:Int)<k)=G_:=by simp;omega
     go_wp2;go_quiet ((go_at_call 137;exact FP (HY.out _)));go_wp2;exact⟨⟨k+1,by omega,by go_num,HE.step hx hn (λy' h0 _=>absurd h0 hk0),below_drewN HB.out _⟩,by simp[intOf];omega⟩
   ·have HY:Hid (∀w,Calls Tryz.prog 137 #[I x] w λe w'=>e=Ha (G8 G_)/\w'=w):=λw=>(bo x w hsz).mono λ_ _ h=>h.no hn;go_wp2;go_quiet ((go_at_call 137;exact FP (HY.out _)));go_wp2;go_ret;exact⟨G_,rfl,⟨λh=>bY,λh=>absurd (h.2 k x hx).1 hn⟩,below_drewN HB.out _⟩
  ·obtain rfl:k=len:=af
   go_wp2;go_ret;refine⟨_,rfl,?_,HB.out⟩;have hR:=HE.out;rw[FT af] at hR;unfold ed;simp[hR,hzl]
def df(s:ByteArray):Prop:=s=⟨#[]⟩\/aV s
def Inn(n a b:Int):Prop:=a<=n/\n<=b
theorem jM(n a b:Int) (w:World):
  Calls Tryz.prog 36 #[GZ G6 n,GZ G6 a,GZ G6 b] w (cO (Inn n a b) w):=by
 go_enter Tryz.func36,Tryz.ntmps36;go_wp2;all_goals (go_ret;exact⟨_,rfl,by unfold Inn;simp;omega,rfl⟩)
theorem oq(n:Int) (w:World):
  Calls Tryz.prog 138 #[GZ G6 n] w (cO (Inn n 0 1000000) w):=by
 go_enter Tryz.func138,Tryz.ntmps138;exact pV
theorem gg(n:Int) (w:World):
  Calls Tryz.prog 141 #[GZ G6 n] w (cO (Inn n 1 1048576) w):=by
 go_enter Tryz.func141,Tryz.ntmps141;exact pV
theorem lD(n:Int) (w:World):
  Calls Tryz.prog 49 #[GZ G6 n] w (cO (Inn n 0 1000000) w):=by
 go_enter Tryz.func49,Tryz.ntmps49;exact pV
theorem ae {p:Prop} (h:p):Hid p:=h
theorem bg {s:ByteArray} (h:¬s=⟨#[]⟩):s.toList.isEmpty=G_:=by
 have:=bH h;rw[GM] at this ⊢;cases e:s.data.toList with
 | nil=>exact absurd (by cases s;simp at e;rw[e]) h
 | cons a l=>rfl
theorem sg:(⟨#[]⟩:ByteArray).toList.isEmpty=Hb:=by rw[GM];rfl
theorem cX {w:World} {vs:Array Value} (hb:Below (w.alloc (G7 vs T)).heap.size (w.alloc (G7 vs T)) w1):
  w1.heap[w.heap.size]?=F_ (G7 vs T (0,0))/\Below w.heap.size w w1/\w.heap.size<w1.heap.size:=by
 have hs:(w.alloc (G7 vs T)).heap.size=w.heap.size+1:=aH
 have h1:=hb.size;refine⟨?_,?_,by omega⟩
 ·rw[hb.block _ af];show (w.heap.push _)[w.heap.size]?=_;simp
 ·exact ((Ft w.heap.size w).alloc (Fq _) _).trans (hb.mono af)
theorem ar {w:World} {b:Nat} {vs:Array Value} {f:Nat×Nat} (h:w.heap[b]?=F_ (G7 vs T f)) (i:Nat):w.cell? ⟨b,i,U⟩=vs[i]?:=by simp[Gc,h]
theorem ck0 {w:World} {b:Nat} {f:Nat×Nat} (h:w.heap[b]?=F_ (G7 (v0 ::r).toArray T f)):w.cell? ⟨b,0,U⟩=F_ v0:=ar h 0
theorem ck1 {w:World} {b:Nat} {f:Nat×Nat} (h:w.heap[b]?=F_ (G7 (v0::v1 ::r).toArray T f)):w.cell? ⟨b,1,U⟩=F_ v1:=ar h 1
theorem ck2 {w:World} {b:Nat} {f:Nat×Nat} (h:w.heap[b]?=F_ (G7 (v0::v1::v2 ::r).toArray T f)):w.cell? ⟨b,2,U⟩=F_ v2:=ar h 2
theorem ck3 {w:World} {b:Nat} {f:Nat×Nat} (h:w.heap[b]?=F_ (G7 (v0::v1::v2::v3 ::r).toArray T f)):w.cell? ⟨b,3,U⟩=F_ v3:=ar h 3
theorem ck4 {w:World} {b:Nat} {f:Nat×Nat} (h:w.heap[b]?=F_ (G7 (v0::v1::v2::v3::v4 ::r).toArray T f)):w.cell? ⟨b,4,U⟩=F_ v4:=ar h 4
theorem ck5 {w:World} {b:Nat} {f:Nat×Nat} (h:w.heap[b]?=F_ (G7 (v0::v1::v2::v3::v4::v5 ::r).toArray T f)):w.cell? ⟨b,5,U⟩=F_ v5:=ar h 5
theorem ck6 {w:World} {b:Nat} {f:Nat×Nat} (h:w.heap[b]?=F_ (G7 (v0::v1::v2::v3::v4::v5::v6 ::r).toArray T f)):w.cell? ⟨b,6,U⟩=F_ v6:=ar h 6
theorem ck7 {w:World} {b:Nat} {f:Nat×Nat} {v7:Value} (h:w.heap[b]?=F_ (G7 (v0::v1::v2::v3::v4::v5::v6::v7 ::r).toArray T f)):w.cell? ⟨b,7,U⟩=F_ v7:=ar h 7
theorem aq(w:World) (o:Obj):Below w.heap.size w (w.alloc o):=(Ft _ _).alloc (Fq _) o
theorem ef(s:ByteArray) (w:World) (hs:s.size<=9223372036854775807):
  Calls Tryz.prog 140 #[I s] w (cO (df s) w):=by
 by_cases h0:s=⟨#[]⟩
 ·subst h0;go_enter Tryz.func140,Tryz.ntmps140;go_wp2;go_ret;exact⟨_,rfl,by unfold df;simp,rfl⟩
 ·have hq:=bg h0;go_enter Tryz.func140,Tryz.ntmps140;go_wp2_with (go_at_call 137;refine (bo _ _ hs).mono ?_;rintro e w1 ⟨r,rfl,hr,rfl⟩);go_ret;exact⟨r,rfl,by unfold df;simp[h0,hr],rfl⟩
def qU(n z:ByteArray) (c s u:Int) (zs:List ByteArray):Prop:=aV n/\aV z/\Inn c 0 1000000/\Inn s 0 8/\Inn u 0 1000000/\ed zs 8
theorem fX(n z:ByteArray) (c s u:Int) (d:Bool) (a:Option Addr) (len cap:Nat) (zs:List ByteArray) (w:World) (hn:n.size<=9223372036854775807) (hz:z.size<=9223372036854775807) (hr:aD w a len cap zs):
  Calls Tryz.prog 90 #[Hc #[I n,I z,GZ G6 c,GZ G6 s,GZ G6 u,G8 d,J a len cap]] w (av (qU n z c s u zs) w):=by
 have HR:Hid (aD w a len cap zs):=hr;clear hr;go_enter Tryz.func90,Tryz.ntmps90;go_wp2_with fail;refine (bo n _ hn).mono ?_;rintro e w1 ⟨r,rfl,hr,rfl⟩;by_cases hq:r=Hb;case neg=>
  exact fL
 have h0:=ae (hr.1 hq);subst hq;clear hr;go_wp2_with fail;refine (bo z _ hz).mono ?_;rintro e w1 ⟨r,rfl,hr,rfl⟩;by_cases hq:r=Hb;case neg=>
  exact ij
 have h1:=ae (hr.1 hq);subst hq;clear hr;go_wp2_with fail;refine (oq c _).mono ?_;rintro e w1 ⟨r,rfl,hr,rfl⟩;by_cases hq:r=Hb;case neg=>
  exact ik
 have h2:=ae (hr.1 hq);subst hq;clear hr;go_wp2_with fail;refine (jM s 0 8 _).mono ?_;rintro e w1 ⟨r,rfl,hr,rfl⟩;by_cases hq:r=Hb;case neg=>
  exact lx
 have h3:=ae (hr.1 hq);subst hq;clear hr;go_wp2_with fail;refine (lD u _).mono ?_;rintro e w1 ⟨r,rfl,hr,rfl⟩;by_cases hq:r=Hb;case neg=>
  exact nQ
 have h4:=ae (hr.1 hq);subst hq;clear hr;go_wp2_with fail;refine (fi a len cap zs 8 _ (HR.below (aq _ _))).mono ?_;rintro e w1 ⟨r,rfl,hr,hb⟩;go_wp2_with fail;go_ret;exact⟨r,rfl,⟨λh=>⟨h0.out,h1.out,h2.out,h3.out,h4.out,hr.1 h⟩,λh=>hr.2 h.2.2.2.2.2⟩,(cX hb).2.1⟩
def mF(n z:ByteArray):Prop:=aV n/\df z
theorem fk(n z:ByteArray) (x y:Bool) (w:World) (hn:n.size<=9223372036854775807) (hz:z.size<=9223372036854775807):
  Calls Tryz.prog 91 #[Hc #[I n,G8 x,G8 y,I z]] w (av (mF n z) w):=by
 go_enter Tryz.func91,Tryz.ntmps91;go_wp2_with fail;refine (bo n _ hn).mono ?_;rintro e w1 ⟨r,rfl,hr,rfl⟩;by_cases hq:r=Hb;case neg=>
  exact fL
 have h0:=ae (hr.1 hq);subst hq;clear hr;go_wp2_with fail;refine (ef z _ hz).mono ?_;exact wv
def mG(n:ByteArray) (z:Int) (k v:ByteArray):Prop:=aV n/\Inn z 1 1048576/\aV k/\df v
theorem ep(n:ByteArray) (z:Int) (k:ByteArray) (x:Bool) (v:ByteArray) (w:World) (hn:n.size<=9223372036854775807) (hk:k.size<=9223372036854775807) (hv:v.size<=9223372036854775807):
  Calls Tryz.prog 93 #[Hc #[I n,GZ G6 z,I k,G8 x,I v]] w (av (mG n z k v) w):=by
 go_enter Tryz.func93,Tryz.ntmps93;go_wp2_with fail;refine (bo n _ hn).mono ?_;rintro e w1 ⟨r,rfl,hr,rfl⟩;by_cases hq:r=Hb;case neg=>
  exact fL
 have h0:=ae (hr.1 hq);subst hq;clear hr;go_wp2_with fail;refine (gg z _).mono ?_;rintro e w1 ⟨r,rfl,hr,rfl⟩;by_cases hq:r=Hb;case neg=>
  exact ij
 have h1:=ae (hr.1 hq);subst hq;clear hr;go_wp2_with fail;refine (bo k _ hk).mono ?_;rintro e w1 ⟨r,rfl,hr,rfl⟩;by_cases hq:r=Hb;case neg=>
  exact ik
 have h2:=ae (hr.1 hq);subst hq;clear hr;go_wp2_with fail;refine (ef v _ hv).mono ?_;exact wE
def eO(d:ByteArray) (p:Int):Prop:=(p=0/\d=⟨#[]⟩)\/((p=1\/p=2)/\aV d)
def su(n:ByteArray) (c:Int) (z:ByteArray) (zs:List ByteArray) (d:ByteArray) (p:Int):Prop:=aV n/\Inn c 0 1000000/\df z/\ed zs 3/\eO d p
theorem en(d:ByteArray):eO d 0↔d=⟨#[]⟩:=by unfold eO;simp
theorem gX {p:Int} (d:ByteArray) (h:p=1\/p=2):eO d p↔aV d:=by
 unfold eO;constructor
 ·rintro (⟨h1,_⟩|⟨_,h1⟩)
  ·omega
  ·exact h1
 ·exact λh1=>Or.inr ⟨h,h1⟩
theorem mU {p:Int} {d:ByteArray} (h:p<0\/2<p):¬eO d p:=by
 unfold eO;rintro (⟨h1,_⟩|⟨h1,_⟩) <;> omega
theorem eM(s:ByteArray):s.toList.isEmpty=Hb↔s=⟨#[]⟩:=by
 constructor
 ·intro h;by_cases h0:s=⟨#[]⟩
  ·exact h0
  ·rw[bg h0] at h;cases h
 ·rintro rfl;exact sg
theorem eZ(n:ByteArray) (c:Int) (z:ByteArray) (a:Option Addr) (len cap:Nat) (zs:List ByteArray) (d:ByteArray) (p:Int) (w:World) (hn:n.size<=9223372036854775807) (hz:z.size<=9223372036854775807) (hd:d.size<=9223372036854775807) (hr:aD w a len cap zs):
  Calls Tryz.prog 94 #[Hc #[I n,GZ G6 c,I z,J a len cap,I d,GZ G6 p]] w (av (su n c z zs d p) w):=by
 have HR:Hid (aD w a len cap zs):=hr;clear hr;go_enter Tryz.func94,Tryz.ntmps94;go_wp2_with fail;refine (bo n _ hn).mono ?_;rintro e w1 ⟨r,rfl,hr,rfl⟩;by_cases hq:r=Hb;case neg=>
  exact fL
 have h0:=ae (hr.1 hq);subst hq;clear hr;go_wp2_with fail;refine (oq c _).mono ?_;rintro e w1 ⟨r,rfl,hr,rfl⟩;by_cases hq:r=Hb;case neg=>
  exact ij
 have h1:=ae (hr.1 hq);subst hq;clear hr;go_wp2_with fail;refine (ef z _ hz).mono ?_;rintro e w1 ⟨r,rfl,hr,rfl⟩;by_cases hq:r=Hb;case neg=>
  exact ik
 have h2:=ae (hr.1 hq);subst hq;clear hr;go_wp2_with fail;refine (fi a len cap zs 3 _ (HR.below (aq _ _))).mono ?_;rintro e w1 ⟨r,rfl,hr,hb⟩;obtain⟨hsl,hb1,-⟩:=cX hb;have HB:Hid (Below w.heap.size w w1):=hb1;by_cases hq:r=Hb;case neg=>
  have HN:=ae (λh=>hq (hr.2 h));clear hsl hb hb1 hr;go_wp2_with fail;go_ret;exact⟨G_,rfl,⟨λh=>bY,λh=>(HN.out h.2.2.2.1).elim⟩,HB.out⟩
 have h3:=ae (hr.1 hq);subst hq;have hc4:=ck4 hsl;have hc5:=ck5 hsl;clear hr hsl hb hb1;go_wp2_with fail;refine (jM p 0 2 _).mono ?_;rintro e w2 ⟨r,rfl,hr,rfl⟩;by_cases hq:r=Hb;case neg=>
  have HN:=ae (λh=>hq (hr.2 h));clear hr;go_wp2_with fail;go_ret;exact⟨G_,rfl,⟨λh=>bY,λh=>absurd h.2.2.2.2 (mU (by have h9:¬(0<=p/\p<=2):=HN.out;omega))⟩,HB.out⟩
 have h4:=hr.1 hq;subst hq;clear hr;by_cases hp:p=0
 ·subst hp;go_wp2_with fail;go_ret;exact⟨_,rfl,⟨λh=>⟨h0.out,h1.out,h2.out,h3.out,(en d).2 ((eM d).1 h)⟩,λh=>(eM d).2 ((en d).1 h.2.2.2.2)⟩,HB.out⟩
 have hq:(p==0)=G_:=by simp[hp]
 have hp2:p=1\/p=2:=by unfold Inn at h4;omega
 go_wp2_with fail;refine (bo d _ hd).mono ?_;rintro e w2 ⟨r,rfl,hr,rfl⟩;go_wp2_with fail;go_ret;exact⟨r,rfl,⟨λh=>⟨h0.out,h1.out,h2.out,h3.out,(gX d hp2).2 (hr.1 h)⟩,λh=>hr.2 ((gX d hp2).1 h.2.2.2.2)⟩,HB.out⟩
def zH(n:ByteArray) (c:Int) (z k:ByteArray) (x:Bool) (m:ByteArray) (y:Bool) (zs:List ByteArray):Prop:=
 aV n/\Inn c 1 1048576/\aV z/\aV k/\df m/\(y=Hb->m=⟨#[]⟩)/\ed zs (if x=Hb then 1 else 6)
theorem f_ {zs:List ByteArray} {x:Bool} (h:ed zs (if x=Hb then 1 else 6)):ed zs 6:=by
 refine⟨?_,h.2⟩;have:=h.1;split at this <;> omega
theorem eY(n:ByteArray) (c:Int) (z k:ByteArray) (x:Bool) (m:ByteArray) (y:Bool) (a:Option Addr) (len cap:Nat) (zs:List ByteArray) (w:World) (hn:n.size<=9223372036854775807) (hz:z.size<=9223372036854775807) (hk:k.size<=9223372036854775807) (hm:m.size<=9223372036854775807) (hr:aD w a len cap zs):
  Calls Tryz.prog 92 #[Hc #[I n,GZ G6 c,I z,I k,G8 x,I m,G8 y,J a len cap]] w (av (zH n c z k x m y zs) w):=by
 have HR:Hid (aD w a len cap zs):=hr;have hzl:=hr.1;have hlc:=FA hr.2.1 hr.2.2.1;clear hr;cases y
 ·have HY:Hid (G_=Hb->m=⟨#[]⟩):=λh=>bY;go_enter Tryz.func92,Tryz.ntmps92;go_wp2_with fail;refine (bo n _ hn).mono ?_;rintro e w1 ⟨r,rfl,hr,rfl⟩;by_cases hq:r=Hb;case neg=>
   exact fL
  have h0:=ae (hr.1 hq);subst hq;clear hr;go_wp2_with fail;refine (gg c _).mono ?_;rintro e w1 ⟨r,rfl,hr,rfl⟩;by_cases hq:r=Hb;case neg=>
   exact ij
  have h1:=ae (hr.1 hq);subst hq;clear hr;go_wp2_with fail;refine (bo z _ hz).mono ?_;rintro e w1 ⟨r,rfl,hr,rfl⟩;by_cases hq:r=Hb;case neg=>
   exact ik
  have h2:=ae (hr.1 hq);subst hq;clear hr;go_wp2_with fail;refine (bo k _ hk).mono ?_;rintro e w1 ⟨r,rfl,hr,rfl⟩;by_cases hq:r=Hb;case neg=>
   exact lx
  have h3:=ae (hr.1 hq);subst hq;clear hr;go_wp2_with fail;refine (ef _ _ hm).mono ?_;rintro e w1 ⟨r,rfl,hr,rfl⟩;by_cases hq:r=Hb;case neg=>
   exact nQ
  have h4:=ae (hr.1 hq);subst hq;clear hr;go_wp2_with fail;refine (fi a len cap zs 6 _ (HR.below (aq _ _))).mono ?_;rintro e w1 ⟨r,rfl,hr,hb⟩;obtain⟨hsl,hb1,-⟩:=cX hb;have HB:Hid (Below w.heap.size w w1):=hb1;by_cases hq:r=Hb;case neg=>
   exact yo
  have h6:=ae (hr.1 hq);subst hq;have hc4:=ck4 hsl;have hc7:=ck7 hsl;clear hr hsl hb hb1;cases x
  ·go_wp2_with fail;go_ret;exact⟨Hb,rfl,⟨λ_=>⟨h0.out,h1.out,h2.out,h3.out,h4.out,HY.out,by simpa using h6.out⟩,λ_=>rfl⟩,HB.out⟩
  ·go_wp2_with fail;go_ret;refine⟨_,rfl,⟨λh=>⟨h0.out,h1.out,h2.out,h3.out,h4.out,HY.out,?_,h6.2⟩,λh=>?_⟩,HB.out⟩
   ·simp at h ⊢;omega
   ·have:=h.2.2.2.2.2.2.1;simp at this ⊢;omega
 by_cases hm0:m=⟨#[]⟩
 ·subst hm0;have HY:Hid True:=trivial;go_enter Tryz.func92,Tryz.ntmps92;go_wp2_with fail;refine (bo n _ hn).mono ?_;rintro e w1 ⟨r,rfl,hr,rfl⟩;by_cases hq:r=Hb;case neg=>
   exact fL
  have h0:=ae (hr.1 hq);subst hq;clear hr;go_wp2_with fail;refine (gg c _).mono ?_;rintro e w1 ⟨r,rfl,hr,rfl⟩;by_cases hq:r=Hb;case neg=>
   exact ij
  have h1:=ae (hr.1 hq);subst hq;clear hr;go_wp2_with fail;refine (bo z _ hz).mono ?_;rintro e w1 ⟨r,rfl,hr,rfl⟩;by_cases hq:r=Hb;case neg=>
   exact ik
  have h2:=ae (hr.1 hq);subst hq;clear hr;go_wp2_with fail;refine (bo k _ hk).mono ?_;rintro e w1 ⟨r,rfl,hr,rfl⟩;by_cases hq:r=Hb;case neg=>
   exact lx
  have h3:=ae (hr.1 hq);subst hq;clear hr;go_wp2_with fail;refine (ef _ _ hm).mono ?_;rintro e w1 ⟨r,rfl,hr,rfl⟩;by_cases hq:r=Hb;case neg=>
   exact nQ
  have h4:=ae (hr.1 hq);subst hq;clear hr;go_wp2_with fail;refine (fi a len cap zs 6 _ (HR.below (aq _ _))).mono ?_;rintro e w1 ⟨r,rfl,hr,hb⟩;obtain⟨hsl,hb1,-⟩:=cX hb;have HB:Hid (Below w.heap.size w w1):=hb1;by_cases hq:r=Hb;case neg=>
   exact yo
  have h6:=ae (hr.1 hq);subst hq;have hc4:=ck4 hsl;have hc7:=ck7 hsl;clear hr hsl hb hb1;cases x
  ·go_wp2_with fail;go_ret;exact⟨Hb,rfl,⟨λ_=>⟨h0.out,h1.out,h2.out,h3.out,h4.out,(λ_=>rfl),by simpa using h6.out⟩,λ_=>rfl⟩,HB.out⟩
  ·go_wp2_with fail;go_ret;refine⟨_,rfl,⟨λh=>⟨h0.out,h1.out,h2.out,h3.out,h4.out,(λ_=>rfl),?_,h6.2⟩,λh=>?_⟩,HB.out⟩
   ·simp at h ⊢;omega
   ·have:=h.2.2.2.2.2.2.1;simp at this ⊢;omega
 have hq9:=bg hm0;go_enter Tryz.func92,Tryz.ntmps92;go_wp2_with fail;refine (bo n _ hn).mono ?_;rintro e w1 ⟨r,rfl,hr,rfl⟩;by_cases hq:r=Hb;case neg=>
  exact fL
 have h0:=ae (hr.1 hq);subst hq;clear hr;go_wp2_with fail;refine (gg c _).mono ?_;rintro e w1 ⟨r,rfl,hr,rfl⟩;by_cases hq:r=Hb;case neg=>
  exact ij
 have h1:=ae (hr.1 hq);subst hq;clear hr;go_wp2_with fail;refine (bo z _ hz).mono ?_;rintro e w1 ⟨r,rfl,hr,rfl⟩;by_cases hq:r=Hb;case neg=>
  exact ik
 have h2:=ae (hr.1 hq);subst hq;clear hr;go_wp2_with fail;refine (bo k _ hk).mono ?_;rintro e w1 ⟨r,rfl,hr,rfl⟩;by_cases hq:r=Hb;case neg=>
  exact lx
 have h3:=ae (hr.1 hq);subst hq;clear hr;go_wp2_with fail;refine (ef _ _ hm).mono ?_;rintro e w1 ⟨r,rfl,hr,rfl⟩;by_cases hq:r=Hb;case neg=>
  exact nQ
 have h4:=ae (hr.1 hq);subst hq;clear hr;exact vZ
theorem al {w:World} {b:Nat} {vs:Array Value} (h:w.heap[b]?=F_ (G7 vs T (0,0))) (i:Nat):w.frozen? ⟨b,i,U⟩=G_:=by simp[World.frozen?,h]
theorem ak {w:World} {B b:Nat} {v:Value} (hB:B<=b) (h:Below B w w1):Below B w (w1.setCell ⟨b,i,U⟩ v):=h.setCell hB v
theorem aa {w:World} {b:Nat} {o:Obj} (h:w.heap[b]?=F_ o):b<w.heap.size:=by
 exact xt
theorem upK {w:World} {k:Nat} {o:Obj} (h:Hid (w.heap[k]?=F_ o)) (hb:Below w.heap.size w w'):Hid (w'.heap[k]?=F_ o):=(hb.block _ (aa h)).trans h
theorem upB {w w2:World} (h:Hid (Below w.heap.size w w1)) (hb:Below w1.heap.size w1 w2):Hid (Below w.heap.size w w2):=Below.trans h (hb.mono (Below.size h))
theorem sb1 {w:World} {v:Value} (h:Below w.heap.size w w1):Below w.heap.size w (w1.setCell ⟨w.heap.size+1,i,U⟩ v):=ak (by omega) h
theorem sb2 {w:World} {v:Value} (h:Below w.heap.size w w1):Below w.heap.size w (w1.setCell ⟨w.heap.size+1+1,i,U⟩ v):=ak (by omega) h
theorem sb3 {w:World} {v:Value} (h:Below w.heap.size w w1):Below w.heap.size w (w1.setCell ⟨w.heap.size+1+1+1,i,U⟩ v):=ak (by omega) h
theorem dK(w:World) (o p:Obj):((w.alloc o).alloc p).heap[w.heap.size]?=F_ o:=by
 rw[Fy _ _ _ aH];exact Fs
theorem cL(w:World) (o p:Obj):((w.alloc o).alloc p).heap[w.heap.size+1]?=F_ p:=by
 have h:w.heap.size+1=(w.alloc o).heap.size:=aH
 rw[h];exact Fs
theorem mo(w:World) (o p q:Obj):(((w.alloc o).alloc p).alloc q).heap[w.heap.size]?=F_ o:=by
 rw[Fy _ _ _ bD,Fy _ _ _ aH];show (w.heap.push _)[w.heap.size]?=_;simp
theorem jR(w:World) (o p q:Obj):(((w.alloc o).alloc p).alloc q).heap[w.heap.size+1]?=F_ p:=by
 rw[Fy _ _ _ aH];have h:w.heap.size+1=(w.alloc o).heap.size:=aH
 rw[h];show ((w.alloc o).heap.push _)[(w.alloc o).heap.size]?=_;exact Fs
theorem jQ(w:World) (o p q:Obj):(((w.alloc o).alloc p).alloc q).heap[w.heap.size+1+1]?=F_ q:=by
 have h:w.heap.size+1+1=((w.alloc o).alloc p).heap.size:=aH
 rw[h];show (((w.alloc o).alloc p).heap.push _)[((w.alloc o).alloc p).heap.size]?=_;exact Fs
theorem aM(w:World) (o p:Obj):Below w.heap.size w ((w.alloc o).alloc p):=(aq w o).alloc (by simp) p
theorem cI(w:World) (o p q:Obj):Below w.heap.size w (((w.alloc o).alloc p).alloc q):=(aM w o p).alloc (by simp;omega) q
theorem aW {a b:ByteArray} (h:a=b):(a.toList==b.toList)=Hb:=by rw[h];simp
theorem cs5 {w:World} {b:Nat} (h:w.heap[b]?=F_ (G7 #[v0,v1,v2,v3,v4] T (0,0))):w.cell? ⟨b,0,U⟩=F_ v0/\w.cell? ⟨b,1,U⟩=F_ v1/\w.cell? ⟨b,2,U⟩=F_ v2/\w.cell? ⟨b,3,U⟩=F_ v3/\w.cell? ⟨b,4,U⟩=F_ v4:=⟨ar h 0,ar h 1,ar h 2,ar h 3,ar h 4⟩
theorem cs6 {w:World} {b:Nat} (h:w.heap[b]?=F_ (G7 #[v0,v1,v2,v3,v4,v5] T (0,0))):w.cell? ⟨b,0,U⟩=F_ v0/\w.cell? ⟨b,1,U⟩=F_ v1/\w.cell? ⟨b,2,U⟩=F_ v2/\w.cell? ⟨b,3,U⟩=F_ v3/\w.cell? ⟨b,4,U⟩=F_ v4/\w.cell? ⟨b,5,U⟩=F_ v5:=⟨ar h 0,ar h 1,ar h 2,ar h 3,ar h 4,ar h 5⟩
theorem cs7 {w:World} {b:Nat} (h:w.heap[b]?=F_ (G7 #[v0,v1,v2,v3,v4,v5,v6] T (0,0))):w.cell? ⟨b,0,U⟩=F_ v0/\w.cell? ⟨b,1,U⟩=F_ v1/\w.cell? ⟨b,2,U⟩=F_ v2/\w.cell? ⟨b,3,U⟩=F_ v3/\w.cell? ⟨b,4,U⟩=F_ v4/\w.cell? ⟨b,5,U⟩=F_ v5/\w.cell? ⟨b,6,U⟩=F_ v6:=⟨ar h 0,ar h 1,ar h 2,ar h 3,ar h 4,ar h 5,ar h 6⟩
theorem cs8 {w:World} {b:Nat} {v7:Value} (h:w.heap[b]?=F_ (G7 #[v0,v1,v2,v3,v4,v5,v6,v7] T (0,0))):w.cell? ⟨b,0,U⟩=F_ v0/\w.cell? ⟨b,1,U⟩=F_ v1/\w.cell? ⟨b,2,U⟩=F_ v2/\w.cell? ⟨b,3,U⟩=F_ v3/\w.cell? ⟨b,4,U⟩=F_ v4/\w.cell? ⟨b,5,U⟩=F_ v5/\w.cell? ⟨b,6,U⟩=F_ v6/\w.cell? ⟨b,7,U⟩=F_ v7:=⟨ar h 0,ar h 1,ar h 2,ar h 3,ar h 4,ar h 5,ar h 6,ar h 7⟩
theorem cB(w:World) (o:Obj):(w.alloc o).heap.size=w.heap.size+1:=by simp
theorem aT {w:World} {o:Obj} (h:Below (w.alloc o).heap.size (w.alloc o) w'):w'.heap[w.heap.size]?=F_ o/\Below w.heap.size w w':=by
 rw[cB] at h;exact⟨(h.block _ (Nat.lt_succ_self _)).trans (heap_alloc_new w o),(aq w o).trans (h.mono (FO _))⟩
theorem bU {w:World} {o p:Obj} (h:Below ((w.alloc o).alloc p).heap.size ((w.alloc o).alloc p) w'):w'.heap[w.heap.size]?=F_ o/\w'.heap[w.heap.size+1]?=F_ p/\Below w.heap.size w w':=by
 obtain⟨h1,h2⟩:=aT h;rw[cB] at h1;obtain⟨h3,h4⟩:=aT h2;exact⟨h3,h1,h4⟩
def Wd(W:World):Type:={ x:World // Below W.heap.size W x }
def Wd.w(i:Wd W):World:=i.1
theorem Wd.b(i:Wd W):Below W.heap.size W i.w:=i.2
theorem Wd.ne(W:World):Nonempty (Wd W):=⟨⟨W,Ft _ _⟩⟩
theorem Wd.cell(i:Wd W) {b o:Nat} (h:b<W.heap.size):i.w.cell? ⟨b,o,U⟩=W.cell? ⟨b,o,U⟩:=aj i.b h
theorem Wd.slot(i:Wd W) {b o:Nat} {vs:Array Value} {T:TypeId} {f:Nat×Nat} {v:Value} (h:W.heap[b]?=F_ (G7 vs T f)) (hv:vs[o]?=F_ v):i.w.cell? ⟨b,o,U⟩=F_ v:=by
 have hb:b<W.heap.size:=by
  rcases Nat.lt_or_ge b W.heap.size with h1|h1
  ·exact h1
  ·rw[Array.getElem?_eq_none h1] at h;cases h
 rw[i.cell hb,ar h,hv]
theorem sl1 {b:Nat} (h:Hid (W.heap[b]?=F_ (G7 (v0 ::r).toArray T (0,0)))):(∀q:Wd W,q.w.cell? ⟨b,0,U⟩=F_ v0):=λq=>q.slot h rfl
theorem sl2 {b:Nat} (h:Hid (W.heap[b]?=F_ (G7 (v0 ::v1 ::r).toArray T (0,0)))):(∀q:Wd W,q.w.cell? ⟨b,0,U⟩=F_ v0)/\(∀q:Wd W,q.w.cell? ⟨b,1,U⟩=F_ v1):=⟨λq=>q.slot h rfl,λq=>q.slot h rfl⟩
theorem sl3 {b:Nat} (h:Hid (W.heap[b]?=F_ (G7 (v0 ::v1 ::v2 ::r).toArray T (0,0)))):(∀q:Wd W,q.w.cell? ⟨b,0,U⟩=F_ v0)/\(∀q:Wd W,q.w.cell? ⟨b,1,U⟩=F_ v1)/\(∀q:Wd W,q.w.cell? ⟨b,2,U⟩=F_ v2):=⟨λq=>q.slot h rfl,λq=>q.slot h rfl,λq=>q.slot h rfl⟩
theorem sl4 {b:Nat} (h:Hid (W.heap[b]?=F_ (G7 (v0 ::v1 ::v2 ::v3 ::r).toArray T (0,0)))):(∀q:Wd W,q.w.cell? ⟨b,0,U⟩=F_ v0)/\(∀q:Wd W,q.w.cell? ⟨b,1,U⟩=F_ v1)/\(∀q:Wd W,q.w.cell? ⟨b,2,U⟩=F_ v2)/\(∀q:Wd W,q.w.cell? ⟨b,3,U⟩=F_ v3):=⟨λq=>q.slot h rfl,λq=>q.slot h rfl,λq=>q.slot h rfl,λq=>q.slot h rfl⟩
theorem sl5 {b:Nat} (h:Hid (W.heap[b]?=F_ (G7 (v0 ::v1 ::v2 ::v3 ::v4 ::r).toArray T (0,0)))):(∀q:Wd W,q.w.cell? ⟨b,0,U⟩=F_ v0)/\(∀q:Wd W,q.w.cell? ⟨b,1,U⟩=F_ v1)/\(∀q:Wd W,q.w.cell? ⟨b,2,U⟩=F_ v2)/\(∀q:Wd W,q.w.cell? ⟨b,3,U⟩=F_ v3)/\(∀q:Wd W,q.w.cell? ⟨b,4,U⟩=F_ v4):=⟨λq=>q.slot h rfl,λq=>q.slot h rfl,λq=>q.slot h rfl,λq=>q.slot h rfl,λq=>q.slot h rfl⟩
theorem sl6 {b:Nat} (h:Hid (W.heap[b]?=F_ (G7 (v0 ::v1 ::v2 ::v3 ::v4 ::v5 ::r).toArray T (0,0)))):(∀q:Wd W,q.w.cell? ⟨b,0,U⟩=F_ v0)/\(∀q:Wd W,q.w.cell? ⟨b,1,U⟩=F_ v1)/\(∀q:Wd W,q.w.cell? ⟨b,2,U⟩=F_ v2)/\(∀q:Wd W,q.w.cell? ⟨b,3,U⟩=F_ v3)/\(∀q:Wd W,q.w.cell? ⟨b,4,U⟩=F_ v4)/\(∀q:Wd W,q.w.cell? ⟨b,5,U⟩=F_ v5):=⟨λq=>q.slot h rfl,λq=>q.slot h rfl,λq=>q.slot h rfl,λq=>q.slot h rfl,λq=>q.slot h rfl,λq=>q.slot h rfl⟩
theorem sl7 {b:Nat} (h:Hid (W.heap[b]?=F_ (G7 (v0 ::v1 ::v2 ::v3 ::v4 ::v5 ::v6 ::r).toArray T (0,0)))):(∀q:Wd W,q.w.cell? ⟨b,0,U⟩=F_ v0)/\(∀q:Wd W,q.w.cell? ⟨b,1,U⟩=F_ v1)/\(∀q:Wd W,q.w.cell? ⟨b,2,U⟩=F_ v2)/\(∀q:Wd W,q.w.cell? ⟨b,3,U⟩=F_ v3)/\(∀q:Wd W,q.w.cell? ⟨b,4,U⟩=F_ v4)/\(∀q:Wd W,q.w.cell? ⟨b,5,U⟩=F_ v5)/\(∀q:Wd W,q.w.cell? ⟨b,6,U⟩=F_ v6):=⟨λq=>q.slot h rfl,λq=>q.slot h rfl,λq=>q.slot h rfl,λq=>q.slot h rfl,λq=>q.slot h rfl,λq=>q.slot h rfl,λq=>q.slot h rfl⟩
theorem sl8 {b:Nat} {v7:Value} (h:Hid (W.heap[b]?=F_ (G7 (v0 ::v1 ::v2 ::v3 ::v4 ::v5 ::v6 ::v7 ::r).toArray T (0,0)))):(∀q:Wd W,q.w.cell? ⟨b,0,U⟩=F_ v0)/\(∀q:Wd W,q.w.cell? ⟨b,1,U⟩=F_ v1)/\(∀q:Wd W,q.w.cell? ⟨b,2,U⟩=F_ v2)/\(∀q:Wd W,q.w.cell? ⟨b,3,U⟩=F_ v3)/\(∀q:Wd W,q.w.cell? ⟨b,4,U⟩=F_ v4)/\(∀q:Wd W,q.w.cell? ⟨b,5,U⟩=F_ v5)/\(∀q:Wd W,q.w.cell? ⟨b,6,U⟩=F_ v6)/\(∀q:Wd W,q.w.cell? ⟨b,7,U⟩=F_ v7):=⟨λq=>q.slot h rfl,λq=>q.slot h rfl,λq=>q.slot h rfl,λq=>q.slot h rfl,λq=>q.slot h rfl,λq=>q.slot h rfl,λq=>q.slot h rfl,λq=>q.slot h rfl⟩
theorem ag {a:Act} {w:World} (hm:P.follows .mixedOrders=Hb) (hB:Region.lexB .any l.toArray=Hb)
  (h:wpQuiet P l.toArray (λw'=> ∃i:Wd w,w'=i.w) (λa'=> ∀w',(∃i:Wd w,w'=i.w)->Q .normal a' w') l a):(Code.region id l.toArray Hb).wp P Q a w:=
 wp_region_quiet (C:=λw'=> ∃i:Wd w,w'=i.w) hm hB ⟨⟨_,(Ft w.heap.size w).drew⟩,rfl⟩ hM
theorem Calls.wide {f:FuncId} {args:Array Value} {i:Wd W} {v:Value} (h:Calls P f args i.w λe w'=>e=Ha v/\Below i.w.heap.size i.w w'):Calls P f args i.w λe w''=>e=Ha v/\∃j:Wd W,w''=j.w:=
 h.mono λ_ w' ⟨he,hb⟩=>⟨he,⟨w',i.b.trans (hb.mono i.b.size)⟩,rfl⟩
namespace Mk
structure Kept (g:Nat) (w w':World):Prop where
 os:w'.os=w.os
 tape:w'.tape=w.tape
 output:w'.output=w.output
 size:w.heap.size<=w'.heap.size
 block:∀k,k<w.heap.size->¬k=g->w'.heap[k]?=w.heap[k]?
end Mk
namespace Rc
inductive Fv where
 | s (b:ByteArray)
 | i (n:Int)
 | b (x:Bool)
 | l (zs:List ByteArray)
def Fv.val:Fv->Option Value
 | .s t=>F_ (I t)
 | .i n=>F_ (GZ G6 n)
 | .b x=>F_ (G8 x)
 | .l _=>U
def Fv.Is(w:World):Fv->Value->Prop
 | .s t,v=>v=I t/\t.size<=9223372036854775807
 | .i n,v=>v=GZ G6 n
 | .b x,v=>v=G8 x
 | .l zs,v=> ∃a len cap,v=J a len cap/\aD w a len cap zs
theorem Fv.Is.below {w:World} {f:Fv} {v:Value} (h:f.Is w v) (hb:Below w.heap.size w w'):f.Is w' v:=by
 cases f with
 | l zs=>obtain⟨a,len,cap,h1,h2⟩:=h;exact⟨a,len,cap,h1,h2.below hb⟩
 | _=>exact h
def RAt(w:World) (b o:Nat) (r:List Fv):Prop:=∀(i:Nat) f,r[i]?=F_ f->∃v,w.cell? ⟨b,o+i,U⟩=F_ v/\f.Is w v
theorem RAt.below {w:World} {b o:Nat} {r:List Fv} (h:RAt w b o r) (hl:b<w.heap.size) (hb:Below w.heap.size w w'):RAt w' b o r:=by
 intro i f hi;obtain⟨v,h1,h2⟩:=h i f hi;exact⟨v,(aj hb hl).trans h1,h2.below hb⟩
def a_(w:World) (a:Option Addr) (len cap m:Nat) (rs:List (List Fv)):Prop:=
 rs.length=len/\len<=cap/\cap<=9223372036854775807/\(rs=[]\/∃b o,a=F_ ⟨b,o,U⟩/\b<w.heap.size/\∀(j:Nat) r,rs[j]?=F_ r->RAt w b (o+j*m) r)
theorem a_.below {w:World} {len m:Nat} {rs:List (List Fv)} (h:a_ w a len cap m rs) (hb:Below w.heap.size w w'):a_ w' a len cap m rs:=by
 exact yt
theorem a_.at {w:World} {len m:Nat} {rs:List (List Fv)} (h:a_ w a len cap m rs) {j:Nat} (hj:j<len):
  ∃b o r,a=F_ ⟨b,o,U⟩/\b<w.heap.size/\rs[j]?=F_ r/\RAt w b (o+j*m) r:=by
 obtain⟨h1,h2,h3,h5⟩:=h;have hx:rs[j]?=F_ (rs[j]'(by omega)):=Fu _;exact xv
structure aL (S:Nat->Prop) (w w':World):Prop where
 os:w'.os=w.os
 tape:w'.tape=w.tape
 output:w'.output=w.output
 size:w.heap.size<=w'.heap.size
 block:∀k,k<w.heap.size->¬S k->w'.heap[k]?=w.heap[k]?
theorem aL.refl(S:Nat->Prop) (w:World):aL S w w:=⟨rfl,rfl,rfl,Fq _,λ_ _ _=>rfl⟩
theorem aL.trans {a b c:World} (h:aL S a b) (k:aL S b c):aL S a c:=⟨k.os.trans h.os,k.tape.trans h.tape,k.output.trans h.output,FA h.size k.size,λi hi hn=>(k.block i (Fw hi h.size) hn).trans (h.block i hi hn)⟩
theorem aL.dq {w:World} (k:Below w.heap.size w w'):aL S w w':=⟨k.os,k.tape,k.output,k.size,λi hi _=>k.block i hi⟩
theorem aL.set {w:World} {v:Value} (h:aL S w w') (h1:S g):aL S w (w'.setCell ⟨g,i,U⟩ v):=
 ⟨h.os,h.tape,h.output,by simpa[Gb] using h.size,λk hk hn=>(Fl _ _ _ _ (show k≠g from λe=>hn (e ▸ h1))).trans (h.block k hk hn)⟩
theorem aL.low {X:Nat} {w:World} (h:aL S w w') (hX:X<=w.heap.size) (hS:∀k,S k->X<=k):Below X w w':=⟨h.os,h.tape,h.output,h.size,λk hk=>h.block k (Fw hk hX) (λs=>by have:=hS k s;omega)⟩
def tK(w:World) (h:Nat) (S:Nat->Prop) (g:Nat) (zs:List ByteArray) (v:Value):Prop:=
 ∃a len cap,v=J a len cap/\zs.length=len/\len<=cap/\cap<=9223372036854775807/\(∀(j:Nat) x,zs[j]?=F_ x->x.size<=9223372036854775807)/\
  (zs=[]\/(a=F_ ⟨h,0,U⟩/\S h/\¬h=g/\∃cu,w.heap[h]?=F_ (G7 cu 9 (0,0))/\∀(j:Nat) x,zs[j]?=F_ x->cu[j]?=F_ (I x)))
theorem tK.row {w:World} {zs:List ByteArray} {len:Nat} (k:tK w h S g zs (J a len cap)):aD w a len cap zs:=by
 obtain⟨a',l',c',h1,h2,h3,h4,h5,h6⟩:=k;cases h1;refine⟨h2,h3,h4,h5,h6.imp id ?_⟩;rintro⟨q1,q2,q3,cu,q4,q5⟩;exact⟨h,0,q1,aa q4,λj x hx=>by rw[FE,ar q4];exact q5 j x hx⟩
def Fv.Own(w:World) (h:Nat) (S:Nat->Prop) (g:Nat):Fv->Value->Prop
 | .s t,v=>v=I t/\t.size<=9223372036854775807
 | .i n,v=>v=GZ G6 n
 | .b x,v=>v=G8 x
 | .l zs,v=>tK w h S g zs v
theorem Fv.Own.is {w:World} {f:Fv} {v:Value} (k:f.Own w h S g v):f.Is w v:=by
 cases f with
 | l zs=>
  obtain⟨a,len,cap,h1,h2⟩:=k;exact⟨a,len,cap,h1,tK.row (h:=h) (S:=S) (g:=g) (h1 ▸ ⟨a,len,cap,h1,h2⟩)⟩
 | _=>exact k
structure dQ (w:World) (g m:Nat) (T:TypeId) (rs:List (List Fv)) (S:Nat->Prop) (cur:Array Value) (H:Nat->Nat->Nat):Prop where
 blk:w.heap[g]?=F_ (G7 cur T (0,0))
 inS:S g
 len:∀(j:Nat) r,rs[j]?=F_ r->r.length=m
 cell:∀(j:Nat) r,rs[j]?=F_ r->∀(i:Nat) f,r[i]?=F_ f->∃v,cur[j*m+i]?=F_ v/\f.Own w (H j i) S g v
 inj:∀(j:Nat) r (i:Nat) zs (j':Nat) r' (i':Nat) zs',rs[j]?=F_ r->r[i]?=F_ (.l zs)->zs≠[]->rs[j']?=F_ r'->r'[i']?=F_ (.l zs')->zs'≠[]->H j i=H j' i'->j=j'/\i=i'
def aA(w:World) (a:Option Addr) (len cap m:Nat) (T:TypeId) (rs:List (List Fv)) (S:Nat->Prop):Prop:=
 rs.length=len/\len<=cap/\cap<=9223372036854775807/\(rs=[]\/∃g cur H,a=F_ ⟨g,0,U⟩/\dQ w g m T rs S cur H)
theorem dQ.aB {w:World} {m:Nat} {rs:List (List Fv)} (h:dQ w g m T rs S cur H) (hk:∀k,k<w.heap.size->S k->w'.heap[k]?=w.heap[k]?) (hs:∀k,k<w.heap.size->S k->S' k):dQ w' g m T rs S' cur H:=by
 refine⟨(hk g (aa h.blk) h.inS).trans h.blk,hs g (aa h.blk) h.inS,h.len,λj r hj i f hi=>?_,h.inj⟩;obtain⟨v,h1,h2⟩:=h.cell j r hj i f hi;refine⟨v,h1,?_⟩;cases f with
 | l zs=>
  obtain⟨a',l',c',h1,h2,h3,h4,h5,h6⟩:=h2;refine⟨a',l',c',h1,h2,h3,h4,h5,h6.imp id ?_⟩;rintro⟨q1,q2,q3,cu,q4,q5⟩;exact⟨q1,hs _ (aa q4) q2,q3,cu,(hk _ (aa q4) q2).trans q4,q5⟩
 | _=>exact h2
theorem aA.aB {w:World} {len m:Nat} {rs:List (List Fv)} (h:aA w a len cap m T rs S) (hk:∀k,k<w.heap.size->S k->w'.heap[k]?=w.heap[k]?) (hs:∀k,k<w.heap.size->S k->S' k):aA w' a len cap m T rs S':=by
 obtain⟨h1,h2,h3,h4⟩:=h;refine⟨h1,h2,h3,h4.imp id ?_⟩;rintro⟨g,cur,H,h5,h6⟩;exact⟨g,cur,H,h5,h6.aB hk hs⟩
theorem aA.below {w:World} {len m:Nat} {rs:List (List Fv)} (h:aA w a len cap m T rs S) (hb:Below w.heap.size w w'):aA w' a len cap m T rs S:=h.aB (λk hk _=>hb.block k hk) (λ_ _ s=>s)
theorem aA.bI {w:World} {len m:Nat} {rs:List (List Fv)} (h:aA w a len cap m T rs S) (hs:∀k,k<w.heap.size->S k->S' k):aA w a len cap m T rs S':=h.aB (λ_ _ _=>rfl) hs
theorem dQ.rat {w:World} {m:Nat} {rs:List (List Fv)} (h:dQ w g m T rs S cur H) {j:Nat} {r:List Fv} (hj:rs[j]?=F_ r):RAt w g (j*m) r:=by
 intro i f hi;obtain⟨v,h1,h2⟩:=h.cell j r hj i f hi;exact⟨v,(ar h.blk _).trans h1,h2.is⟩
theorem aA.row {w:World} {len m:Nat} {rs:List (List Fv)} (h:aA w a len cap m T rs S):a_ w a len cap m rs:=by
 obtain⟨h1,h2,h3,h4⟩:=h;refine⟨h1,h2,h3,h4.imp id ?_⟩;rintro⟨g,cur,H,h5,h6⟩;exact⟨g,0,h5,aa h6.blk,λj r hj=>by rw[FE];exact h6.rat hj⟩
theorem aA.nil {w:World} (a:Option Addr) (cap m:Nat) (T:TypeId) (S:Nat->Prop) (h:cap<=9223372036854775807):aA w a 0 cap m T [] S:=⟨rfl,FY _,h,He rfl⟩
theorem Au {m j' i':Nat} (hi:i<m) (hi':i'<m) (h:j*m+i=j'*m+i'):j=j'/\i=i':=by
 have hm:0<m:=af
 have e1:(j*m+i) / m=j:=by rw[Nat.mul_comm,Nat.mul_add_div hm,Nat.div_eq_of_lt hi];rfl
 have e2:(j'*m+i') / m=j':=by rw[Nat.mul_comm,Nat.mul_add_div hm,Nat.div_eq_of_lt hi'];rfl
 have:j=j':=by rw[<-e1,<-e2,h]
 subst this;exact⟨rfl,by omega⟩
theorem dL {rs:List α} {k:Nat} {r:α} (hj:j<rs.length):(rs.set j r)[k]?=if j=k then F_ r else rs[k]?:=by
 rw[GH];by_cases h:j=k
 ·subst h;simp[hj]
 ·simp[h]
section
variable {g m:Nat} {T:TypeId} {S N:Nat->Prop} {w wr w2:World} {rs:List (List Fv)} {j:Nat} {r:List Fv}
theorem eo(hlt:j<rs.length) {f:Fv} {i:Nat} (hil:i<r.length) {j':Nat} {r':List Fv} {i':Nat} {f':Fv} (hj':(rs.set j (r.set i f))[j']?=F_ r') (hi':r'[i']?=F_ f'):
  (j'=j/\i'=i/\f'=f)\/(¬(j'=j/\i'=i)/\∃r0,(rs.set j r)[j']?=F_ r0/\r0[i']?=F_ f'):=by
 rw[dL hlt] at hj' ⊢;split at hj'
 ·next e=>
  cases hj';rw[if_pos e];rw[GH] at hi';split at hi'
  ·next e2=>
   try rw[if_pos hil] at hi'
   exact He ⟨e.symm,e2.symm,(Fp hi').symm⟩
  ·next e2=>exact Hd ⟨λq=>e2 q.2.symm,r,rfl,hi'⟩
 ·next e=>
  rw[if_neg e];exact Hd ⟨λq=>e q.1.symm,r',hj',hi'⟩
theorem Fv.Own.gY {k:Nat} {v:Value} {u:Fv} {z:Value} (hu:u.Own wr h S g z):u.Own (wr.setCell ⟨g,k,U⟩ v) h S g z:=by
 cases u with
 | l zs=>
  obtain⟨a',l',c',k1,k2,k3,k4,k5,k6⟩:=hu;refine⟨a',l',c',k1,k2,k3,k4,k5,k6.imp id ?_⟩;rintro⟨q1,q2,q3,cu,q4,q5⟩;exact⟨q1,q2,q3,cu,(Fl _ _ _ _ q3).trans q4,q5⟩
 | _=>exact hu
end
theorem ng {l:List α} {x:α} (h:l[i]?=F_ x):l.set i x=l:=by
 apply List.ext_getElem?;intro k;rw[GH];split
 ·next e=>
  subst e;rw[if_pos (Fm.1 h).1,h]
 ·rfl
end Rc
abbrev Fact:=Value->World->Prop
def Fact.ck(φ:Fact):Prop:=∀v w w',φ v w->Below w.heap.size w w'->φ v w'
theorem Fact.cy(c:Value):Fact.ck (λv _=>v=c):=λ_ _ _ h _=>h
def ai(a0:Act) (known:List (Tmp×Fact)) (a:Act) (w:World) (t:Tmp):Prop:=
 match known.lookup t with
 | some φ=>φ (a.tmps.getD t undef) w
 | none=>a.tmps.getD t undef=a0.tmps.getD t undef
def Obl(P:Program) (ops:Array Oper) (Q:Exit->Act->World->Prop) (W:World) (a0:Act) (known:List (Tmp×Fact)) (o:Oper) (φ:Fact):Prop:=
 ∀(a:Act) (w:World) (K:Act->World->Prop),a.tmps.size=a0.tmps.size->Below W.heap.size W w->(∀t∈o.looksAt ops,ai a0 known a w t)->
  (∀v w',Below w.heap.size w w'->φ v w'->K (a.put o.dst v) w')->if F5 o (yielded ops a.tmps)=Hb then o.wp P a w K Q else K (a.put o.dst undef) w
def iw(o:Oper):List Tmp:=o.op.operands.toList.filterMap fun | .tmp t=>F_ t|_=>U
theorem Obl.plain {known:List (Tmp×Fact)} {φ:Fact} (hg:o.guard=U)
  (h:∀(a:Act) (w:World) (K:Act->World->Prop),a.tmps.size=a0.tmps.size->Below W.heap.size W w->(∀t∈iw o,ai a0 known a w t)->(∀v w',Below w.heap.size w w'->φ v w'->K (a.put o.dst v) w')->o.wp P a w K Q):Obl P ops Q W a0 known o φ:=by
 intro a w K h1 h2 h3 h4;have hw:F5 o (yielded ops a.tmps)=Hb:=by simp[F5,hg]
 exact xx
def ix(P:Program) (ops:Array Oper) (Q:Exit->Act->World->Prop) (back:Option Oper) (a:Act) (w:World):Prop:=
 match back with
 | none=>Q .normal a w
 | some o=> ∀K:Act->World->Prop,(∀a w,Q .normal a w->K a w)->if F5 o (yielded ops a.tmps)=Hb then o.wp P a w K Q else K (a.put o.dst undef) w
def aN(a0:Act) (known:List (Tmp×Fact)) (x:Tmp->Value):Act:=known.foldr (λp b=>b.put (F_ p.1) (x p.1)) a0
def Fin(P:Program) (ops:Array Oper) (Q:Exit->Act->World->Prop) (W:World) (a0:Act) (back:Option Oper) (known:List (Tmp×Fact)):Prop:=
 ∀(x:Tmp->Value) (w:World),Below W.heap.size W w->(∀p∈known,p.2 (x p.1) w)->ix P ops Q back (aN a0 known x) w
def kn(d:Option Tmp) (φ:Fact) (known:List (Tmp×Fact)):List (Tmp×Fact):=match d with|F_ t=>(t,φ) ::known|U=>known
def Grow(P:Program) (ops:Array Oper) (Q:Exit->Act->World->Prop) (W:World) (a0:Act) (back:Option Oper):List Oper->List (Tmp×Fact)->Prop
 | [],known=>Fin P ops Q W a0 back known
 | o ::rest,known=> ∃φ:Fact,φ.ck/\Obl P ops Q W a0 known o φ/\Grow P ops Q W a0 back rest (kn o.dst φ known)
theorem Grow.step {known:List (Tmp×Fact)} {t:Tmp} (φ:Fact) (hd:o.dst=F_ t) (hφ:φ.ck) (ho:Obl P ops Q W a0 known o φ)
  (h:Grow P ops Q W a0 back rest ((t,φ) ::known)):Grow P ops Q W a0 back (o ::rest) known:=⟨φ,hφ,ho,by rw[hd];exact h⟩
theorem Grow.stepC {known:List (Tmp×Fact)} {t:Tmp} (c:Value) (hd:o.dst=F_ t) (ho:Obl P ops Q W a0 known o (λv _=>v=c))
  (h:Grow P ops Q W a0 back rest ((t,λv _=>v=c) ::known)):Grow P ops Q W a0 back (o ::rest) known:=Grow.step _ hd (Fact.cy c) ho h
theorem Grow.done {known:List (Tmp×Fact)} (h:Fin P ops Q W a0 back known):Grow P ops Q W a0 back [] known:=h
def growB(n:Nat) (front:List Oper) (back:Option Oper):Bool:=
 let ops:=(front++back.toList).toArray
 decide ((front.filterMap (·.dst)).Nodup) && front.all (λo=>match o.dst with|F_ t=>decide (t<n)|U=>Hb) &&
 (Gm front.length).all (λj=>match front[j]? with
  | some o=>(o.looksAt ops).all (λt=>(Gm front.length).all λi=>match front[i]? with
    | some p=>p.dst !=F_ t || (decide (i<j) && o.after.any λe=>e.on==i && F9 .any e)
    | none=>Hb)
  | none=>Hb) &&
 (Gm ops.size).all (λj=>match ops[j]? with|F_ o=>o.after.all (λe=>decide (e.on<j))|U=>Hb) &&
 (match back with|F_ o=>(Gm front.length).all (λi=>o.after.any λe=>e.on==i && F9 .any e)|U=>Hb)
section
variable {P:Program} {ops:Array Oper} {Q:Exit->Act->World->Prop} {W:World} {a0:Act} {back:Option Oper}
def knAll:List (Tmp×Fact)->List Oper->List Fact->List (Tmp×Fact)
 | known,o ::l,φ ::φs=>knAll (kn o.dst φ known) l φs
 | known,_,_=>known
theorem cD(known:List (Tmp×Fact)) (φs:List Fact):knAll known [] φs=known:=by cases φs <;> rfl
theorem Grow.spec:∀(l:List Oper) (known:List (Tmp×Fact)),Grow P ops Q W a0 back l known->∃φs:List Fact,φs.length=l.length/\
  (∀(i:Nat) (o:Oper) (φ:Fact),l[i]?=F_ o->φs[i]?=F_ φ->φ.ck/\Obl P ops Q W a0 (knAll known (l.take i) (φs.take i)) o φ)/\Fin P ops Q W a0 back (knAll known l φs)
 | [],known,h=>⟨[],rfl,λi o φ h=>by simp at h,by rw[cD];exact h⟩
 | o ::l,known,h=>by
  exact u7
theorem jh(d:Option Tmp) (φ:Fact) (known:List (Tmp×Fact)) (t:Tmp):(kn d φ known).lookup t=if d=F_ t then F_ φ else known.lookup t:=by
 exact yz
theorem cR:∀(l:List Oper) (φs:List Fact) (known:List (Tmp×Fact)) {t:Tmp} {φ:Fact},(knAll known l φs).lookup t=F_ φ->
  (∃(i:Nat) (o:Oper),l[i]?=F_ o/\o.dst=F_ t/\φs[i]?=F_ φ)\/known.lookup t=F_ φ
 | [],φs,known,t,φ,h=>by rw[cD] at h;exact Hd h
 | o ::l,[],known,t,φ,h=>Hd h
 | o ::l,ψ ::φs,known,t,φ,h=>by
  exact BY
theorem cS:∀(l:List Oper) (φs:List Fact) (known:List (Tmp×Fact)) {t:Tmp},(knAll known l φs).lookup t=U->
  known.lookup t=U/\∀(i:Nat) (o:Oper) (φ:Fact),l[i]?=F_ o->φs[i]?=F_ φ->o.dst≠F_ t
 | [],φs,known,t,h=>by rw[cD] at h;exact⟨h,λi o φ h=>by simp at h⟩
 | o ::l,[],known,t,h=>⟨h,λi o φ _ h=>by simp at h⟩
 | o ::l,ψ ::φs,known,t,h=>by
  exact Ca
theorem dC:∀(l:List Oper) (φs:List Fact) (known:List (Tmp×Fact)) {p:Tmp×Fact},p∈knAll known l φs->
  (∃(i:Nat) (o:Oper),l[i]?=F_ o/\o.dst=F_ p.1/\φs[i]?=F_ p.2)\/p∈known
 | [],φs,known,p,h=>by rw[cD] at h;exact Hd h
 | o ::l,[],known,p,h=>Hd h
 | o ::l,ψ ::φs,known,p,h=>by
  exact B7
theorem iz(a:Act) (d t:Tmp) (v:Value):(a.put (F_ d) v).tmps.getD t undef=if d=t/\t<a.tmps.size then v else a.tmps.getD t undef:=by
 simp only[Act.put,FD,Array.getElem?_setIfInBounds];by_cases h:d=t
 ·subst h;by_cases h2:d<a.tmps.size
  ·simp[h2]
  ·simp[h2]
 ·simp[h]
theorem size_put(a:Act) (d:Option Tmp) (v:Value):(a.put d v).tmps.size=a.tmps.size:=by cases d <;> simp[Act.put]
theorem fv(a:Act) (d:Option Tmp) (v:Value):(a.put d v).defers=a.defers:=by cases d <;> simp[Act.put]
theorem dn(a0:Act) (x:Tmp->Value):∀known,(aN a0 known x).tmps.size=a0.tmps.size
 | []=>rfl
 | p ::l=>by unfold aN;rw[List.foldr_cons,size_put];exact dn a0 x l
theorem dp(a0:Act) (x:Tmp->Value):∀known,(aN a0 known x).defers=a0.defers
 | []=>rfl
 | p ::l=>by unfold aN;rw[List.foldr_cons,fv];exact dp a0 x l
theorem il(a0 a:Act) (known:List (Tmp×Fact)) (hk:∀p∈known,p.1<a0.tmps.size) (t:Tmp) (h:(∀p∈known,p.1≠t)->a.tmps.getD t undef=a0.tmps.getD t undef):
  (aN a0 known (λt=>a.tmps.getD t undef)).tmps.getD t undef=a.tmps.getD t undef:=by
 exact Cq
theorem AG {a b:Act} (hs:a.tmps.size=b.tmps.size) (hd:a.defers=b.defers) (h:∀t,a.tmps.getD t undef=b.tmps.getD t undef):a=b:=by
 cases a with|mk at_ ad=>cases b with|mk bt bd=>
 simp only at hs hd h;subst hd;congr 1;apply Array.ext hs;intro i h1 h2;have:=h i;simpa[Array.getD,h1,h2] using this
theorem cM {l:Array Bool} (h:i<l.size):l.getD i G_=l.getD i Hb:=by simp[Array.getD,h]
structure At (front:List Oper) (φs:List Fact) (W:World) (a0:Act) (listed:Array Bool) (a:Act) (w:World):Prop where
 size:a.tmps.size=a0.tmps.size
 defers:a.defers=a0.defers
 below:Below W.heap.size W w
 known:∀(i:Nat) (o:Oper) (φ:Fact),front[i]?=F_ o->φs[i]?=F_ φ->∀t,o.dst=F_ t->listed.getD i G_=Hb->φ (a.tmps.getD t undef) w
 other:∀t,(∀(i:Nat) (o:Oper),front[i]?=F_ o->o.dst=F_ t->listed.getD i G_=G_)->a.tmps.getD t undef=a0.tmps.getD t undef
theorem ff:∀(l:List Oper),(l.filterMap (·.dst)).Nodup->∀{i j:Nat} {o p:Oper} {t:Tmp},l[i]?=F_ o->l[j]?=F_ p->o.dst=F_ t->p.dst=F_ t->i=j
 | [],_,i,j,o,p,t,h,_,_,_=>by simp at h
 | q ::l,hn,i,j,o,p,t,h1,h2,h3,h4=>by
  have hmem:∀{k:Nat} {r:Oper},l[k]?=F_ r->r.dst=F_ t->t∈l.filterMap (·.dst):=λh h'=>List.mem_filterMap.2 ⟨_,FK h,h'⟩;have hn':(l.filterMap (·.dst)).Nodup:=by
   rw[List.filterMap_cons] at hn;split at hn
   ·exact hn
   ·exact (List.nodup_cons.1 hn).2
  cases i with
  | zero=>
   simp only[List.getElem?_cons_zero,Option.some.injEq] at h1;subst h1
   cases j with
   | zero=>rfl
   | succ j=>
    simp only[List.getElem?_cons_succ] at h2;rw[List.filterMap_cons,h3] at hn;exact absurd (hmem h2 h4) (List.nodup_cons.1 hn).1
  | succ i=>
   simp only[List.getElem?_cons_succ] at h1
   cases j with
   | zero=>
    simp only[List.getElem?_cons_zero,Option.some.injEq] at h2;subst h2;rw[List.filterMap_cons,h4] at hn;exact absurd (hmem h1 h3) (List.nodup_cons.1 hn).1
   | succ j=>
    simp only[List.getElem?_cons_succ] at h2;rw[ff l hn' h1 h2 h3 h4]
theorem At.step {φs:List Fact} {a:Act} {w:World} {φ:Fact} {v:Value} (h:At front φs W a0 listed a w)
  (hn:(front.filterMap (·.dst)).Nodup) (hin:∀o∈front,∀t,o.dst=F_ t->t<a0.tmps.size) (hmono:∀(i:Nat) (o:Oper) (φ:Fact),front[i]?=F_ o->φs[i]?=F_ φ->φ.ck)
  (ho:front[j]?=F_ o) (hφ:φs[j]?=F_ φ) (hj:j<listed.size) (hb:Below w.heap.size w w') (hv:φ v w'):At front φs W a0 (listed.setIfInBounds j Hb) (a.put o.dst v) w':=by
 refine⟨(size_put _ _ _).trans h.size,(fv _ _ _).trans h.defers,h.below.trans (hb.mono h.below.size),?_,?_⟩
 ·intro i p ψ hp hψ t ht hl;by_cases e:j=i
  ·subst e;obtain rfl:o=p:=Fp (ho.symm.trans hp);obtain rfl:φ=ψ:=Fp (hφ.symm.trans hψ);exact xo
  ·have hl':listed.getD i G_=Hb:=by
    simpa[FD,Array.getElem?_setIfInBounds,e] using hl
   have h1:=hmono i p ψ hp hψ _ _ _ (h.known i p ψ hp hψ t ht hl') hb;cases hd:o.dst with
   | none=>exact h1
   | some d=>
    rw[iz,if_neg (λhx=>e (ff front hn ho hp (hd.trans (by rw[hx.1])) ht))];exact h1
 ·exact Ci
theorem dE {n:Nat} (h:growB n front back=Hb):
  (front.filterMap (·.dst)).Nodup/\(∀o∈front,∀t,o.dst=F_ t->t<n)/\
  (∀(j:Nat) (o:Oper),front[j]?=F_ o->∀t∈o.looksAt (front++back.toList).toArray,∀(i:Nat) (p:Oper),front[i]?=F_ p->p.dst=F_ t->i<j/\∃e∈o.after,e.on=i/\F9 .any e=Hb)/\
  (∀(j:Nat) o,(front++back.toList).toArray[j]?=F_ o->∀e∈o.after,e.on<j)/\
  (∀o,back=F_ o->∀i,i<front.length->∃e∈o.after,e.on=i/\F9 .any e=Hb):=by
 unfold growB at h;simp only[FU,decide_eq_true_eq] at h;obtain⟨⟨⟨⟨h1,h2⟩,h3⟩,h4⟩,h5⟩:=h;refine⟨h1,?_,?_,?_,?_⟩
 ·intro o ho t ht;have:=List.all_eq_true.1 h2 o ho;rw[ht] at this;simpa using this
 ·exact Cw
 ·exact yN
 ·intro o ho i hi;subst ho;have:=List.all_eq_true.1 h5 i (List.mem_range.2 hi);obtain⟨k,hk,hx⟩:=Array.any_eq_true.1 this;simp only[FU,beq_iff_eq] at hx;exact⟨_,Array.getElem_mem hk,hx.1,hx.2⟩
theorem fz(hs:listed.size=ops.size) (hlt:∀(j:Nat) o,ops[j]?=F_ o->∀e∈o.after,e.on<j) (hr:Ga .any ops listed=[]):∀i,i<ops.size->listed.getD i G_=Hb:=by
 intro i;induction i using Nat.strongRecOn with
 | _ i ih=>
  intro hi
  cases hb:listed.getD i G_ with
  | true=>rfl
  | false=>
   have ho:ops[i]?=F_ ops[i]:=Array.getElem?_eq_getElem hi;have hm:i∈Ga .any ops listed:=mem_ready.2 ⟨by rw[<-cM af];exact hb,_,ho,λe he _=>ih e.on (hlt i _ ho e he) (Nat.lt_trans (hlt i _ ho e he) hi)⟩;rw[hr] at hm
   cases hm
theorem fN(h:listed.toList.count G_=0) (i:Nat) (hi:i<listed.size):listed.getD i G_=Hb:=by
 have hm:listed[i]∈listed.toList:=aH
 cases hb:listed[i] with
 | true=>simp[Array.getD,hi,hb]
 | false=>
  rw[hb] at hm;exact absurd (List.count_pos_iff.2 hm) af
theorem count_set(hi:i<listed.size) (hf:listed.getD i Hb=G_):(listed.setIfInBounds i Hb).toList.count G_+1=listed.toList.count G_:=by
 have hb:listed[i]=G_:=by simpa[Array.getD,hi] using hf
 have hm:G_∈listed.toList:=by rw[<-hb];simp
 have hp:=List.count_pos_iff.2 hm;rw[Array.toList_setIfInBounds,List.count_set (by simpa using hi)];rw[Array.getElem_toList,hb];simp only[beq_self_eq_true,if_true,show (Hb==G_)=G_ from rfl,Bool.false_eq_true,if_false];omega
theorem Fin.last {φs:List Fact} {a:Act} {w:World} (hf:Fin P ops Q W a0 back (knAll [] front φs)) (hlen:φs.length=front.length) (hin:∀o∈front,∀t,o.dst=F_ t->t<a0.tmps.size)
  (h:At front φs W a0 listed a w) (hall:∀i,i<front.length->listed.getD i G_=Hb):ix P ops Q back a w:=by
 have h1:=hf (λt=>a.tmps.getD t undef) w h.below (λp hp=>by
  rcases dC front φs [] hp with ⟨i,o,h1,h2,h3⟩|h1
  ·exact h.known i o p.2 h1 h3 p.1 h2 (hall i (Fm.1 h1).1)
  ·simp at h1)
 exact CH
theorem de {φs:List Fact} (hops:ops=(front++back.toList).toArray) (hB:growB a0.tmps.size front back=Hb) (hlen:φs.length=front.length)
  (hs:∀(i:Nat) (o:Oper) (φ:Fact),front[i]?=F_ o->φs[i]?=F_ φ->φ.ck/\Obl P ops Q W a0 (knAll [] (front.take i) (φs.take i)) o φ) (hf:Fin P ops Q W a0 back (knAll [] front φs)):
  ∀(fuel:Nat) (listed:Array Bool) (a:Act) (w:World),listed.size=ops.size->listed.toList.count G_<=fuel->(∀o,back=F_ o->listed.getD front.length G_=G_)->At front φs W a0 listed a w->wpAny P .any ops Q fuel listed a w:=by
 obtain⟨hn,hin,hdep,hlt,hback⟩:=dE hB;rw[<-hops] at hdep hlt;have hsz:ops.size=front.length+back.toList.length:=by rw[hops];simp
 have hend:∀(listed:Array Bool) (a:Act) (w:World),listed.size=ops.size->(∀i,i<ops.size->listed.getD i G_=Hb)->(∀o,back=F_ o->listed.getD front.length G_=G_)->At front φs W a0 listed a w->Q .normal a w:=by
  intro listed a w hz hall hb h;have h1:=hf.last hlen hin h (λi hi=>hall i af);exact pY
 intro fuel;induction fuel with
 | zero=>
  intro listed a w hz hc hb h;have hall:∀i,i<ops.size->listed.getD i G_=Hb:=λi hi=>fN af i af;refine⟨?_,hend listed a w hz hall hb h⟩
  cases hr:Ga .any ops listed with
  | nil=>rfl
  | cons j js=>
   have hm:j∈Ga .any ops listed:=by rw[hr];simp
   obtain⟨h1,o,ho,-⟩:=mem_ready.1 hm;have hj:=(FJ.1 ho).1;rw[<-cM af,hall j hj] at h1
   cases h1
 | succ fuel ih=>
  intro listed a w hz hc hb h;refine⟨λhr=>hend listed a w hz (fz hz hlt hr) hb h,λj hj=>?_⟩;obtain⟨hun,o,ho,hall⟩:=mem_ready.1 hj;have hjs:j<ops.size:=(FJ.1 ho).1;have hcs:=count_set (listed:=listed) (i:=j) af hun
  by_cases hjf:j<front.length
  ·have hof:front[j]?=F_ o:=by rw[hops] at ho;simpa[FI hjf] using ho
   have hφ:φs[j]?=F_ (φs[j]'(by omega)):=Fu _;obtain⟨hm,hob⟩:=hs j o _ hof hφ
   have hfacts:∀t∈o.looksAt ops,ai a0 (knAll [] (front.take j) (φs.take j)) a w t:=by
    intro t ht;unfold ai
    cases hk:(knAll [] (front.take j) (φs.take j)).lookup t with
    | some φ=>
     rcases cR _ _ _ hk with ⟨i,p,h1,h2,h3⟩|h1
     ·have hij:i<j:=by have:=(Fm.1 h1).1;simp at this;omega
      rw[FQ,if_pos hij] at h1 h3;obtain⟨-,e,he,hon,hbi⟩:=hdep j o hof t ht i p h1 h2;have hl:=hall e he hbi;rw[hon] at hl;exact h.known i p φ h1 h3 t h2 hl
     ·simp at h1
    | none=>
     refine h.other t (λi p hp hd=>?_)
     exfalso
     obtain⟨hij,-⟩:=hdep j o hof t ht i p hp hd;have hi:=(Fm.1 hp).1;exact (cS _ _ _ hk).2 i p (φs[i]'(by omega)) rG rK hd
   have h1:=hob a w (wpAny P .any ops Q fuel (listed.setIfInBounds j Hb)) h.size h.below hfacts (λv w' hbw hv=>by
    refine ih _ _ _ (by simpa using hz) af (λo' ho'=>?_) (h.step hn hin (λi o φ h1 h2=>(hs i o φ h1 h2).1) hof hφ af hbw hv);have h2:=hb o' ho'
    have e:¬j=front.length:=af
    simpa[FD,Array.getElem?_setIfInBounds,e] using h2)
   unfold wpOp;rw[ho]
   simp only
   split
   ·rename_i hw;rw[if_pos hw] at h1;exact He h1
   ·rename_i hw;rw[if_neg hw] at h1;exact h1
  ·cases hk:back with
   | none=>rw[hk] at hsz;simp at hsz;omega
   | some b=>
    have hjn:j=front.length:=by rw[hk] at hsz;simp at hsz;omega
    subst hjn
    have hob:o=b:=by
     rw[hops,hk] at ho
     simp at ho
     exact ho.symm
    subst hob
    have hfl:∀i,i<front.length->listed.getD i G_=Hb:=λi hi=>by
     obtain⟨e,he,hon,hbi⟩:=hback o hk i hi;have:=hall e he hbi
     rwa [hon] at this
    have h1:=hf.last hlen hin h hfl;rw[hk] at h1
    have h2:=h1 (wpAny P .any ops Q fuel (listed.setIfInBounds front.length Hb)) (λa' w' hq=>by
     have hr:Ga .any ops (listed.setIfInBounds front.length Hb)=[]:=by
      cases hr:Ga .any ops (listed.setIfInBounds front.length Hb) with
      | nil=>rfl
      | cons i is=>
       have hm:i∈Ga .any ops (listed.setIfInBounds front.length Hb):=by rw[hr];simp
       obtain⟨h3,o',ho',-⟩:=mem_ready.1 hm;have hi:=(FJ.1 ho').1
       exfalso
       by_cases e:front.length=i
       ·subst e
        simp[FD,show front.length<listed.size from by omega] at h3
       ·have h4:=hfl i (by rw[hk] at hsz;simp at hsz;omega);rw[cM af] at h4
        simp[FD,e] at h3 h4
        rw[h3] at h4
        cases h4
     cases fuel with
     | zero=>exact⟨hr,hq⟩
     | succ fuel=>exact⟨λ_=>hq,λi hi=>by rw[hr] at hi;cases hi⟩)
    unfold wpOp;rw[ho]
    simp only
    split
    ·rename_i hw;rw[if_pos hw] at h2;exact He h2
    ·rename_i hw;rw[if_neg hw] at h2;exact h2
end
theorem bK(n i:Nat):(Array.replicate n G_).getD i G_=G_:=by
 rw[FD,Array.getElem?_replicate];split <;> rfl
theorem ba(hm:P.follows .mixedOrders=Hb) (hl:l=front++back.toList) (hB:growB a0.tmps.size front back=Hb)
  (h:Grow P l.toArray Q W a0 back front []):(Code.region id l.toArray Hb).wp P Q a0 W:=by
 obtain⟨φs,hlen,hs,hf⟩:=Grow.spec _ _ h;refine wp_region_any hm (de (by rw[hl]) hB hlen hs hf _ _ _ _ aH ?_ (λo ho=>?_) ⟨rfl,rfl,(Ft _ _).drew,λi o φ h1 h2 t ht hx=>?_,λt _=>rfl⟩)
 ·exact lW
 ·exact bK _ _
 ·rw[bK] at hx;cases hx
theorem aQ {last:Oper} (hm:P.follows .mixedOrders=Hb) (hf:l.dropLast=front) (hb:l.getLast?=F_ last) (hB:growB a0.tmps.size front (F_ last)=Hb)
  (h:Grow P l.toArray Q W a0 (F_ last) front []):(Code.region id l.toArray Hb).wp P Q a0 W:=by
 refine ba hm ?_ hB h;exact pO
structure Vd where
 n:ByteArray
 c:Int
 z:ByteArray
 k:ByteArray
 x:Bool
 m:ByteArray
 y:Bool
 zs:List ByteArray
namespace Rc
structure Nd where
 n:ByteArray
 z:ByteArray
 c:Int
 s:Int
 u:Int
 d:Bool
 zs:List ByteArray
def ndF(x:Nd):List Fv:=[.s x.n,.s x.z,.i x.c,.i x.s,.i x.u,.b x.d,.l x.zs]
theorem aU {w:World} {b o:Nat} {x:Nd} (h:RAt w b o (ndF x)):∃a len cap,aD w a len cap x.zs/\x.n.size<=9223372036854775807/\x.z.size<=9223372036854775807/\w.cell? ⟨b,o,U⟩=F_ (I x.n)/\w.cell? ⟨b,o+1,U⟩=F_ (I x.z)/\w.cell? ⟨b,o+2,U⟩=F_ (GZ G6 x.c)/\w.cell? ⟨b,o+3,U⟩=F_ (GZ G6 x.s)/\w.cell? ⟨b,o+4,U⟩=F_ (GZ G6 x.u)/\w.cell? ⟨b,o+5,U⟩=F_ (G8 x.d)/\w.cell? ⟨b,o+6,U⟩=F_ (J a len cap):=by
 obtain⟨v0,h0,rfl,z0⟩:=h 0 _ rfl;obtain⟨v1,h1,rfl,z1⟩:=h 1 _ rfl;obtain⟨v2,h2,rfl⟩:=h 2 _ rfl;obtain⟨v3,h3,rfl⟩:=h 3 _ rfl;obtain⟨v4,h4,rfl⟩:=h 4 _ rfl;obtain⟨v5,h5,rfl⟩:=h 5 _ rfl;obtain⟨v6,h6,a,len,cap,rfl,hr⟩:=h 6 _ rfl;exact⟨a,len,cap,hr,z0,z1,h0,h1,h2,h3,h4,h5,h6⟩
theorem bO {w:World} {len:Nat} {xs:List Nd} (h:a_ w a len cap 7 (xs.map ndF)) {j:Nat} (hj:j<len):
  ∃b o x,a=F_ ⟨b,o,U⟩/\b<w.heap.size/\xs[j]?=F_ x/\RAt w b (o+j*7) (ndF x):=by
 exact lu
structure Kd where
 n:ByteArray
 x:Bool
 y:Bool
 z:ByteArray
def kdF(x:Kd):List Fv:=[.s x.n,.b x.x,.b x.y,.s x.z]
theorem cU {w:World} {b o:Nat} {x:Kd} (h:RAt w b o (kdF x)):x.n.size<=9223372036854775807/\x.z.size<=9223372036854775807/\w.cell? ⟨b,o,U⟩=F_ (I x.n)/\w.cell? ⟨b,o+1,U⟩=F_ (G8 x.x)/\w.cell? ⟨b,o+2,U⟩=F_ (G8 x.y)/\w.cell? ⟨b,o+3,U⟩=F_ (I x.z):=by
 obtain⟨v0,h0,rfl,z0⟩:=h 0 _ rfl;obtain⟨v1,h1,rfl⟩:=h 1 _ rfl;obtain⟨v2,h2,rfl⟩:=h 2 _ rfl;obtain⟨v3,h3,rfl,z3⟩:=h 3 _ rfl;exact⟨z0,z3,h0,h1,h2,h3⟩
theorem fD {w:World} {len:Nat} {xs:List Kd} (h:a_ w a len cap 4 (xs.map kdF)) {j:Nat} (hj:j<len):
  ∃b o x,a=F_ ⟨b,o,U⟩/\b<w.heap.size/\xs[j]?=F_ x/\RAt w b (o+j*4) (kdF x):=by
 exact lu
def vdF(x:Vd):List Fv:=[.s x.n,.i x.c,.s x.z,.s x.k,.b x.x,.s x.m,.b x.y,.l x.zs]
theorem aP {w:World} {b o:Nat} {x:Vd} (h:RAt w b o (vdF x)):∃a len cap,aD w a len cap x.zs/\x.n.size<=9223372036854775807/\x.z.size<=9223372036854775807/\x.k.size<=9223372036854775807/\x.m.size<=9223372036854775807/\w.cell? ⟨b,o,U⟩=F_ (I x.n)/\w.cell? ⟨b,o+1,U⟩=F_ (GZ G6 x.c)/\w.cell? ⟨b,o+2,U⟩=F_ (I x.z)/\w.cell? ⟨b,o+3,U⟩=F_ (I x.k)/\w.cell? ⟨b,o+4,U⟩=F_ (G8 x.x)/\w.cell? ⟨b,o+5,U⟩=F_ (I x.m)/\w.cell? ⟨b,o+6,U⟩=F_ (G8 x.y)/\w.cell? ⟨b,o+7,U⟩=F_ (J a len cap):=by
 obtain⟨v0,h0,rfl,z0⟩:=h 0 _ rfl;obtain⟨v1,h1,rfl⟩:=h 1 _ rfl;obtain⟨v2,h2,rfl,z2⟩:=h 2 _ rfl;obtain⟨v3,h3,rfl,z3⟩:=h 3 _ rfl;obtain⟨v4,h4,rfl⟩:=h 4 _ rfl;obtain⟨v5,h5,rfl,z5⟩:=h 5 _ rfl;obtain⟨v6,h6,rfl⟩:=h 6 _ rfl;obtain⟨v7,h7,a,len,cap,rfl,hr⟩:=h 7 _ rfl;exact⟨a,len,cap,hr,z0,z2,z3,z5,h0,h1,h2,h3,h4,h5,h6,h7⟩
theorem bM {w:World} {len:Nat} {xs:List Vd} (h:a_ w a len cap 8 (xs.map vdF)) {j:Nat} (hj:j<len):
  ∃b o x,a=F_ ⟨b,o,U⟩/\b<w.heap.size/\xs[j]?=F_ x/\RAt w b (o+j*8) (vdF x):=by
 exact lu
structure Xd where
 n:ByteArray
 z:Int
 k:ByteArray
 x:Bool
 v:ByteArray
def xdF(x:Xd):List Fv:=[.s x.n,.i x.z,.s x.k,.b x.x,.s x.v]
theorem bS {w:World} {b o:Nat} {x:Xd} (h:RAt w b o (xdF x)):x.n.size<=9223372036854775807/\x.k.size<=9223372036854775807/\x.v.size<=9223372036854775807/\w.cell? ⟨b,o,U⟩=F_ (I x.n)/\w.cell? ⟨b,o+1,U⟩=F_ (GZ G6 x.z)/\w.cell? ⟨b,o+2,U⟩=F_ (I x.k)/\w.cell? ⟨b,o+3,U⟩=F_ (G8 x.x)/\w.cell? ⟨b,o+4,U⟩=F_ (I x.v):=by
 obtain⟨v0,h0,rfl,z0⟩:=h 0 _ rfl;obtain⟨v1,h1,rfl⟩:=h 1 _ rfl;obtain⟨v2,h2,rfl,z2⟩:=h 2 _ rfl;obtain⟨v3,h3,rfl⟩:=h 3 _ rfl;obtain⟨v4,h4,rfl,z4⟩:=h 4 _ rfl;exact⟨z0,z2,z4,h0,h1,h2,h3,h4⟩
theorem dM {w:World} {len:Nat} {xs:List Xd} (h:a_ w a len cap 5 (xs.map xdF)) {j:Nat} (hj:j<len):
  ∃b o x,a=F_ ⟨b,o,U⟩/\b<w.heap.size/\xs[j]?=F_ x/\RAt w b (o+j*5) (xdF x):=by
 exact lu
structure Pd where
 n:ByteArray
 c:Int
 z:ByteArray
 zs:List ByteArray
 d:ByteArray
 p:Int
def pdF(x:Pd):List Fv:=[.s x.n,.i x.c,.s x.z,.l x.zs,.s x.d,.i x.p]
theorem aR {w:World} {b o:Nat} {x:Pd} (h:RAt w b o (pdF x)):∃a len cap,aD w a len cap x.zs/\x.n.size<=9223372036854775807/\x.z.size<=9223372036854775807/\x.d.size<=9223372036854775807/\w.cell? ⟨b,o,U⟩=F_ (I x.n)/\w.cell? ⟨b,o+1,U⟩=F_ (GZ G6 x.c)/\w.cell? ⟨b,o+2,U⟩=F_ (I x.z)/\w.cell? ⟨b,o+3,U⟩=F_ (J a len cap)/\w.cell? ⟨b,o+4,U⟩=F_ (I x.d)/\w.cell? ⟨b,o+5,U⟩=F_ (GZ G6 x.p):=by
 obtain⟨v0,h0,rfl,z0⟩:=h 0 _ rfl;obtain⟨v1,h1,rfl⟩:=h 1 _ rfl;obtain⟨v2,h2,rfl,z2⟩:=h 2 _ rfl;obtain⟨v3,h3,a,len,cap,rfl,hr⟩:=h 3 _ rfl;obtain⟨v4,h4,rfl,z4⟩:=h 4 _ rfl;obtain⟨v5,h5,rfl⟩:=h 5 _ rfl;exact⟨a,len,cap,hr,z0,z2,z4,h0,h1,h2,h3,h4,h5⟩
theorem bN {w:World} {len:Nat} {xs:List Pd} (h:a_ w a len cap 6 (xs.map pdF)) {j:Nat} (hj:j<len):
  ∃b o x,a=F_ ⟨b,o,U⟩/\b<w.heap.size/\xs[j]?=F_ x/\RAt w b (o+j*6) (pdF x):=by
 exact lu
structure Cl where
 ns:List Nd
 ks:List Kd
 vs:List Vd
 xs:List Xd
 ps:List Pd
 now:Int
structure Cr where
 n:List (List Fv)
 k:List (List Fv)
 v:List (List Fv)
 x:List (List Fv)
 p:List (List Fv)
def Cl.raw(c:Cl):Cr:=⟨c.ns.map ndF,c.ks.map kdF,c.vs.map vdF,c.xs.map xdF,c.ps.map pdF⟩
structure Ad where
 a1:Option Addr
 l1:Nat
 c1:Nat
 a2:Option Addr
 l2:Nat
 c2:Nat
 a3:Option Addr
 l3:Nat
 c3:Nat
 a4:Option Addr
 l4:Nat
 c4:Nat
 a5:Option Addr
 l5:Nat
 c5:Nat
@[reducible] def clv (d:Ad) (n:Int):Array Value:=#[J d.a1 d.l1 d.c1,J d.a2 d.l2 d.c2,J d.a3 d.l3 d.c3,J d.a4 d.l4 d.c4,J d.a5 d.l5 d.c5,GZ G6 n]
@[reducible] def clo6 (a1:Option Addr) (l1 y1:Nat) (a2:Option Addr) (l2 y2:Nat) (a3:Option Addr) (l3 y3:Nat) (a4:Option Addr) (l4 y4:Nat) (a5:Option Addr) (l5 y5:Nat) (n:Int):Array Value:=#[J a1 l1 y1,J a2 l2 y2,J a3 l3 y3,J a4 l4 y4,J a5 l5 y5,GZ G6 n]
@[reducible] def trv (d:Ad) (c:Cl) (p:Pd) (n:Nd) (pa:Option Addr) (pl pc:Nat) (na:Option Addr) (nl nc:Nat):Array Value:=#[J d.a1 d.l1 d.c1,J d.a2 d.l2 d.c2,J d.a3 d.l3 d.c3,J d.a4 d.l4 d.c4,J d.a5 d.l5 d.c5,GZ G6 c.now,I p.n,GZ G6 p.c,I p.z,J pa pl pc,I p.d,GZ G6 p.p,I n.n,I n.z,GZ G6 n.c,GZ G6 n.s,GZ G6 n.u,G8 n.d,J na nl nc]
@[reducible] def vov (v:Vd) (a:Option Addr) (l k:Nat):Array Value:=#[I v.n,GZ G6 v.c,I v.z,I v.k,G8 v.x,I v.m,G8 v.y,J a l k]
@[reducible] def pov (p:Pd) (a:Option Addr) (l k:Nat):Array Value:=#[I p.n,GZ G6 p.c,I p.z,J a l k,I p.d,GZ G6 p.p]
@[reducible] def nov (n:Nd) (a:Option Addr) (l k:Nat):Array Value:=#[I n.n,I n.z,GZ G6 n.c,GZ G6 n.s,GZ G6 n.u,G8 n.d,J a l k]
@[reducible] def xov (x:Xd):Array Value:=#[I x.n,GZ G6 x.z,I x.k,G8 x.x,I x.v]
structure aE (w:World) (d:Ad) (c:Cr):Prop where
 n:a_ w d.a1 d.l1 d.c1 7 c.n
 k:a_ w d.a2 d.l2 d.c2 4 c.k
 v:a_ w d.a3 d.l3 d.c3 8 c.v
 x:a_ w d.a4 d.l4 d.c4 5 c.x
 p:a_ w d.a5 d.l5 d.c5 6 c.p
theorem aE.below {w:World} {d:Ad} {c:Cr} (h:aE w d c) (hb:Below w.heap.size w w'):aE w' d c:=⟨h.n.below hb,h.k.below hb,h.v.below hb,h.x.below hb,h.p.below hb⟩
structure fU (w:World) (d:Ad) (c:Cr) (S:Nat->Prop) (P:Nat->Nat):Prop where
 n:aA w d.a1 d.l1 d.c1 7 38 c.n (λk=>S k/\P k=1)
 k:aA w d.a2 d.l2 d.c2 4 92 c.k (λk=>S k/\P k=2)
 v:aA w d.a3 d.l3 d.c3 8 95 c.v (λk=>S k/\P k=3)
 x:aA w d.a4 d.l4 d.c4 5 97 c.x (λk=>S k/\P k=4)
 p:aA w d.a5 d.l5 d.c5 6 40 c.p (λk=>S k/\P k=5)
def dz(w:World) (d:Ad) (c:Cr) (S:Nat->Prop):Prop:=∃P,fU w d c S P
theorem fU.row {w:World} {d:Ad} {c:Cr} {P:Nat->Nat} (h:fU w d c S P):aE w d c:=⟨h.n.row,h.k.row,h.v.row,h.x.row,h.p.row⟩
theorem dz.row {w:World} {d:Ad} {c:Cr} (h:dz w d c S):aE w d c:=by obtain⟨P,h⟩:=h;exact h.row
theorem zk:(Tryz.prog.info? 38).map (λi=>(i.zero,i.size,i.bytes))=F_ (F_ (Hc #[I ⟨#[]⟩,I ⟨#[]⟩,GZ G6 0,GZ G6 0,GZ G6 0,G8 G_,J U 0 0]),7,88):=by kernel_rfl
theorem zl:(Tryz.prog.info? 92).map (λi=>(i.zero,i.size,i.bytes))=F_ (F_ (Hc #[I ⟨#[]⟩,G8 G_,G8 G_,I ⟨#[]⟩]),4,40):=by kernel_rfl
theorem mj:(Tryz.prog.info? 95).map (λi=>(i.zero,i.size,i.bytes))=F_ (F_ (Hc #[I ⟨#[]⟩,GZ G6 0,I ⟨#[]⟩,I ⟨#[]⟩,G8 G_,I ⟨#[]⟩,G8 G_,J U 0 0]),8,112):=by kernel_rfl
theorem mi:(Tryz.prog.info? 97).map (λi=>(i.zero,i.size,i.bytes))=F_ (F_ (Hc #[I ⟨#[]⟩,GZ G6 0,I ⟨#[]⟩,G8 G_,I ⟨#[]⟩]),5,64):=by kernel_rfl
theorem fQ:(Tryz.prog.info? 40).map (λi=>(i.zero,i.size,i.bytes))=F_ (F_ (Hc #[I ⟨#[]⟩,GZ G6 0,I ⟨#[]⟩,J U 0 0,I ⟨#[]⟩,GZ G6 0]),6,88):=by kernel_rfl
structure Fg (c:Cl):Prop where
 l1:c.ns.length<=1048576
 f1:∀(j:Nat) x,c.ns[j]?=F_ x->x.zs.length<=1048576
 l2:c.ks.length<=1048576
 l3:c.vs.length<=1048576
 f3:∀(j:Nat) x,c.vs[j]?=F_ x->x.zs.length<=1048576
 l4:c.xs.length<=1048576
 l5:c.ps.length<=1048576
 f5:∀(j:Nat) x,c.ps[j]?=F_ x->x.zs.length<=1048576
def LFr(w:World) (h:Nat) (S:Nat->Prop) (zs:List ByteArray) (v:Value):Prop:=
 ∃a len cap,v=J a len cap/\zs.length=len/\len<=cap/\cap<=9223372036854775807/\(∀(j:Nat) x,zs[j]?=F_ x->x.size<=9223372036854775807)/\
  (zs=[]\/(a=F_ ⟨h,0,U⟩/\S h/\∃cu,w.heap[h]?=F_ (G7 cu 9 (0,0))/\∀(j:Nat) x,zs[j]?=F_ x->cu[j]?=F_ (I x)))
theorem LFr.aB {w:World} {zs:List ByteArray} {v:Value} (k:LFr w h S zs v) (hk:∀cu,S h->w.heap[h]?=F_ (G7 cu 9 (0,0))->w'.heap[h]?=w.heap[h]?) (hs:h<w.heap.size->S h->S' h):LFr w' h S' zs v:=by
 obtain⟨a',l',c',h1,h2,h3,h4,h5,h6⟩:=k;refine⟨a',l',c',h1,h2,h3,h4,h5,h6.imp id ?_⟩;rintro⟨q1,q2,cu,q4,q5⟩;exact⟨q1,hs (aa q4) q2,cu,(hk cu q2 q4).trans q4,q5⟩
def Fv.Fr(w:World) (h:Nat) (S:Nat->Prop):Fv->Value->Prop
 | .s t,v=>v=I t/\t.size<=9223372036854775807
 | .i n,v=>v=GZ G6 n
 | .b x,v=>v=G8 x
 | .l zs,v=>LFr w h S zs v
theorem Fv.Fr.aB {w:World} {f:Fv} {v:Value} (k:f.Fr w h S v) (hk:∀cu,S h->w.heap[h]?=F_ (G7 cu 9 (0,0))->w'.heap[h]?=w.heap[h]?) (hs:h<w.heap.size->S h->S' h):f.Fr w' h S' v:=by
 cases f with
 | l zs=>exact LFr.aB k hk hs
 | _=>exact k
theorem Fv.Fr.own {w:World} {f:Fv} {v:Value} (k:f.Fr w h S v) (hg:w.heap[g]?=F_ (G7 cur T (0,0))) (hT:¬T=9):f.Own w h S g v:=by
 cases f with
 | l zs=>
  obtain⟨a',l',c',h1,h2,h3,h4,h5,h6⟩:=k;refine⟨a',l',c',h1,h2,h3,h4,h5,h6.imp id ?_⟩;rintro⟨q1,q2,cu,q4,q5⟩;refine⟨q1,q2,?_,cu,q4,q5⟩;rintro rfl;rw[hg] at q4
  cases q4
  exact hT rfl
 | _=>exact k
theorem Fv.Own.fr {w:World} {f:Fv} {v:Value} (k:f.Own w h S g v):f.Fr w h S v:=by
 cases f with
 | l zs=>
  obtain⟨a',l',c',h1,h2,h3,h4,h5,h6⟩:=k;refine⟨a',l',c',h1,h2,h3,h4,h5,h6.imp id ?_⟩;rintro⟨q1,q2,q3,cu,q4,q5⟩;exact⟨q1,q2,cu,q4,q5⟩
 | _=>exact k
theorem Fv.Fr.one {w:World} {f:Fv} {v:Value} (k:f.Fr w h S v):v.oneCell'=Hb:=by
 cases f with
 | l zs=>obtain⟨a',l',c',rfl,_⟩:=k;rfl
 | s t=>obtain⟨rfl,_⟩:=k;rfl
 | i n=>cases (show v=GZ G6 n from k);rfl
 | b x=>cases (show v=G8 x from k);rfl
structure aX (w:World) (S:Nat->Prop) (m:Nat) (rs:List (List Fv)) (vss:List (List Value)) (H:Nat->Nat->Nat):Prop where
 len:vss.length=rs.length
 all:∀(j:Nat) vs,vss[j]?=F_ vs->vs.length=m
 rl:∀(j:Nat) r,rs[j]?=F_ r->r.length=m
 cell:∀(j:Nat) r vs,rs[j]?=F_ r->vss[j]?=F_ vs->∀(i:Nat) f,r[i]?=F_ f->∃v,vs[i]?=F_ v/\f.Fr w (H j i) S v
 inj:∀(j:Nat) r (i:Nat) zs (j':Nat) r' (i':Nat) zs',rs[j]?=F_ r->r[i]?=F_ (.l zs)->zs≠[]->rs[j']?=F_ r'->r'[i']?=F_ (.l zs')->zs'≠[]->H j i=H j' i'->j=j'/\i=i'
section
variable {w w':World} {S S':Nat->Prop} {m:Nat} {rs:List (List Fv)} {vss:List (List Value)} {H:Nat->Nat->Nat}
theorem aX.nil(w:World) (S:Nat->Prop) (m:Nat) (H:Nat->Nat->Nat):aX w S m [] [] H:=⟨rfl,λj vs h=>by simp at h,λj r h=>by simp at h,λj r vs h=>by simp at h,λj r i zs j' r' i' zs' h=>by simp at h⟩
theorem aX.aB(h:aX w S m rs vss H) (hk:∀k cu,S k->w.heap[k]?=F_ (G7 cu 9 (0,0))->w'.heap[k]?=w.heap[k]?) (hs:∀k,k<w.heap.size->S k->S' k):aX w' S' m rs vss H:=
 ⟨h.len,h.all,h.rl,λj r vs h1 h2 i f h3=>by
  obtain⟨v,h4,h5⟩:=h.cell j r vs h1 h2 i f h3;exact⟨v,h4,h5.aB (hk _) (hs _)⟩,h.inj⟩
theorem aX.below(h:aX w S m rs vss H) (hb:Below w.heap.size w w'):aX w' S m rs vss H:=h.aB (λk _ _ q=>hb.block k (aa q)) (λ_ _ s=>s)
theorem aX.grown(h:aX w S m rs vss H) {base n:Nat} {T:TypeId} {v:Value} {xs:List Value} (ho:w.ownsRow base T m v n xs) (hT:¬T=9) (hg:w.grownBy w' v.ownBlock):aX w' S m rs vss H:=by
 refine h.aB (λk cu _ q=>hg.block k (aa q) (λe=>?_)) (λ_ _ s=>s);rcases ho.2 with ⟨rfl,_⟩|⟨g,cap,cur,rfl,_,hgg,_⟩
 ·cases e
 ·cases e;simp only[] at q;rw[hgg] at q;cases q;exact hT rfl
theorem aX.lt(h:aX w S m rs vss H) {j:Nat} {r:List Fv} {i:Nat} {zs:List ByteArray} (h1:rs[j]?=F_ r) (h2:r[i]?=F_ (.l zs)) (h3:zs≠[]):H j i<w.heap.size:=by
 have hj:j<vss.length:=by rw[h.len];exact (Fm.1 h1).1
 obtain⟨v,_,a,len,cap,_,_,_,_,_,h9⟩:=h.cell j r _ h1 (Fu hj) i _ h2;rcases h9 with h9|⟨_,_,cu,q4,_⟩
 ·exact absurd h9 h3
 ·exact aa q4
theorem aX.Fe(h:aX w S m rs vss H) {rs':List (List Fv)} {vss':List (List Value)} (f:Nat->Nat) (hl:vss'.length=rs'.length) (hr:∀j,j<rs'.length->rs'[j]?=rs[f j]?) (hv:∀j,j<rs'.length->vss'[j]?=vss[f j]?)
  (hf:∀j j',j<rs'.length->j'<rs'.length->f j=f j'->j=j'):aX w S m rs' vss' (λj=>H (f j)):=by
 have lt1:∀{j:Nat} {r},rs'[j]?=F_ r->j<rs'.length:=λh=>(Fm.1 h).1;have lt2:∀{j:Nat} {r},vss'[j]?=F_ r->j<rs'.length:=λh=>by rw[<-hl];exact (Fm.1 h).1
 refine⟨hl,λj vs h1=>h.all (f j) vs (by rw[<-hv j (lt2 h1)];exact h1),λj r h1=>h.rl (f j) r (by rw[<-hr j (lt1 h1)];exact h1),λj r vs h1 h2=>h.cell (f j) r vs (by rw[<-hr j (lt1 h1)];exact h1) (by rw[<-hv j (lt1 h1)];exact h2),?_⟩;intro j r i zs j' r' i' zs' h1 h2 h3 h4 h5 h6 h7;obtain⟨e1,e2⟩:=h.inj (f j) r i zs (f j') r' i' zs' (by rw[<-hr j (lt1 h1)];exact h1) h2 h3 (by rw[<-hr j' (lt1 h4)];exact h4) h5 h6 h7;exact⟨hf j j' (lt1 h1) (lt1 h4) e1,e2⟩
theorem aX.push(h:aX w S m rs vss H) {r:List Fv} {vs:List Value} {hh:Nat->Nat} (hr:r.length=m) (hvs:vs.length=m) (hc:∀(i:Nat) f,r[i]?=F_ f->∃v,vs[i]?=F_ v/\f.Fr w (hh i) S v)
  (hn:∀(i:Nat) zs,r[i]?=F_ (.l zs)->zs≠[]->∀(j:Nat) r' (i':Nat) zs',rs[j]?=F_ r'->r'[i']?=F_ (.l zs')->zs'≠[]->¬H j i'=hh i)
  (h1:∀(i i':Nat) zs zs',r[i]?=F_ (.l zs)->zs≠[]->r[i']?=F_ (.l zs')->zs'≠[]->i=i'):
  aX w S m (rs++[r]) (vss++[vs]) (λj=>if j=rs.length then hh else H j):=by
 have at1:∀{α:Type} {l:List α} {x y:α} {j:Nat},(l++[x])[j]?=F_ y->(j=l.length/\y=x)\/(j<l.length/\l[j]?=F_ y):=by
  intro α l x y j hj;by_cases e:j<l.length
  ·rw[FI e] at hj;exact Hd ⟨e,hj⟩
  ·rw[List.getElem?_append_right af] at hj;rcases Nat.eq_zero_or_pos (j - l.length) with e0|e0
   ·rw[e0] at hj;exact He ⟨by omega,by simpa using hj.symm⟩
   ·rw[Gh bD] at hj;cases hj
 refine⟨by simp[h.len],λj v hv=>?_,λj r' hj=>?_,λj r' v hj hv i f hf=>?_,λj r1 i zs j' r2 i' zs' a1 a2 a3 b1 b2 b3 e=>?_⟩
 ·rcases at1 hv with ⟨_,rfl⟩|⟨_,hv⟩
  ·exact hvs
  ·exact h.all j v hv
 ·rcases at1 hj with ⟨_,rfl⟩|⟨_,hj⟩
  ·exact hr
  ·exact h.rl j r' hj
 ·rcases at1 hj with ⟨e1,rfl⟩|⟨e1,hj⟩
  ·rcases at1 hv with ⟨_,rfl⟩|⟨e2,hv⟩
   ·simp only[e1,if_true];exact hc i f hf
   ·have:=h.len;omega
  ·rcases at1 hv with ⟨e2,rfl⟩|⟨e2,hv⟩
   ·have:=h.len;omega
   ·simp only[if_neg (show¬j=rs.length by omega)];exact h.cell j r' v hj hv i f hf
 ·rcases at1 a1 with ⟨e1,rfl⟩|⟨e1,a4⟩ <;> rcases at1 b1 with ⟨e2,rfl⟩|⟨e2,b4⟩
  ·exact⟨by omega,h1 _ _ _ _ a2 a3 b2 b3⟩
  ·simp only[e1,if_true,if_neg (show¬j'=rs.length by omega)] at e;exact absurd e.symm (hn i zs a2 a3 j' r2 i' zs' b4 b2 b3)
  ·simp only[e2,if_true,if_neg (show¬j=rs.length by omega)] at e;exact absurd e (hn i' zs' b2 b3 j r1 i zs a4 a2 a3)
  ·simp only[if_neg (show¬j=rs.length by omega),if_neg (show¬j'=rs.length by omega)] at e;exact h.inj j r1 i zs j' r2 i' zs' a4 a2 a3 b4 b2 b3 e
end
theorem fu {m:Nat} :∀{vss:List (List α)},(∀(j:Nat) vs,vss[j]?=F_ vs->vs.length=m)->∀{j:Nat} {vs:List α} {i:Nat} {u:α},vss[j]?=F_ vs->vs[i]?=F_ u->vss.flatten[j*m+i]?=F_ u
 | [],_,j,vs,i,u,h,_=>by simp at h
 | x ::vss,hl,0,vs,i,u,h,hu=>by
  obtain rfl:x=vs:=hM
  have hx:=hl 0 x rfl;have hi:=(Fm.1 hu).1;rw[List.flatten_cons,FI af,Nat.zero_mul,FE];exact hu
 | x ::vss,hl,j+1,vs,i,u,h,hu=>by
  have hx:=hl 0 x rfl;rw[List.flatten_cons,List.getElem?_append_right (by rw[hx,Nat.succ_mul];omega),hx,show (j+1)*m+i - m=j*m+i by rw[Nat.succ_mul];omega];exact fu (λj' vs' h'=>hl (j'+1) vs' (by simpa using h')) hM hu
theorem iA {m:Nat} :∀{vss:List (List α)},(∀(j:Nat) vs,vss[j]?=F_ vs->vs.length=m)->∀{k:Nat} {u:α},vss.flatten[k]?=F_ u->∃(j i:Nat) (vs:List α),vss[j]?=F_ vs/\vs[i]?=F_ u/\k=j*m+i
 | [],_,k,u,h=>by simp at h
 | x ::vss,hl,k,u,h=>by
  have hx:=hl 0 x rfl;rw[List.flatten_cons] at h;by_cases e:k<m
  ·rw[FI af] at h;exact⟨0,k,x,rfl,h,by omega⟩
  ·rw[List.getElem?_append_right af,hx] at h;obtain⟨j,i,vs,h1,h2,h3⟩:=iA (λj' vs' h'=>hl (j'+1) vs' (by simpa using h')) h;exact⟨j+1,i,vs,by simpa using h1,h2,by rw[Nat.succ_mul];omega⟩
theorem eD {m:Nat} :∀{vss:List (List α)},(∀(j:Nat) vs,vss[j]?=F_ vs->vs.length=m)->vss.flatten.length=vss.length*m
 | [],_=>by simp
 | x ::vss,hl=>by
  have hx:=hl 0 x rfl;rw[List.flatten_cons,List.length_append,eD (λj' vs' h'=>hl (j'+1) vs' (by simpa using h')),hx,List.length_cons,Nat.succ_mul];omega
theorem aX.one {w:World} {m:Nat} {rs:List (List Fv)} (h:aX w S m rs vss H):∀u∈vss.flatten,u.oneCell'=Hb:=by
 intro u hu;obtain⟨k,hk,rfl⟩:=List.mem_iff_getElem.1 hu;obtain⟨j,i,vs,h1,h2,_⟩:=iA h.all (Fu hk);have hj:j<rs.length:=by rw[<-h.len];exact (Fm.1 h1).1
 have hr:=Fu hj;have hi:i<(rs[j]).length:=by rw[h.rl j _ hr,<-h.all j vs h1];exact (Fm.1 h2).1
 obtain⟨v,h3,h4⟩:=h.cell j _ vs hr h1 i _ (Fu hi);rw[h2] at h3;cases h3;exact h4.one
theorem aX.own {w:World} {m:Nat} {rs:List (List Fv)} (h:aX w S m rs vss H) {base n:Nat} {v:Value} (ho:w.ownsRow base T m v n vss.flatten) (hn:n=rs.length) (hT:¬T=9) (hS:∀g,v.ownBlock=F_ g->S g):
  ∃a cap,v=J a rs.length cap/\aA w a rs.length cap m T rs S:=by
 subst hn;rcases ho.2 with ⟨rfl,h0⟩|⟨g,cap,cur,rfl,_,hgg,h1,h2,h3,h4⟩
 ·obtain rfl:rs=[]:=F6 h0;exact⟨U,0,rfl,aA.nil _ _ _ _ _ af⟩
 ·refine⟨_,cap,rfl,rfl,h1,by unfold maxLen at h2;omega,Hd ⟨g,cur,H,rfl,hgg,hS g rfl,h.rl,λj r hj i f hi=>?_,h.inj⟩⟩;have hjl:j<vss.length:=by rw[h.len];exact (Fm.1 hj).1
  have hv:=Fu hjl;obtain⟨u,h5,h6⟩:=h.cell j r _ hj hv i f hi;have h7:=fu h.all hv h5;rw[<-h4,FQ] at h7;split at h7
  ·exact⟨u,by simpa using h7,h6.own hgg hT⟩
  ·cases h7
theorem aA.gq {w:World} {m:Nat} {len:Nat} {rs:List (List Fv)} (h:aA w a len cap m T rs S):
  ∃vss H,aX w S m rs vss H/\∀(k:Nat) u,vss.flatten[k]?=F_ u->∃g,a=F_ ⟨g,0,U⟩/\S g/\w.cell? ⟨g,k,U⟩=F_ u:=by
 obtain⟨h1,h2,h3,h4⟩:=h;rcases h4 with rfl|⟨g,cur,H,rfl,h5⟩
 ·exact⟨[],λ_ _=>0,aX.nil _ _ _ _,λk u hu=>by simp at hu⟩
 ·have hget:∀(j i:Nat),((Gm rs.length).map λj=>(Gm m).map λi=>cur.getD (j*m+i) undef)[j]?=if j<rs.length then F_ ((Gm m).map λi=>cur.getD (j*m+i) undef) else U:=by
   intro j _;rw[FG];split
   ·next e=>rw[List.getElem?_range e];rfl
   ·next e=>rw[Gh (by simpa using e)];rfl
  have hval:∀(j:Nat) r,rs[j]?=F_ r->∀(i:Nat),i<m->∃f v,r[i]?=F_ f/\cur[j*m+i]?=F_ v/\f.Own w (H j i) S g v/\((Gm m).map λi=>cur.getD (j*m+i) undef)[i]?=F_ v:=by
   intro j r hr i hi;have hl:=h5.len j r hr;have hf:=Fu (l:=r) (i:=i) af;obtain⟨v,q1,q2⟩:=h5.cell j r hr i _ hf;refine⟨_,v,hf,q1,q2,?_⟩;rw[FG,List.getElem?_range hi];simp[FD,q1]
  have hvrecs:aX w S m rs ((Gm rs.length).map λj=>(Gm m).map λi=>cur.getD (j*m+i) undef) H:=by
   refine⟨by simp,λj vs hv=>?_,h5.len,λj r vs hr hv i f hf=>?_,h5.inj⟩
   ·rw[hget j 0] at hv;split at hv
    ·cases hv;simp
    ·cases hv
   ·rw[hget j 0,if_pos (Fm.1 hr).1] at hv;cases hv;have hi:i<m:=by rw[<-h5.len j r hr];exact (Fm.1 hf).1
    obtain⟨f',v,q1,q2,q3,q4⟩:=hval j r hr i hi;rw[hf] at q1;cases q1;exact⟨v,q4,q3.fr⟩
  refine⟨_,H,hvrecs,λk u hu=>⟨g,rfl,h5.inS,?_⟩⟩;obtain⟨j,i,vs,e1,e2,rfl⟩:=iA hvrecs.all hu;rw[hget j 0] at e1;split at e1
  ·next e=>
   cases e1;have hi:i<m:=by have:=(Fm.1 e2).1;simpa using this
   obtain⟨f',v,q1,q2,q3,q4⟩:=hval j _ (Fu e) i hi;rw[e2] at q4;cases q4;exact (ar h5.blk _).trans q2
  ·cases e1
theorem dP:∀x:List UInt8,Fx x x=G_
 | []=>rfl
 | a ::x=>by simp[Fx,dP x]
theorem cA:∀x y z:List UInt8,Fx x y=Hb->Fx y z=Hb->Fx x z=Hb
 | _,[],_,h,_=>by cases ‹List UInt8› <;> simp[Fx] at h
 | _,_ ::_,[],_,h=>by simp[Fx] at h
 | [],_ ::_,_ ::_,_,_=>rfl
 | a ::x,b ::y,c ::z,h,k=>by
  simp only[Fx,Bool.or_eq_true,decide_eq_true_eq,FU,beq_iff_eq] at h k ⊢;rcases h with h|⟨rfl,h⟩
  ·rcases k with k|⟨rfl,k⟩
   ·exact He (UInt8.lt_trans h k)
   ·exact He h
  ·rcases k with k|⟨rfl,k⟩
   ·exact He k
   ·exact Hd ⟨rfl,cA x y z h k⟩
section
variable {α:Type} {nm:α->ByteArray} {xs:List α} {t:ByteArray}
def aJ(nm:α->ByteArray) (xs:List α):Prop:=∀(j:Nat) x y,xs[j+1]?=F_ x->xs[j]?=F_ y->Fx (nm y).toList (nm x).toList=Hb
theorem aJ.lt(h:aJ nm xs) {i j:Nat} {x y:α} (hij:i<j) (hi:xs[i]?=F_ x) (hj:xs[j]?=F_ y):Fx (nm x).toList (nm y).toList=Hb:=by
 induction j generalizing y with
 | zero=>omega
 | succ j ih=>
  by_cases e:i=j
  ·subst e;exact h i y x hj hi
  ·have hl:j<xs.length:=by have:=(Fm.1 hj).1;omega
   have hz:xs[j]?=F_ (xs[j]'hl):=Fu _;exact cA _ _ _ (ih af hz) (h j y _ hj hz)
theorem aJ.inj(h:aJ nm xs) {i j:Nat} {x y:α} (hi:xs[i]?=F_ x) (hj:xs[j]?=F_ y) (e:nm x=nm y):i=j/\x=y:=by
 have hij:i=j:=by
  rcases Nat.lt_trichotomy i j with k|k|k
  ·have:=h.lt k hi hj;rw[e,dP] at this;cases this
  ·exact k
  ·have:=h.lt k hj hi;rw[e,dP] at this;cases this
 subst hij;rw[hi] at hj;exact⟨rfl,Fp hj⟩
def pl(nm:α->ByteArray) (xs:List α) (t:ByteArray):Nat:=xs.findIdx (λx=> !Fx (nm x).toList t.toList)
def hit(nm:α->ByteArray) (xs:List α) (t:ByteArray):Bool:=match xs[pl nm xs t]? with|F_ x=>(nm x).toList==t.toList|U=>G_
theorem lA {k:Nat} {x:α} (h:∀(j:Nat) y,j<k->xs[j]?=F_ y->Fx (nm y).toList t.toList=Hb) (hx:xs[k]?=F_ x) (hl:Fx (nm x).toList t.toList=G_):pl nm xs t=k:=by
 have hk:k<xs.length:=(Fm.1 hx).1;have hxe:xs[k]=x:=(Fm.1 hx).2;unfold pl;rw[List.findIdx_eq hk];refine⟨by rw[hxe,hl];rfl,λj hj=>?_⟩;rw[h j _ hj (Fu af)];rfl
theorem fp(h:∀(j:Nat) y,xs[j]?=F_ y->Fx (nm y).toList t.toList=Hb):pl nm xs t=xs.length:=by
 unfold pl;rw[List.findIdx_eq_length];intro x hx;obtain⟨j,hj,rfl⟩:=List.mem_iff_getElem.1 hx;rw[h j _ (Fu hj)];rfl
theorem cY {a b:ByteArray} (h:(a.toList==b.toList)=Hb):a=b:=by
 by_cases e:a=b
 ·exact e
 ·rw[bH e] at h;cases h
theorem bl(hr:aJ nm xs) {j:Nat} {x:α} (hx:xs[j]?=F_ x) (hn:nm x=t):pl nm xs t=j/\hit nm xs t=Hb:=by
 have h:pl nm xs t=j:=lA (λi y hi hy=>by rw[<-hn];exact hr.lt hi hy hx) hx (by rw[hn];exact dP _);refine⟨h,?_⟩;unfold hit;rw[h,hx];exact aW hn
theorem cm(h:hit nm xs t=Hb):∃x,xs[pl nm xs t]?=F_ x/\nm x=t:=by
 unfold hit at h;split at h
 ·next x hx=>exact⟨x,hx,cY h⟩
 ·cases h
def eF(ok:α->Prop) (nm:α->ByteArray) (xs:List α) (most:Int):Prop:=(xs.length:Int)<=most/\(∀(j:Nat) x,xs[j]?=F_ x->ok x)/\aJ nm xs
end
theorem av.yes {p:Prop} {w:World} (h:av p w e w') (hp:p):e=Ha (G8 Hb)/\Below w.heap.size w w':=by
 obtain⟨r,rfl,hr,hb⟩:=h;exact⟨by rw[hr.2 hp],hb⟩
theorem av.no {p:Prop} {w:World} (h:av p w e w') (hp:¬p):e=Ha (G8 G_)/\Below w.heap.size w w':=by
 obtain⟨r,rfl,hr,hb⟩:=h;cases r
 ·exact⟨rfl,hb⟩
 ·exact absurd (hr.1 rfl) hp
theorem av.t {p:Prop} {w:World} (hp:p) (hb:Below w.heap.size w w'):av p w (Ha (G8 Hb)) w':=⟨Hb,rfl,⟨λ_=>hp,λ_=>rfl⟩,hb⟩
theorem av.f {p:Prop} {w:World} (hp:¬p) (hb:Below w.heap.size w w'):av p w (Ha (G8 G_)) w':=⟨G_,rfl,⟨λh=>(by cases h),λh=>absurd h hp⟩,hb⟩
def qf(x:Nd):Prop:=qU x.n x.z x.c x.s x.u x.zs
def qt(x:Kd):Prop:=mF x.n x.z
def mS(v:Vd):Prop:=zH v.n v.c v.z v.k v.x v.m v.y v.zs
def fH(x:Xd):Prop:=mG x.n x.z x.k x.v
def ob(x:Pd):Prop:=su x.n x.c x.z x.zs x.d x.p
def Bw(y W:World):Prop:=Below y.heap.size y W
theorem Bw.refl(y:World):Bw y y:=Ft _ _
theorem Bw.below {y W':World} (h:Bw y W) (hb:Below W.heap.size W W'):Bw y W':=Below.trans h (hb.mono (Below.size h))
theorem Bw.out {y:World} (h:Bw y W):Below y.heap.size y W:=h
def bQ(w:World) (a:Option Addr) (l c:Nat) (zs:List ByteArray) (S:Nat->Prop):Prop:=
 aD w a l c zs/\(zs=[]\/∃g cur,a=F_ ⟨g,0,U⟩/\S g/\w.heap[g]?=F_ (G7 cur 9 (0,0)))
theorem bQ.aB {w:World} {l c:Nat} {zs:List ByteArray} (h:bQ w a l c zs S) (hk:∀k,k<w.heap.size->S k->w'.heap[k]?=w.heap[k]?) (hs:∀k,k<w.heap.size->S k->S' k):bQ w' a l c zs S':=by
 obtain⟨⟨h1,h2,h3,h4,h5⟩,h6⟩:=h;rcases h6 with rfl|⟨g,cur,rfl,hS,hg⟩
 ·exact⟨⟨h1,h2,h3,h4,He rfl⟩,He rfl⟩
 ·have hg':=(hk g (aa hg) hS).trans hg;refine⟨⟨h1,h2,h3,h4,h5.imp id ?_⟩,Hd ⟨g,cur,rfl,hs g (aa hg) hS,hg'⟩⟩;rintro⟨b,o,e,hlt,hc⟩;cases e;exact⟨g,0,rfl,aa hg',λj x hx=>by have:=hc j x hx;rw[ar hg] at this;rw[ar hg'];exact this⟩
theorem bQ.below {w:World} {l c:Nat} {zs:List ByteArray} (h:bQ w a l c zs S) (hb:Below w.heap.size w w'):bQ w' a l c zs S:=h.aB (λk hk _=>hb.block k hk) (λ_ _ s=>s)
theorem bQ.bI {w:World} {l c:Nat} {zs:List ByteArray} (h:bQ w a l c zs S) (hs:∀k,k<w.heap.size->S k->S' k):bQ w a l c zs S':=h.aB (λ_ _ _=>rfl) hs
theorem bQ.row {w:World} {l c:Nat} {zs:List ByteArray} (h:bQ w a l c zs S):aD w a l c zs:=h.1
theorem bQ.ez {w:World} {n:Nat} {v:Value} {zs:List ByteArray} (h:w.ownsRow base 9 1 v n (zs.map Fz)) (hs:∀(j:Nat) x,zs[j]?=F_ x->x.size<=9223372036854775807):∃a c,v=J a n c/\bQ w a n c zs (λk=>base<=k):=by
 obtain⟨hl,h⟩:=h;have hl':zs.length=n:=by simpa using hl
 rcases h with ⟨rfl,rfl⟩|⟨g,cap,cur,rfl,hbg,hg,hnc,hcm,hsz,htk⟩
 ·obtain rfl:zs=[]:=F6 hl';exact⟨U,0,rfl,⟨rfl,Fq _,by omega,λj x hx=>by simp at hx,He rfl⟩,He rfl⟩
 ·refine⟨F_ ⟨g,0,U⟩,cap,rfl,⟨hl',hnc,by unfold maxLen at hcm;omega,hs,Hd ⟨g,0,rfl,aa hg,λj x hx=>?_⟩⟩,Hd ⟨g,cur,rfl,hbg,hg⟩⟩;exact yI
theorem cw {w:World} {n m:Nat} {v:Value} {xs:List Value} (h:w.ownsRow base T m v n xs) (hb:Below w.heap.size w w'):w'.ownsRow base T m v n xs:=by
 refine⟨h.1,h.2.imp id ?_⟩;rintro⟨g,cap,cur,h1,h2,h3,h4⟩;exact⟨g,cap,cur,h1,h2,(hb.block _ (aa h3)).trans h3,h4⟩
end Rc
namespace Ap
def b_(zs:List ByteArray) (w:World) (a:Option Addr) (len cap:Nat) (w':World):Prop:=
 aD w' a len cap zs/\(zs=[]\/∃g cur,a=F_ ⟨g,0,U⟩/\w.heap.size<=g/\w'.heap[g]?=F_ (G7 cur 9 (0,0)))/\Below w.heap.size w w'
theorem sb {w:World} {ad:Addr} {len:Nat} {zs:List ByteArray} (h:aD w (F_ ad) len cap zs):∀j u,(zs.map Fz)[j]?=F_ u->w.cell? (ad.add j)=F_ u:=by
 intro j u hu;rw[FG] at hu;obtain⟨x,hx,rfl⟩:=FR.1 hu;rcases h.2.2.2.2 with h|⟨b,o,e,_,hc⟩
 ·subst h;simp at hx
 ·cases e;rw[FC];exact hc j x hx
theorem b_.set {zs:List ByteArray} {w:World} {l p b X:Nat} {v:Value} (h:aD w' a l p zs/\(zs=[]\/∃g cur,a=F_ ⟨g,0,U⟩/\X<=g/\w'.heap[g]?=F_ (G7 cur 9 (0,0)))/\Below w.heap.size w w') (hb:w.heap.size<=b) (hX:b<X):
  aD (w'.setCell ⟨b,i,U⟩ v) a l p zs/\(zs=[]\/∃g cur,a=F_ ⟨g,0,U⟩/\X<=g/\(w'.setCell ⟨b,i,U⟩ v).heap[g]?=F_ (G7 cur 9 (0,0)))/\Below w.heap.size w (w'.setCell ⟨b,i,U⟩ v):=by
 obtain⟨⟨h1,h2,h3,h4,h5⟩,h6,h7⟩:=h;refine⟨⟨h1,h2,h3,h4,?_⟩,?_,h7.setCell hb v⟩
 ·rcases h6 with h6|⟨g,cur,rfl,hg,hh⟩
  ·exact He h6
  ·rcases h5 with h5|⟨g',o,e,hl,hc⟩
   ·exact He h5
   ·cases e;have hs:(w'.setCell ⟨b,i,U⟩ v).heap[g]?=w'.heap[g]?:=Fl _ _ _ _ (show g≠b by omega);exact Hd ⟨g,0,rfl,by simpa[Gb] using hl,λj x hx=>by have:=hc j x hx;simp only[Gc,hs] at this ⊢;exact this⟩
 ·rcases h6 with h6|⟨g,cur,rfl,hg,hh⟩
  ·exact He h6
  ·exact Hd ⟨g,cur,rfl,hg,(Fl _ _ _ _ (show g≠b by omega)).trans hh⟩
theorem DO(n:ByteArray) (c:Int) (z:ByteArray) (k:ByteArray) (x:Bool) (m:ByteArray) (y:Bool) (a:Option Addr) (len cap:Nat) (zs:List ByteArray) (w:World) (hr:aD w a len cap zs) (hl:len<=8001):
  Calls Tryz.prog 55 #[Hc #[I n,GZ G6 c,I z,I k,G8 x,I m,G8 y,J a len cap]] w λe w'=> ∃a' l p,e=Ha (Hc #[I n,GZ G6 c,I z,I k,G8 x,I m,G8 y,J a' l p])/\b_ zs w a' l p w':=by
 have hown:(((w.alloc (G7 #[I n,GZ G6 c,I z,I k,G8 x,I m,G8 y,J a len cap] 95)).alloc (G7 #[I ⟨#[]⟩,GZ G6 0,I ⟨#[]⟩,I ⟨#[]⟩,G8 G_,I ⟨#[]⟩,G8 G_,J U 0 0] 95)).alloc (G7 #[] 9)).ownsRow (w.heap.size+1+1) 9 1 (J (F_ ⟨w.heap.size+1+1,0,U⟩) 0 0) 0 []:=⟨rfl,Hd ⟨w.heap.size+1+1,0,#[],rfl,Fq _,jQ _ _ _ _,Fq _,by unfold maxLen;omega,rfl,rfl⟩⟩;have HOW:=ae hown;have hr3:=hr.below (cI w (G7 #[I n,GZ G6 c,I z,I k,G8 x,I m,G8 y,J a len cap] 95) (G7 #[I ⟨#[]⟩,GZ G6 0,I ⟨#[]⟩,I ⟨#[]⟩,G8 G_,I ⟨#[]⟩,G8 G_,J U 0 0] 95) (G7 #[] 9));have HZ:=ae hr.2.2.2.1;have hzl:=hr.1;have HR3:=ae hr3;clear hown hr3;obtain⟨i0,hi,hz0,hz1,hz2⟩:=info_parts dI;cases a with
 | none=>
  obtain rfl:zs=[]:=by
   rcases hr.2.2.2.2 with h|⟨b,o,e,_⟩
   ·exact h
   ·cases e
  obtain rfl:len=0:=by simpa using hzl.symm
  clear hr HOW HR3 hi hz0 hz1 hz2
  go_enter Tryz.func55,Tryz.ntmps55
  go_wp2
  exact bodyPost_ret (v:=Hc #[I n,GZ G6 c,I z,I k,G8 x,I m,G8 y,J (F_ ⟨w.heap.size+1+1,0,U⟩) 0 0]) (by simp[results,Tryz.results55,go_sem]) rfl ⟨_,_,_,rfl,⟨rfl,Fq _,by omega,λj x hx=>by simp at hx,He rfl⟩,He rfl,cI _ _ _ _⟩
 | some ad=>
  have HN:=ae (sb HR3.out);clear hr
  go_enter Tryz.func55,Tryz.ntmps55
  go_wp2_with (first|(at_builtin;refine wpList_append_own _ rfl _ _ 36 rfl (w.heap.size+1+1) 9 i0 (I ⟨#[]⟩) 1 16 Tryz.underlying36 hi hz0 hz1 hz2 rfl ah _ 0 _ rfl HOW.out ad len cap (zs.map Fz) rfl ?c1 HN.out ?c3 ?c4 ?c5 aH ?_))
  case c1=>simpa using hzl
  case c3=>intro u hu;obtain⟨x,_,rfl⟩:=List.mem_map.1 hu;rfl
  case c4=>unfold maxLen;omega
  case c5=>omega
  intro v' w3 hown3 hgrow hv;have hb3:=(Ft (w.heap.size+1+1) _).grown hgrow aH (λk hk=>by simp[FX] at hk;omega);have g0:=(hb3.block w.heap.size af).trans (mo _ _ _ _);have g1:=(hb3.block (w.heap.size+1) af).trans (jR _ _ _ _)
  obtain⟨a',l,p,rfl,hq⟩:∃a' l p,v'=J a' l p/\(aD w3 a' l p zs/\(zs=[]\/∃g cur,a'=F_ ⟨g,0,U⟩/\w.heap.size+1+1<=g/\w3.heap[g]?=F_ (G7 cur 9 (0,0)))/\Below w.heap.size w w3):=by
   have hbw:=(cI w _ _ _).trans (hb3.mono af);have ho:=hown3;obtain⟨hl1,h⟩:=ho;have hl':=hzl
   rcases h with ⟨rfl,h0⟩|⟨g,cp,cur,rfl,hbg,hg,hnc,hcm,hsz,htk⟩
   ·obtain rfl:zs=[]:=F6 af;exact⟨U,0,0,rfl,⟨rfl,Fq _,by omega,λj x hx=>by simp at hx,He rfl⟩,He rfl,hbw⟩
   ·refine⟨F_ ⟨g,0,U⟩,len,cp,rfl,⟨hl',hnc,by unfold maxLen at hcm;omega,HZ.out,Hd ⟨g,0,rfl,aa hg,λj x hx=>?_⟩⟩,Hd ⟨g,cur,rfl,hbg,hg⟩,hbw⟩;rw[FE,ar hg]
    have hj:j<len:=by have:=(Fm.1 hx).1;omega
    have e1:(cur.toList.take (len*1))[j]?=F_ (I x):=by rw[htk];simp[hx]
    rw[FQ,if_pos af] at e1
    simpa using e1
  have HQ:=ae hq;have d0:=ck0 g0;have d1:=ck1 g0;have d2:=ck2 g0;have d3:=ck3 g0;have d4:=ck4 g0;have d5:=ck5 g0;have d6:=ck6 g0;have d7:=ck7 g0;have df7:=al g0 7;have e0:=ck0 g1;have ef0:=al g1 0;have e1:=ck1 g1;have ef1:=al g1 1;have e2:=ck2 g1;have ef2:=al g1 2;have e3:=ck3 g1;have ef3:=al g1 3;have e4:=ck4 g1;have ef4:=al g1 4;have e5:=ck5 g1;have ef5:=al g1 5;have e6:=ck6 g1;have ef6:=al g1 6;have e7:=ck7 g1;have ef7:=al g1 7;have HQ2:=ae (b_.set (b_.set (b_.set (b_.set (b_.set (b_.set (b_.set (b_.set (b_.set HQ.out (b:=w.heap.size) (i:=7) af af (v:=J a' l p)) (b:=w.heap.size+1) (i:=0) af af (v:=(I n))) (b:=w.heap.size+1) (i:=1) af af (v:=(GZ G6 c))) (b:=w.heap.size+1) (i:=2) af af (v:=(I z))) (b:=w.heap.size+1) (i:=3) af af (v:=(I k))) (b:=w.heap.size+1) (i:=4) af af (v:=(G8 x))) (b:=w.heap.size+1) (i:=5) af af (v:=(I m))) (b:=w.heap.size+1) (i:=6) af af (v:=(G8 y))) (b:=w.heap.size+1) (i:=7) af af (v:=(J a' l p)));clear hown3 hgrow hv hb3 g0 g1 hq;go_wp2_with fail;refine bodyPost_ret (v:=Hc #[I n,GZ G6 c,I z,I k,G8 x,I m,G8 y,J a' l p]) (by simp[results,Tryz.results55,go_sem, *]) rfl ⟨a',l,p,rfl,HQ2.1,?_,HQ2.2.2⟩
  rcases HQ2.2.1 with h|⟨g,cur,h1,h2,h3⟩
  ·exact He h
  ·exact Hd ⟨g,cur,h1,by omega,h3⟩
end Ap
namespace Rc
theorem bQ.fr {w:World} {l c:Nat} {zs:List ByteArray} (h:bQ w a l c zs S):∃g,LFr w g S zs (J a l c):=by
 obtain⟨⟨h1,h2,h3,h4,h5⟩,h6⟩:=h;rcases h6 with rfl|⟨g,cur,rfl,hS,hg⟩
 ·exact⟨0,_,_,_,rfl,h1,h2,h3,h4,He rfl⟩
 ·refine⟨g,_,_,_,rfl,h1,h2,h3,h4,h5.imp id ?_⟩;rintro⟨b,o,e,hlt,hc⟩;cases e;exact⟨rfl,hS,cur,hg,λj x hx=>by have:=hc j x hx;rw[ar hg,FE] at this;exact this⟩
theorem LFr.lt {w:World} {zs:List ByteArray} {v:Value} (k:LFr w h S zs v) (hz:zs≠[]):S h/\h<w.heap.size:=by
 obtain⟨a',l',c',h1,h2,h3,h4,h5,h6⟩:=k;rcases h6 with h6|⟨_,q2,cu,q4,_⟩
 ·exact absurd h6 hz
 ·exact⟨q2,aa q4⟩
theorem eA(w:World) (vs:List Value) (T:TypeId):∀(j:Nat) u,vs[j]?=F_ u->(w.alloc (G7 vs.toArray T)).cell? ((⟨w.heap.size,0,U⟩:Addr).add j)=F_ u:=by
 intro j u hu;rw[FC,ar (heap_alloc_new w _),FE];simpa using hu
theorem aX.app {w:World} {m:Nat} {rs:List (List Fv)} {n:Nat} {v:Value} {xs:List Value} (h:aX w S m rs vss H) (hb:Below w.heap.size w W) (ho:W.ownsRow base T m v n xs) (hT:¬T=9) (hg:W.grownBy w' v.ownBlock)
  {r:List Fv} {vs:List Value} {hh:Nat} (hr:r.length=m) (hvs:vs.length=m) (hc:∀(i:Nat) f,r[i]?=F_ f->∃v,vs[i]?=F_ v/\f.Fr W hh S v) (hfr:∀(i:Nat) zs,r[i]?=F_ (.l zs)->zs≠[]->w.heap.size<=hh)
  (h1:∀(i i':Nat) zs zs',r[i]?=F_ (.l zs)->zs≠[]->r[i']?=F_ (.l zs')->zs'≠[]->i=i'):aX w' S m (rs++[r]) (vss++[vs]) (λj=>if j=rs.length then λ_=>hh else H j):=
 ((h.below hb).push hr hvs hc (λi zs a b j r' i' zs' c d e q=>by have q1:=h.lt c d e;have q2:=hfr i zs a b;omega) h1).grown ho hT hg
theorem s9 {x:Nd} {zs:List ByteArray} (h:(ndF x)[i]?=F_ (.l zs)):i=6/\zs=x.zs:=by
 rcases i with _|_|_|_|_|_|_|i
 ·cases h
 ·cases h
 ·cases h
 ·cases h
 ·cases h
 ·cases h
 ·cases h;exact⟨rfl,rfl⟩
 ·simp[ndF] at h
theorem CN {w:World} {x:Nd} {Q:Nat->Prop} {l c:Nat} (hn:x.n.size<=9223372036854775807) (hz:x.z.size<=9223372036854775807) (hl:LFr w g Q x.zs (J a l c)):∀(i:Nat) f,(ndF x)[i]?=F_ f->∃v,[I x.n,I x.z,GZ G6 x.c,GZ G6 x.s,GZ G6 x.u,G8 x.d,J a l c][i]?=F_ v/\f.Fr w g Q v:=by
 intro i f h;rcases i with _|_|_|_|_|_|_|i
 ·cases h;exact⟨_,rfl,rfl,hn⟩
 ·cases h;exact⟨_,rfl,rfl,hz⟩
 ·cases h;exact⟨_,rfl,rfl⟩
 ·cases h;exact⟨_,rfl,rfl⟩
 ·cases h;exact⟨_,rfl,rfl⟩
 ·cases h;exact⟨_,rfl,rfl⟩
 ·cases h;exact⟨_,rfl,hl⟩
 ·simp[ndF] at h
theorem sG {x:Vd} {zs:List ByteArray} (h:(vdF x)[i]?=F_ (.l zs)):i=7/\zs=x.zs:=by
 rcases i with _|_|_|_|_|_|_|_|i
 ·cases h
 ·cases h
 ·cases h
 ·cases h
 ·cases h
 ·cases h
 ·cases h
 ·cases h;exact⟨rfl,rfl⟩
 ·simp[vdF] at h
theorem AX {w:World} {x:Vd} {Q:Nat->Prop} {l c:Nat} (hn:x.n.size<=9223372036854775807) (hz:x.z.size<=9223372036854775807) (hk:x.k.size<=9223372036854775807) (hm:x.m.size<=9223372036854775807) (hl:LFr w g Q x.zs (J a l c)):∀(i:Nat) f,(vdF x)[i]?=F_ f->∃v,[I x.n,GZ G6 x.c,I x.z,I x.k,G8 x.x,I x.m,G8 x.y,J a l c][i]?=F_ v/\f.Fr w g Q v:=by
 intro i f h;rcases i with _|_|_|_|_|_|_|_|i
 ·cases h;exact⟨_,rfl,rfl,hn⟩
 ·cases h;exact⟨_,rfl,rfl⟩
 ·cases h;exact⟨_,rfl,rfl,hz⟩
 ·cases h;exact⟨_,rfl,rfl,hk⟩
 ·cases h;exact⟨_,rfl,rfl⟩
 ·cases h;exact⟨_,rfl,rfl,hm⟩
 ·cases h;exact⟨_,rfl,rfl⟩
 ·cases h;exact⟨_,rfl,hl⟩
 ·simp[vdF] at h
theorem sZ {x:Pd} {zs:List ByteArray} (h:(pdF x)[i]?=F_ (.l zs)):i=3/\zs=x.zs:=by
 rcases i with _|_|_|_|_|_|i
 ·cases h
 ·cases h
 ·cases h
 ·cases h;exact⟨rfl,rfl⟩
 ·cases h
 ·cases h
 ·simp[pdF] at h
theorem CM {w:World} {x:Pd} {Q:Nat->Prop} {l c:Nat} (hn:x.n.size<=9223372036854775807) (hz:x.z.size<=9223372036854775807) (hd:x.d.size<=9223372036854775807) (hl:LFr w g Q x.zs (J a l c)):∀(i:Nat) f,(pdF x)[i]?=F_ f->∃v,[I x.n,GZ G6 x.c,I x.z,J a l c,I x.d,GZ G6 x.p][i]?=F_ v/\f.Fr w g Q v:=by
 intro i f h;rcases i with _|_|_|_|_|_|i
 ·cases h;exact⟨_,rfl,rfl,hn⟩
 ·cases h;exact⟨_,rfl,rfl⟩
 ·cases h;exact⟨_,rfl,rfl,hz⟩
 ·cases h;exact⟨_,rfl,hl⟩
 ·cases h;exact⟨_,rfl,rfl,hd⟩
 ·cases h;exact⟨_,rfl,rfl⟩
 ·simp[pdF] at h
def E6(xs:List Nd) (t:ByteArray) (w:World) (e:Ending) (w':World):Prop:=
 Below w.heap.size w w'/\((∃(j:Nat) (x:Nd),xs[j]?=F_ x/\x.n=t/\e=Ha (GZ G6 j))\/((∀(j:Nat) x,xs[j]?=F_ x->¬x.n=t)/\e=Ha (GZ G6 (-1))))
theorem gV(d:Ad) (now:Int) (xs:List Nd) (t:ByteArray) (w:World) (hr:a_ w d.a1 d.l1 d.c1 7 (xs.map ndF)):
  Calls Tryz.prog 28 #[Hc #[J d.a1 d.l1 d.c1,J d.a2 d.l2 d.c2,J d.a3 d.l3 d.c3,J d.a4 d.l4 d.c4,J d.a5 d.l5 d.c5,GZ G6 now],I t] w (E6 xs t w):=by
 have HR:=ae hr;have hxl:xs.length=d.l1:=eu
 have hlc:=FA hr.2.1 hr.2.2.1;clear hr;go_enter Tryz.func28,Tryz.ntmps28;go_wp2;go_loopw [5] (λi wr=> ∃k:Nat,k<=d.l1/\i=GZ G6 k/\wr=w.alloc (G7 #[J d.a1 d.l1 d.c1,J d.a2 d.l2 d.c2,J d.a3 d.l3 d.c3,J d.a4 d.l4 d.c4,J d.a5 d.l5 d.c5,GZ G6 now] 29)/\Hid (∀(j:Nat) z,j<k->xs[j]?=F_ z->¬z.n=t)) (λi _=>d.l1 - (intOf i).toNat);case atStart=>exact⟨0,by omega,rfl,rfl,λ_ _ h=>absurd h af⟩
 case round=>
  obtain⟨k,hk,rfl,rfl,HE⟩:=hrel;by_cases hlt:k<d.l1
  ·obtain⟨b,o,x,ha,hb,hx,hat⟩:=bO HR.out hlt;obtain⟨va,vl,vc,hvr,-,-,c0,-,-,-,-,-,-⟩:=aU hat;have HX:=ae hx;clear hat hx hvr;exact nV
  ·obtain rfl:k=d.l1:=af
   exact nO
def E7(xs:List Kd) (t:ByteArray) (w:World) (e:Ending) (w':World):Prop:=
 Below w.heap.size w w'/\((∃(j:Nat) (x:Kd),xs[j]?=F_ x/\x.n=t/\e=Ha (GZ G6 j))\/((∀(j:Nat) x,xs[j]?=F_ x->¬x.n=t)/\e=Ha (GZ G6 (-1))))
theorem gW(d:Ad) (now:Int) (xs:List Kd) (t:ByteArray) (w:World) (hr:a_ w d.a2 d.l2 d.c2 4 (xs.map kdF)):
  Calls Tryz.prog 96 #[Hc #[J d.a1 d.l1 d.c1,J d.a2 d.l2 d.c2,J d.a3 d.l3 d.c3,J d.a4 d.l4 d.c4,J d.a5 d.l5 d.c5,GZ G6 now],I t] w (E7 xs t w):=by
 have HR:=ae hr;have hxl:xs.length=d.l2:=eu
 have hlc:=FA hr.2.1 hr.2.2.1;clear hr;go_enter Tryz.func96,Tryz.ntmps96;go_wp2;go_loopw [5] (λi wr=> ∃k:Nat,k<=d.l2/\i=GZ G6 k/\wr=w.alloc (G7 #[J d.a1 d.l1 d.c1,J d.a2 d.l2 d.c2,J d.a3 d.l3 d.c3,J d.a4 d.l4 d.c4,J d.a5 d.l5 d.c5,GZ G6 now] 29)/\Hid (∀(j:Nat) z,j<k->xs[j]?=F_ z->¬z.n=t)) (λi _=>d.l2 - (intOf i).toNat);case atStart=>exact⟨0,by omega,rfl,rfl,λ_ _ h=>absurd h af⟩
 case round=>
  obtain⟨k,hk,rfl,rfl,HE⟩:=hrel;by_cases hlt:k<d.l2
  ·obtain⟨b,o,x,ha,hb,hx,hat⟩:=fD HR.out hlt;obtain⟨-,-,c0,-,-,-⟩:=cU hat;have HX:=ae hx;clear hat hx;exact nV
  ·obtain rfl:k=d.l2:=af
   exact nO
def E4(xs:List Vd) (t:ByteArray) (w:World) (e:Ending) (w':World):Prop:=
 Below w.heap.size w w'/\((∃(j:Nat) (x:Vd),xs[j]?=F_ x/\x.n=t/\e=Ha (GZ G6 j))\/((∀(j:Nat) x,xs[j]?=F_ x->¬x.n=t)/\e=Ha (GZ G6 (-1))))
theorem gU(d:Ad) (now:Int) (xs:List Vd) (t:ByteArray) (w:World) (hr:a_ w d.a3 d.l3 d.c3 8 (xs.map vdF)):
  Calls Tryz.prog 97 #[Hc #[J d.a1 d.l1 d.c1,J d.a2 d.l2 d.c2,J d.a3 d.l3 d.c3,J d.a4 d.l4 d.c4,J d.a5 d.l5 d.c5,GZ G6 now],I t] w (E4 xs t w):=by
 have HR:=ae hr;have hxl:xs.length=d.l3:=eu
 have hlc:=FA hr.2.1 hr.2.2.1;clear hr;go_enter Tryz.func97,Tryz.ntmps97;go_wp2;go_loopw [5] (λi wr=> ∃k:Nat,k<=d.l3/\i=GZ G6 k/\wr=w.alloc (G7 #[J d.a1 d.l1 d.c1,J d.a2 d.l2 d.c2,J d.a3 d.l3 d.c3,J d.a4 d.l4 d.c4,J d.a5 d.l5 d.c5,GZ G6 now] 29)/\Hid (∀(j:Nat) z,j<k->xs[j]?=F_ z->¬z.n=t)) (λi _=>d.l3 - (intOf i).toNat);case atStart=>exact⟨0,by omega,rfl,rfl,λ_ _ h=>absurd h af⟩
 case round=>
  obtain⟨k,hk,rfl,rfl,HE⟩:=hrel;by_cases hlt:k<d.l3
  ·obtain⟨b,o,x,ha,hb,hx,hat⟩:=bM HR.out hlt;obtain⟨va,vl,vc,hvr,-,-,-,-,c0,-,-,-,-,-,-,-⟩:=aP hat;have HX:=ae hx;clear hat hx hvr;exact nV
  ·obtain rfl:k=d.l3:=af
   exact nO
def E3(xs:List Xd) (t:ByteArray) (w:World) (e:Ending) (w':World):Prop:=
 Below w.heap.size w w'/\((∃(j:Nat) (x:Xd),xs[j]?=F_ x/\x.n=t/\e=Ha (GZ G6 j))\/((∀(j:Nat) x,xs[j]?=F_ x->¬x.n=t)/\e=Ha (GZ G6 (-1))))
theorem eV(d:Ad) (now:Int) (xs:List Xd) (t:ByteArray) (w:World) (hr:a_ w d.a4 d.l4 d.c4 5 (xs.map xdF)):
  Calls Tryz.prog 95 #[Hc #[J d.a1 d.l1 d.c1,J d.a2 d.l2 d.c2,J d.a3 d.l3 d.c3,J d.a4 d.l4 d.c4,J d.a5 d.l5 d.c5,GZ G6 now],I t] w (E3 xs t w):=by
 have HR:=ae hr;have hxl:xs.length=d.l4:=eu
 have hlc:=FA hr.2.1 hr.2.2.1;clear hr;go_enter Tryz.func95,Tryz.ntmps95;go_wp2;go_loopw [5] (λi wr=> ∃k:Nat,k<=d.l4/\i=GZ G6 k/\wr=w.alloc (G7 #[J d.a1 d.l1 d.c1,J d.a2 d.l2 d.c2,J d.a3 d.l3 d.c3,J d.a4 d.l4 d.c4,J d.a5 d.l5 d.c5,GZ G6 now] 29)/\Hid (∀(j:Nat) z,j<k->xs[j]?=F_ z->¬z.n=t)) (λi _=>d.l4 - (intOf i).toNat);case atStart=>exact⟨0,by omega,rfl,rfl,λ_ _ h=>absurd h af⟩
 case round=>
  obtain⟨k,hk,rfl,rfl,HE⟩:=hrel;by_cases hlt:k<d.l4
  ·obtain⟨b,o,x,ha,hb,hx,hat⟩:=dM HR.out hlt;obtain⟨-,-,-,c0,-,-,-,-⟩:=bS hat;have HX:=ae hx;clear hat hx;exact nV
  ·obtain rfl:k=d.l4:=af
   exact nO
theorem cC {s:ByteArray} (h:s=⟨#[]⟩):s.toList.isEmpty=Hb:=by rw[h];exact sg
def kQ(c:Cl) (t s:ByteArray):Prop:=∃(i j:Nat) (x:Xd) (v:Vd),c.xs[i]?=F_ x/\x.n=t/\c.vs[j]?=F_ v/\v.n=s/\x.v=s/\v.m=t/\x.z<=v.c/\v.k=x.k/\v.x=x.x
def QV(c:Cl) (v:Vd):Prop:=hit Kd.n c.ks v.k=Hb/\(v.m=⟨#[]⟩\/kQ c v.m v.n)
def QX(c:Cl) (x:Xd):Prop:=hit Kd.n c.ks x.k=Hb/\(x.v=⟨#[]⟩\/kQ c x.n x.v)
def qZ(c:Cl):Prop:=(∀(j:Nat) v,c.vs[j]?=F_ v->QV c v)/\(∀(j:Nat) x,c.xs[j]?=F_ x->QX c x)
def InL(zs:List ByteArray) (t:ByteArray):Prop:=∃j:Nat,zs[j]?=F_ t
def bh(c:Cl) (t:ByteArray) (v:Vd):Prop:=∃(i j:Nat) (x:Xd),c.xs[i]?=F_ x/\x.n=t/\c.vs[j]?=F_ v/\v.n=x.v
def cpuOf(t:ByteArray):List Pd->Int
 | []=>0
 | p ::ps=>(if p.d=t then p.c else 0)+cpuOf t ps
theorem iD(t:ByteArray):∀ps qs:List Pd,cpuOf t (ps++qs)=cpuOf t ps+cpuOf t qs
 | [],qs=>by simp[cpuOf]
 | p ::ps,qs=>by simp[cpuOf,iD t ps];omega
theorem fw {t:ByteArray} {ps:List Pd} {k:Nat} {p:Pd} (h:ps[k]?=F_ p):cpuOf t (ps.take (k+1))=cpuOf t (ps.take k)+(if p.d=t then p.c else 0):=by
 rw[FZ,h,iD];simp[cpuOf]
def sw(c:Cl) (t:ByteArray):Prop:=∀(i j:Nat) p q,c.ps[i]?=F_ p->c.ps[j]?=F_ q->¬p.d=⟨#[]⟩->¬q.d=⟨#[]⟩->InL p.zs t->InL q.zs t->p.d=q.d
theorem bh.inj {c:Cl} {t:ByteArray} {v v':Vd} (hx:aJ Xd.n c.xs) (hv:aJ Vd.n c.vs) (h:bh c t v) (h':bh c t v'):v=v':=by
 obtain⟨i,j,x,e1,e2,e3,e4⟩:=h;obtain⟨i',j',x',f1,f2,f3,f4⟩:=h';obtain⟨_,rfl⟩:=hx.inj e1 f1 (e2.trans f2.symm);exact (hv.inj e3 f3 (e4.trans f4.symm)).2
def CQ(c:Cl) (p:Pd):Prop:=∃(i:Nat) (n:Nd),c.ns[i]?=F_ n/\n.n=p.d/\(p.z=⟨#[]⟩\/p.z=n.z)/\∀(j:Nat) t,p.zs[j]?=F_ t->∃v,bh c t v/\v.z=n.z
def Et(c:Cl) (p:Pd):Prop:=∃(i:Nat) (n:Nd),c.ns[i]?=F_ n/\n.n=p.d/\n.d=G_/\∀(j:Nat) t,p.zs[j]?=F_ t->∃v,bh c t v/\InL n.zs v.n
def tJ(c:Cl) (n:Nd):Prop:=∀(j:Nat) t,n.zs[j]?=F_ t->∃(i:Nat) (v:Vd),c.vs[i]?=F_ v/\v.n=t/\(n.d=Hb\/InL v.zs n.n)
open Classical in
noncomputable def onOf (t:ByteArray):List Vd->Int
 | []=>0
 | v ::vs=>(if InL v.zs t then 1 else 0)+onOf t vs
theorem dO(t:ByteArray):∀vs us:List Vd,onOf t (vs++us)=onOf t vs+onOf t us
 | [],us=>by simp[onOf]
 | v ::vs,us=>by simp[onOf,dO t vs];omega
open Classical in
theorem je {t:ByteArray} {vs:List Vd} {k:Nat} {v:Vd} (h:vs[k]?=F_ v):onOf t (vs.take (k+1))=onOf t (vs.take k)+(if InL v.zs t then 1 else 0):=by
 rw[FZ,h,dO];simp[onOf]
def PQ1(c:Cl) (p:Pd):Prop:=(∀(j:Nat) t,p.zs[j]?=F_ t->hit Xd.n c.xs t=Hb)/\(p.d=⟨#[]⟩\/CQ c p)
def PQ2(c:Cl) (n:Nd):Prop:=cpuOf n.n c.ps<=n.c
def PQ3(c:Cl) (v:Vd):Prop:=v.x=Hb->¬v.m=⟨#[]⟩->sw c v.m
def mA(c:Cl):Prop:=(∀(j:Nat) z,c.ps[j]?=F_ z->PQ1 c z)/\(∀(j:Nat) z,c.ns[j]?=F_ z->PQ2 c z)/\(∀(j:Nat) z,c.vs[j]?=F_ z->PQ3 c z)
def AQ1(c:Cl) (v:Vd):Prop:=∀(j:Nat) t,v.zs[j]?=F_ t->∃(i:Nat) (n:Nd),c.ns[i]?=F_ n/\n.n=t/\n.z=v.z
def AQ2(c:Cl) (n:Nd):Prop:=onOf n.n c.vs<=n.s
def lM(c:Cl):Prop:=(∀(j:Nat) z,c.vs[j]?=F_ z->AQ1 c z)/\(∀(j:Nat) z,c.ns[j]?=F_ z->AQ2 c z)
def MQ2(c:Cl) (p:Pd):Prop:=p.p=2->Et c p
def kE(c:Cl):Prop:=(∀(j:Nat) z,c.ns[j]?=F_ z->tJ c z)/\(∀(j:Nat) z,c.ps[j]?=F_ z->MQ2 c z)
def cJ(c:Cl):Prop:=eF qf Nd.n c.ns 6/\eF qt Kd.n c.ks 8/\eF mS Vd.n c.vs 8/\eF fH Xd.n c.xs 8/\eF ob Pd.n c.ps 8
def ay(c:Cl):Prop:=Inn c.now 0 1000000/\cJ c/\qZ c/\mA c/\lM c/\kE c
theorem cJ.ne {c:Cl} (h:cJ c) (j:Nat) (v:Vd) (hv:c.vs[j]?=F_ v):¬v.n=⟨#[]⟩:=λe=>by
 have h1:=(h.2.2.1.2.1 j v hv).1.1;rw[e] at h1;exact absurd h1 ah
theorem cJ.EG {c:Cl} (h:cJ c) (j:Nat) (p:Pd) (hp:c.ps[j]?=F_ p):0<=p.c/\p.c<=1000000:=(h.2.2.2.2.2.1 j p hp).2.1
theorem bX(a:Option Addr) (len cap:Nat) (zs:List ByteArray) (t:ByteArray) (w:World) (hr:aD w a len cap zs):
  Calls Tryz.prog 102 #[J a len cap,I t] w (av (InL zs t) w):=by
 have HR:=ae hr;have hlc:=FA hr.2.1 hr.2.2.1;have hzl:=hr.1;clear hr;go_enter Tryz.func102,Tryz.ntmps102;go_wp2;go_loop [5] (λi=> ∃k:Nat,k<=len/\i=GZ G6 k/\Hid (∀(j:Nat) x,j<k->zs[j]?=F_ x->¬x=t)) (λi=>len - (intOf i).toNat);case atStart=>exact⟨0,by omega,rfl,λ_ _ h=>absurd h af⟩
 case round=>
  obtain⟨k,hk,rfl,HE⟩:=hrel;by_cases hlt:k<len
  ·obtain⟨b,o,x,rfl,hb,hx,hc,hsz⟩:=HR.at hlt;have HX:=ae hx;clear hx;by_cases hn:x=t
   ·have hq:=aW hn;have HN:=ae hn;clear hn;go_wp2;go_ret;exact av.t ⟨k,by rw[HX.out,HN.out]⟩ (Ft _ _)
   ·have hq:=bH hn;have HN:=ae hn;clear hn;go_wp2;refine⟨⟨k+1,by omega,by go_num,λj z hj hz=>?_⟩,by simp[intOf];omega⟩;exact we
  ·obtain rfl:len=k:=af
   go_wp2;go_ret;exact av.f (λ⟨j,hj⟩=>HE.out j t nB hj rfl) (Ft _ _)
theorem eX(d:Ad) (now:Int) (xs:List Nd) (t:ByteArray) (w:World) (hr:a_ w d.a1 d.l1 d.c1 7 (xs.map ndF)) (hs:aJ Nd.n xs) {j:Nat} {x:Nd} (hx:xs[j]?=F_ x) (hn:x.n=t):
  Calls Tryz.prog 28 #[Hc #[J d.a1 d.l1 d.c1,J d.a2 d.l2 d.c2,J d.a3 d.l3 d.c3,J d.a4 d.l4 d.c4,J d.a5 d.l5 d.c5,GZ G6 now],I t] w λe w'=>e=Ha (GZ G6 j)/\Below w.heap.size w w':=by
 refine (gV d now xs t w hr).mono ?_;exact nR
theorem sJ(d:Ad) (now:Int) (xs:List Nd) (t:ByteArray) (w:World) (hr:a_ w d.a1 d.l1 d.c1 7 (xs.map ndF)) (hn:∀(j:Nat) x,xs[j]?=F_ x->¬x.n=t):
  Calls Tryz.prog 28 #[Hc #[J d.a1 d.l1 d.c1,J d.a2 d.l2 d.c2,J d.a3 d.l3 d.c3,J d.a4 d.l4 d.c4,J d.a5 d.l5 d.c5,GZ G6 now],I t] w λe w'=>e=Ha (GZ G6 (-1))/\Below w.heap.size w w':=by
 refine (gV d now xs t w hr).mono ?_;exact nN
theorem dm(d:Ad) (now:Int) (xs:List Kd) (t:ByteArray) (w:World) (hr:a_ w d.a2 d.l2 d.c2 4 (xs.map kdF)) (hs:aJ Kd.n xs) {j:Nat} {x:Kd} (hx:xs[j]?=F_ x) (hn:x.n=t):
  Calls Tryz.prog 96 #[Hc #[J d.a1 d.l1 d.c1,J d.a2 d.l2 d.c2,J d.a3 d.l3 d.c3,J d.a4 d.l4 d.c4,J d.a5 d.l5 d.c5,GZ G6 now],I t] w λe w'=>e=Ha (GZ G6 j)/\Below w.heap.size w w':=by
 refine (gW d now xs t w hr).mono ?_;exact nR
theorem kR(d:Ad) (now:Int) (xs:List Kd) (t:ByteArray) (w:World) (hr:a_ w d.a2 d.l2 d.c2 4 (xs.map kdF)) (hn:∀(j:Nat) x,xs[j]?=F_ x->¬x.n=t):
  Calls Tryz.prog 96 #[Hc #[J d.a1 d.l1 d.c1,J d.a2 d.l2 d.c2,J d.a3 d.l3 d.c3,J d.a4 d.l4 d.c4,J d.a5 d.l5 d.c5,GZ G6 now],I t] w λe w'=>e=Ha (GZ G6 (-1))/\Below w.heap.size w w':=by
 refine (gW d now xs t w hr).mono ?_;exact nN
theorem dN(d:Ad) (now:Int) (xs:List Vd) (t:ByteArray) (w:World) (hr:a_ w d.a3 d.l3 d.c3 8 (xs.map vdF)) (hs:aJ Vd.n xs) {j:Nat} {x:Vd} (hx:xs[j]?=F_ x) (hn:x.n=t):
  Calls Tryz.prog 97 #[Hc #[J d.a1 d.l1 d.c1,J d.a2 d.l2 d.c2,J d.a3 d.l3 d.c3,J d.a4 d.l4 d.c4,J d.a5 d.l5 d.c5,GZ G6 now],I t] w λe w'=>e=Ha (GZ G6 j)/\Below w.heap.size w w':=by
 refine (gU d now xs t w hr).mono ?_;exact nR
theorem eW(d:Ad) (now:Int) (xs:List Vd) (t:ByteArray) (w:World) (hr:a_ w d.a3 d.l3 d.c3 8 (xs.map vdF)) (hn:∀(j:Nat) x,xs[j]?=F_ x->¬x.n=t):
  Calls Tryz.prog 97 #[Hc #[J d.a1 d.l1 d.c1,J d.a2 d.l2 d.c2,J d.a3 d.l3 d.c3,J d.a4 d.l4 d.c4,J d.a5 d.l5 d.c5,GZ G6 now],I t] w λe w'=>e=Ha (GZ G6 (-1))/\Below w.heap.size w w':=by
 refine (gU d now xs t w hr).mono ?_;exact nN
theorem ei(d:Ad) (now:Int) (xs:List Xd) (t:ByteArray) (w:World) (hr:a_ w d.a4 d.l4 d.c4 5 (xs.map xdF)) (hs:aJ Xd.n xs) {j:Nat} {x:Xd} (hx:xs[j]?=F_ x) (hn:x.n=t):
  Calls Tryz.prog 95 #[Hc #[J d.a1 d.l1 d.c1,J d.a2 d.l2 d.c2,J d.a3 d.l3 d.c3,J d.a4 d.l4 d.c4,J d.a5 d.l5 d.c5,GZ G6 now],I t] w λe w'=>e=Ha (GZ G6 j)/\Below w.heap.size w w':=by
 refine (eV d now xs t w hr).mono ?_;exact nR
theorem eg(d:Ad) (now:Int) (xs:List Xd) (t:ByteArray) (w:World) (hr:a_ w d.a4 d.l4 d.c4 5 (xs.map xdF)) (hn:∀(j:Nat) x,xs[j]?=F_ x->¬x.n=t):
  Calls Tryz.prog 95 #[Hc #[J d.a1 d.l1 d.c1,J d.a2 d.l2 d.c2,J d.a3 d.l3 d.c3,J d.a4 d.l4 d.c4,J d.a5 d.l5 d.c5,GZ G6 now],I t] w λe w'=>e=Ha (GZ G6 (-1))/\Below w.heap.size w w':=by
 refine (eV d now xs t w hr).mono ?_;exact nN
def Ep(c:Cl) (t:ByteArray) (w:World) (e:Ending) (w':World):Prop:=
 Below w.heap.size w w'/\((∃(j:Nat) (v:Vd),c.vs[j]?=F_ v/\bh c t v/\e=Ha (GZ G6 j))\/((∀v,¬bh c t v)/\e=Ha (GZ G6 (-1))))
theorem fa(d:Ad) (c:Cl) (t:ByteArray) (w:World) (hr:aE w d c.raw) (hx:aJ Xd.n c.xs) (hv:aJ Vd.n c.vs) (hne:∀(j:Nat) v,c.vs[j]?=F_ v->¬v.n=⟨#[]⟩):
  Calls Tryz.prog 98 #[Hc #[J d.a1 d.l1 d.c1,J d.a2 d.l2 d.c2,J d.a3 d.l3 d.c3,J d.a4 d.l4 d.c4,J d.a5 d.l5 d.c5,GZ G6 c.now],I t] w (Ep c t w):=by
 obtain⟨a1,l1,y1,a2,l2,y2,a3,l3,y3,a4,l4,y4,a5,l5,y5⟩:=d;dsimp only;have HR:=ae hr;have hl4:c.xs.length=l4:=uv
 clear hr;obtain⟨HX,HV,HNE⟩:=fK;have HB:=ae (Ft w.heap.size w);clear hx hv hne;go_enter Tryz.func98,Tryz.ntmps98;go_wp2_with fail;refine (eV ⟨a1,l1,y1,a2,l2,y2,a3,l3,y3,a4,l4,y4,a5,l5,y5⟩ c.now c.xs t _ (HR.x.below (aq _ _))).mono ?_;rintro e w1 ⟨hb,hf⟩;obtain⟨HA0,hbx⟩:=aT hb;have Bk:=ae HA0;replace HB:=upB HB hbx;clear hb hbx HA0;rcases hf with ⟨j,x,hx,hn,rfl⟩|⟨hh,rfl⟩;rotate_left
 ·have HH:=ae hh;clear hh;obtain⟨k0,k1,k2,k3,k4,k5⟩:=cs6 Bk;go_wp2;go_ret;exact⟨HB.out,Hd ⟨λv ⟨i,j,x,e1,e2,_⟩=>HH.out i x e1 e2,rfl⟩⟩
 have hj:j<l4:=by have h1:=(Fm.1 hx).1;omega
 obtain⟨b,o,y,rfl,hbb,hy,hat⟩:=dM HR.x hj;rw[hx] at hy;obtain rfl:=Fp hy;obtain⟨z0,z2,z4,c0,c1,c2,c3,c4⟩:=bS hat;have HX1:=ae hx;have HN1:=ae hn;have e4:=(aj HB.out hbb).trans c4;have hb1:=Fw hbb HB.size;have hj0:(0:Int)<=j:=af
 clear hx hn hy hat z0 z2 z4 c0 c1 c2 c3;by_cases he:x.v=⟨#[]⟩
 ·have hq:=cC he;have HEm:=ae he;clear he;obtain⟨k0,k1,k2,k3,k4,k5⟩:=cs6 Bk;go_wp2;go_ret;refine⟨HB.out,Hd ⟨λv ⟨i,j2,x2,e1,e2,e3,e5⟩=>?_,rfl⟩⟩;obtain⟨_,rfl⟩:=HX.inj e1 HX1.out (e2.trans HN1.symm);exact HNE.out j2 v e3 (e5.trans HEm.out)
 ·have hq:=bg he;have HEm:=ae he;clear he;obtain⟨k0,k1,k2,k3,k4,k5⟩:=cs6 Bk;go_wp2_with fail;by_cases hf:∃(j2:Nat) (v:Vd),c.vs[j2]?=F_ v/\v.n=x.v
  ·obtain⟨j2,v,h1,h2⟩:=hf;have HF1:=ae h1;have HF2:=ae h2;clear h1 h2;clear k0 k1 k2 k3 k4 k5;have Gk:=Bk;have HW:=HB;have k0:=λq:Wd w1=>q.slot (o:=0) Gk.out rfl;have k1:=λq:Wd w1=>q.slot (o:=1) Gk.out rfl;have k2:=λq:Wd w1=>q.slot (o:=2) Gk.out rfl;have k3:=λq:Wd w1=>q.slot (o:=3) Gk.out rfl;have k4:=λq:Wd w1=>q.slot (o:=4) Gk.out rfl;have k5:=λq:Wd w1=>q.slot (o:=5) Gk.out rfl;have e4w:=λq:Wd w1=>(q.cell hb1).trans e4;have hne0:=Wd.ne w1;have HC0:=ae (λq:Wd w1=>dN ⟨a1,l1,y1,a2,l2,y2,a3,l3,y3,(F_ ⟨b,o,U⟩),l4,y4,a5,l5,y5⟩ c.now c.vs x.v q.w (HR.v.below (HW.trans (q.b.mono HW.size))) HV.out HF1.out HF2.out);go_wp2_with fail;refine ag au au ?_;repeat (go_big_quiet_step (first|(go_at_call 97;exact Calls.wide (HC0.out _))|fail))
   refine wpQuiet_nil ?_;rintro _ ⟨q,rfl⟩;have HB2:=upB HW q.b;have Ck:=upK Gk q.b;clear hne0 HW HB HC0 k0 k1 k2 k3 k4 k5 e4w Gk Bk;have HB:=HB2;clear HB2;have Bk:=Ck;clear Ck;go_wp2_with fail;go_ret;exact⟨HB.out,He ⟨j2,v,HF1.out,⟨_,_,x,HX1.out,HN1.out,HF1.out,HF2.out⟩,rfl⟩⟩
  ·have HF:=ae hf;clear hf;clear k0 k1 k2 k3 k4 k5;have Gk:=Bk;have HW:=HB;obtain⟨k0,k1,k2,k3,k4,k5⟩:=sl6 Gk;have e4w:=λq:Wd w1=>(q.cell hb1).trans e4;have hne0:=Wd.ne w1;have HC0:=ae (λq:Wd w1=>eW ⟨a1,l1,y1,a2,l2,y2,a3,l3,y3,(F_ ⟨b,o,U⟩),l4,y4,a5,l5,y5⟩ c.now c.vs x.v q.w (HR.v.below (HW.trans (q.b.mono HW.size))) (λj2 v h1 h2=>HF.out ⟨j2,v,h1,h2⟩));go_wp2_with fail;refine ag au au ?_;repeat (go_big_quiet_step (first|(go_at_call 97;exact Calls.wide (HC0.out _))|fail))
   refine wpQuiet_nil ?_;rintro _ ⟨q,rfl⟩;have HB2:=upB HW q.b;have Ck:=upK Gk q.b;clear hne0 HW HB HC0 k0 k1 k2 k3 k4 k5 e4w Gk Bk;have HB:=HB2;clear HB2;have Bk:=Ck;clear Ck;go_wp2_with fail;go_ret;refine⟨HB.out,Hd ⟨λv ⟨i,j2,x2,e1,e2,e3,e5⟩=>?_,rfl⟩⟩;obtain⟨_,rfl⟩:=HX.inj e1 HX1.out (e2.trans HN1.symm);exact HF.out ⟨j2,v,e3,e5⟩
theorem e_(d:Ad) (c:Cl) (t:ByteArray) (w:World) (hr:aE w d c.raw) (hx:aJ Xd.n c.xs) (hv:aJ Vd.n c.vs) (hne:∀(j:Nat) v,c.vs[j]?=F_ v->¬v.n=⟨#[]⟩) {j:Nat} {v:Vd} (hj:c.vs[j]?=F_ v) (hb:bh c t v):
  Calls Tryz.prog 98 #[Hc #[J d.a1 d.l1 d.c1,J d.a2 d.l2 d.c2,J d.a3 d.l3 d.c3,J d.a4 d.l4 d.c4,J d.a5 d.l5 d.c5,GZ G6 c.now],I t] w λe w'=>e=Ha (GZ G6 j)/\Below w.heap.size w w':=by
 refine (fa d c t w hr hx hv hne).mono ?_;rintro e w' ⟨hw,h⟩;rcases h with ⟨i,u,h1,h2,rfl⟩|⟨h1,rfl⟩
 ·obtain rfl:=bh.inj hx hv h2 hb;obtain⟨rfl,_⟩:=hv.inj h1 hj rfl;exact⟨rfl,hw⟩
 ·exact absurd hb (h1 v)
theorem fl(d:Ad) (c:Cl) (t:ByteArray) (w:World) (hr:aE w d c.raw) (hx:aJ Xd.n c.xs) (hv:aJ Vd.n c.vs) (hne:∀(j:Nat) v,c.vs[j]?=F_ v->¬v.n=⟨#[]⟩) (hb:∀v,¬bh c t v):
  Calls Tryz.prog 98 #[Hc #[J d.a1 d.l1 d.c1,J d.a2 d.l2 d.c2,J d.a3 d.l3 d.c3,J d.a4 d.l4 d.c4,J d.a5 d.l5 d.c5,GZ G6 c.now],I t] w λe w'=>e=Ha (GZ G6 (-1))/\Below w.heap.size w w':=by
 refine (fa d c t w hr hx hv hne).mono ?_;rintro e w' ⟨hw,h⟩;rcases h with ⟨i,u,h1,h2,rfl⟩|⟨h1,rfl⟩
 ·exact absurd h2 (hb u)
 ·exact⟨rfl,hw⟩
theorem bh.at {c:Cl} {t:ByteArray} {v:Vd} (h:bh c t v):∃j:Nat,c.vs[j]?=F_ v:=by
 obtain⟨_,j,_,_,_,h,_⟩:=h;exact⟨j,h⟩
theorem iL(d:Ad) (now:Int) (ps:List Pd) (t:ByteArray) (w:World) (hr:a_ w d.a5 d.l5 d.c5 6 (ps.map pdF)) (hl:ps.length<=8) (hp:∀(j:Nat) p,ps[j]?=F_ p->0<=p.c/\p.c<=1000000):
  Calls Tryz.prog 100 #[Hc #[J d.a1 d.l1 d.c1,J d.a2 d.l2 d.c2,J d.a3 d.l3 d.c3,J d.a4 d.l4 d.c4,J d.a5 d.l5 d.c5,GZ G6 now],I t] w λe w'=>e=Ha (GZ G6 (cpuOf t ps))/\Below w.heap.size w w':=by
 obtain⟨a1,l1,y1,a2,l2,y2,a3,l3,y3,a4,l4,y4,a5,l5,y5⟩:=d;dsimp only at hr ⊢;have HR:=ae hr;have hxl:ps.length=l5:=eu
 have HP:=ae hp;clear hr hp;go_enter Tryz.func100,Tryz.ntmps100;go_wp2;go_loopw [5,6] (λq i wr=> ∃(k:Nat) (s:Int),k<=l5/\q=GZ G6 s/\i=GZ G6 k/\Hid (s=cpuOf t (ps.take k))/\0<=s/\s<=k*1000000/\wr=w.alloc (G7 #[J a1 l1 y1,J a2 l2 y2,J a3 l3 y3,J a4 l4 y4,J a5 l5 y5,GZ G6 now] 29)) (λ_ i _=>l5 - (intOf i).toNat);case atStart=>exact⟨0,0,by omega,rfl,rfl,rfl,by omega,by omega,rfl⟩
 case round=>
  obtain⟨k,s,hk,rfl,rfl,HS,hs0,hs1,rfl⟩:=hrel;by_cases hlt:k<l5
  ·obtain⟨b,o,p,rfl,hb,hx,hat⟩:=bN HR.out hlt;obtain⟨va,vl,vc,hvr,z0,z2,z4,c0,c1,c2,c3,c4,c5⟩:=aR hat;have HX:=ae hx;have hpc:=HP.out k p hx;clear hat hx z0 z2 z4 hvr;by_cases hn:p.d=t
   ·have hq:=aW hn;have HN:=ae hn;clear hn;go_wp2;refine⟨⟨k+1,s+p.c,by omega,by go_num,by go_num,?_,by omega,by omega,by first|rfl|trivial⟩,by simp[intOf];omega⟩;show _=_;rw[fw HX.out,if_pos HN.out,<-HS.out]
   ·have hq:=bH hn;have HN:=ae hn;clear hn;go_wp2;refine⟨⟨k+1,s,by omega,rfl,by go_num,?_,by omega,by omega,by first|rfl|trivial⟩,by simp[intOf];omega⟩;show _=_;rw[fw HX.out,if_neg HN.out,<-HS.out,Int.add_zero]
  ·obtain rfl:l5=k:=af
   go_wp2;go_ret;exact⟨congrArg (λz=>Ending.returned (GZ G6 z)) (HS.trans (by rw[FT af])),aq _ _⟩
theorem rh(d:Ad) (now:Int) (vs:List Vd) (t:ByteArray) (w:World) (hr:a_ w d.a3 d.l3 d.c3 8 (vs.map vdF)) (hl:vs.length<=8):
  Calls Tryz.prog 101 #[Hc #[J d.a1 d.l1 d.c1,J d.a2 d.l2 d.c2,J d.a3 d.l3 d.c3,J d.a4 d.l4 d.c4,J d.a5 d.l5 d.c5,GZ G6 now],I t] w λe w'=>e=Ha (GZ G6 (onOf t vs))/\Below w.heap.size w w':=by
 obtain⟨a1,l1,y1,a2,l2,y2,a3,l3,y3,a4,l4,y4,a5,l5,y5⟩:=d;dsimp only at hr ⊢;have HR:=ae hr;have hxl:vs.length=l3:=eu
 clear hr;go_enter Tryz.func101,Tryz.ntmps101;go_wp2;go_loopw [5,6] (λq i wr=> ∃(k:Nat) (s:Int),k<=l3/\q=GZ G6 s/\i=GZ G6 k/\Hid (s=onOf t (vs.take k))/\0<=s/\s<=k/\Hid (Below w.heap.size w wr)/\Hid (wr.heap[w.heap.size]?=F_ (G7 (clo6 a1 l1 y1 a2 l2 y2 a3 l3 y3 a4 l4 y4 a5 l5 y5 now) 29 (0,0)))) (λ_ i _=>l3 - (intOf i).toNat);case atStart=>exact⟨0,0,by omega,rfl,rfl,rfl,by omega,by omega,aq _ _,Fs⟩
 case round=>
  obtain⟨k,s,hk,rfl,rfl,HS,hs0,hs1,HB,Bk⟩:=hrel;have kk:=ck2 Bk;by_cases hlt:k<l3
  ·obtain⟨b,o,v,rfl,hb,hx,hat⟩:=bM (HR.below HB.out) hlt;obtain⟨va,vl,vc,hvr,z0,z2,z3,z5,c0,c1,c2,c3,c4,c5,c6,c7⟩:=aP hat;have HX:=ae hx;have HT:=ae hvr;clear hat hx z0 z2 z3 z5 hvr;go_wp2_with fail;refine (bX va vl vc v.zs t _ HT.out).mono ?_;rintro e w1 ⟨r,rfl,hi,hb2⟩;replace Bk:=upK Bk hb2;replace HB:=upB HB hb2;clear hb2;have HI:=ae hi;clear hi hb kk c0 c1 c2 c3 c4 c5 c6 c7;cases r
   ·go_wp2;refine⟨⟨k+1,s,by omega,rfl,by go_num,?_,by omega,by omega,HB.out,Bk.out⟩,by simp[intOf];omega⟩;exact xu
   ·go_wp2;refine⟨⟨k+1,s+1,by omega,by go_num,by go_num,?_,by omega,by omega,HB.out,Bk.out⟩,by simp[intOf];omega⟩;show _=_;rw[je HX.out,if_pos (HI.1 bT),<-HS.out]
  ·obtain rfl:l3=k:=af
   exact pZ
def lL(c:Cl) (p q:Pd):Prop:=p.d=⟨#[]⟩\/q.d=⟨#[]⟩\/p.d=q.d\/∀(j:Nat) t,p.zs[j]?=F_ t->∀v,bh c t v->v.x=Hb->¬InL q.zs t
theorem fW(d:Ad) (c:Cl) (p q:Pd) (pa:Option Addr) (pl pc:Nat) (qa:Option Addr) (ql qc:Nat) (w:World) (hr:aE w d c.raw) (hx:aJ Xd.n c.xs) (hv:aJ Vd.n c.vs) (hne:∀(j:Nat) v,c.vs[j]?=F_ v->¬v.n=⟨#[]⟩) (hp:aD w pa pl pc p.zs) (hq:aD w qa ql qc q.zs):
  Calls Tryz.prog 99 #[Hc #[J d.a1 d.l1 d.c1,J d.a2 d.l2 d.c2,J d.a3 d.l3 d.c3,J d.a4 d.l4 d.c4,J d.a5 d.l5 d.c5,GZ G6 c.now],Hc #[I p.n,GZ G6 p.c,I p.z,J pa pl pc,I p.d,GZ G6 p.p],Hc #[I q.n,GZ G6 q.c,I q.z,J qa ql qc,I q.d,GZ G6 q.p]] w (av (lL c p q) w):=by
 obtain⟨a1,l1,y1,a2,l2,y2,a3,l3,y3,a4,l4,y4,a5,l5,y5⟩:=d;dsimp only;have HR:=ae hr;have hl3:c.vs.length=l3:=j5
 clear hr;obtain⟨HX,HV,HNE⟩:=fK;have HP:=ae hp;have HQ0:=ae hq;have hlc:=FA hp.2.1 hp.2.2.1;have hzl:=hp.1;clear hx hv hne hp hq;by_cases hp0:p.d=⟨#[]⟩
 ·have e1:=cC hp0;have HH:=ae hp0;clear hp0;go_enter Tryz.func99,Tryz.ntmps99;go_wp2;go_ret;exact av.t (He HH.out) (cI _ _ _ _)
 by_cases hq0:q.d=⟨#[]⟩
 ·have e1:=bg hp0;have e2:=cC hq0;have HH:=ae hq0;clear hp0 hq0;go_enter Tryz.func99,Tryz.ntmps99;go_wp2;go_ret;exact av.t (Hd (He HH.out)) (cI _ _ _ _)
 by_cases hpq:p.d=q.d
 ·have e1:=bg hp0;have e2:=bg hq0;have e3:=aW hpq;have HH:=ae hpq;clear hp0 hq0 hpq;go_enter Tryz.func99,Tryz.ntmps99;go_wp2;go_ret;exact av.t (Hd (Hd (He HH.out))) (cI _ _ _ _)
 have e1:=bg hp0;have e2:=bg hq0;have e3:=bH hpq;have HP0:=ae hp0;have HQ1:=ae hq0;have HPQ:=ae hpq;clear hp0 hq0 hpq;go_enter Tryz.func99,Tryz.ntmps99;go_wp2;clear e1 e2 e3;go_loopw [7] (λi wr=> ∃k:Nat,k<=pl/\i=GZ G6 k/\Hid (∀(j:Nat) t,j<k->p.zs[j]?=F_ t->∀v,bh c t v->v.x=Hb->¬InL q.zs t)/\Hid (Below w.heap.size w wr)/\Hid (wr.heap[w.heap.size]?=F_ (G7 (clo6 a1 l1 y1 a2 l2 y2 a3 l3 y3 a4 l4 y4 a5 l5 y5 c.now) 29 (0,0)))/\Hid (wr.heap[w.heap.size+1]?=F_ (G7 (pov p pa pl pc) 40 (0,0)))/\Hid (wr.heap[w.heap.size+1+1]?=F_ (G7 (pov q qa ql qc) 40 (0,0)))) (λi _=>pl - (intOf i).toNat);case atStart=>exact⟨0,by omega,rfl,λ_ _ h=>absurd h af,cI _ _ _ _,mo _ _ _ _,jR _ _ _ _,jQ _ _ _ _⟩
 case round=>
  obtain⟨k,hk,rfl,HQ,HB,Bk,Bx,By⟩:=hrel;have px3:=ck3 Bx;by_cases hlt:k<pl
  ·obtain⟨b,o,t,rfl,hb,hxt,hc,hsz⟩:=HP.at hlt;have HXt:=ae hxt;have hcw:=(aj HB.out hb).trans hc;have hbw:=Fw hb HB.size;clear hxt hsz;have hcase:(∃v,bh c t v)\/(∀v,¬bh c t v):=by
    exact yE
   rcases hcase with ⟨v,hbd⟩|hbd
   ·obtain⟨j3,hj3⟩:=hbd.at;have hl3':j3<l3:=by have h1:=(Fm.1 hj3).1;omega
    obtain⟨b3,o3,v',rfl,hb3,hv',hat⟩:=bM HR.v hl3';rw[hj3] at hv';obtain rfl:=Fp hv';obtain⟨va,vl,vc,hvr,z0,z2,z3,z5,c0,c1,c2,c3,c4,c5,c6,c7⟩:=aP hat;have HJ:=ae hj3;have HD:=ae hbd;have hcv:=(aj HB.out hb3).trans c4;have hbv:=Fw hb3 HB.size;have hj0:(0:Int)<=j3:=af
    clear hv' hat hvr z0 z2 z3 z5 c0 c1 c2 c3 c4 c5 c6 c7 hj3 hbd;have Gk:=Bk;have Gx:=Bx;have Gy:=By;have HW:=HB;obtain⟨k0,k1,k2,k3,k4,k5⟩:=sl6 Gk;have x3:=λq:Wd wr=>q.slot (o:=3) Gx.out rfl;have tw:=λq:Wd wr=>(q.cell hbw).trans hcw;have hne0:=Wd.ne wr;have HC0:=ae (λq:Wd wr=>e_ ⟨a1,l1,y1,a2,l2,y2,(F_ ⟨b3,o3,U⟩),l3,y3,a4,l4,y4,a5,l5,y5⟩ c t q.w (HR.below (HW.trans (q.b.mono HW.size))) HX.out HV.out HNE.out HJ.out HD.out);go_wp2_with fail;refine ag au au ?_;repeat (go_big_quiet_step (first|(go_at_call 98;exact Calls.wide (HC0.out _))|fail))
    refine wpQuiet_nil ?_;rintro _ ⟨q1,rfl⟩;obtain⟨HB1,Ck⟩:=eK;have Cx:=upK Gx q1.b;have Cy:=upK Gy q1.b;clear hne0 HW HB HC0 k0 k1 k2 k3 k4 k5 x3 tw Gk Gx Gy Bk Bx By px3;have HB:=HB1;clear HB1;have Bk:=Ck;clear Ck;have Bx:=Cx;clear Cx;have By:=Cy;clear Cy;have hcw1:=(q1.cell hbw).trans hcw;have hbw1:=Fw hbw q1.b.size;have hcv1:=(q1.cell hbv).trans hcv;have hbv1:=Fw hbv q1.b.size;clear hcw hbw hcv hbv;rcases Bool.eq_false_or_eq_true v.x with hs|hs;rotate_left
    ·have HSi:=ae hs;rw[hs] at hcv1;clear hs;obtain⟨Gk,Gx,Gy,HW,k2,x3,y3,tw,vw,hne0⟩:=uI;go_wp2_with fail;refine ag au au ?_;repeat (go_big_quiet_step (first|fail))
     refine wpQuiet_nil ?_;rintro _ ⟨q2,rfl⟩;obtain⟨HB2,Ck⟩:=dU;have Cx:=upK Gx q2.b;have Cy:=upK Gy q2.b;clear hne0 HW HB k2 x3 y3 tw vw Gk Gx Gy Bk Bx By;have HB:=HB2;clear HB2;have Bk:=Ck;clear Ck;have Bx:=Cx;clear Cx;have By:=Cy;clear Cy;go_wp2_with fail;refine⟨⟨k+1,by omega,by go_num,λj s hj hs=>?_,HB.out,Bk.out,Bx.out,By.out⟩,by simp[intOf];omega⟩;by_cases e:j=k
     ·subst e;rw[HXt.out] at hs;obtain rfl:=Fp hs;intro v2 h1 h2;obtain rfl:=bh.inj HX.out HV.out HD.out h1;rw[HSi.out] at h2;cases h2
     ·exact HQ.out j s af hs
    have HSi:=ae hs;rw[hs] at hcv1;clear hs;by_cases hin:InL q.zs t
    ·have HIn:=ae hin;clear hin;obtain⟨Gk,Gx,Gy,HW,k2,x3,y3,tw,vw,hne0⟩:=uI;have HC0:=ae (λqq:Wd q1.w=>(bX qa ql qc q.zs t qq.w (HQ0.below (HW.trans (qq.b.mono HW.size)))).mono (λ_ _ h=>av.yes h HIn.out));go_wp2_with fail;refine ag au au ?_;repeat (go_big_quiet_step (first|(go_at_call 102;exact Calls.wide (HC0.out _))|fail))
     refine wpQuiet_nil ?_;rintro _ ⟨q2,rfl⟩;obtain⟨HB2,Ck⟩:=dU;have Cx:=upK Gx q2.b;have Cy:=upK Gy q2.b;clear hne0 HW HB HC0 k2 x3 y3 tw vw Gk Gx Gy Bk Bx By;have HB:=HB2;clear HB2;have Bk:=Ck;clear Ck;have Bx:=Cx;clear Cx;have By:=Cy;clear Cy;go_wp2;go_ret;refine av.f (λh=>?_) HB.out;rcases h with h|h|h|h
     ·exact HP0.out h
     ·exact HQ1.out h
     ·exact HPQ.out h
     ·exact h k t HXt.out v HD.out HSi.out HIn.out
    ·have HIn:=ae hin;clear hin;obtain⟨Gk,Gx,Gy,HW,k2,x3,y3,tw,vw,hne0⟩:=uI;have HC0:=ae (λqq:Wd q1.w=>(bX qa ql qc q.zs t qq.w (HQ0.below (HW.trans (qq.b.mono HW.size)))).mono (λ_ _ h=>av.no h HIn.out));go_wp2_with fail;refine ag au au ?_;repeat (go_big_quiet_step (first|(go_at_call 102;exact Calls.wide (HC0.out _))|fail))
     refine wpQuiet_nil ?_;rintro _ ⟨q2,rfl⟩;obtain⟨HB2,Ck⟩:=dU;have Cx:=upK Gx q2.b;have Cy:=upK Gy q2.b;clear hne0 HW HB HC0 k2 x3 y3 tw vw Gk Gx Gy Bk Bx By;have HB:=HB2;clear HB2;have Bk:=Ck;clear Ck;have Bx:=Cx;clear Cx;have By:=Cy;clear Cy;go_wp2_with fail;refine⟨⟨k+1,by omega,by go_num,λj s hj hs=>?_,HB.out,Bk.out,Bx.out,By.out⟩,by simp[intOf];omega⟩;by_cases e:j=k
     ·subst e;rw[HXt.out] at hs;obtain rfl:=Fp hs;intro v2 h1 h2;exact HIn.out
     ·exact HQ.out j s af hs
   ·have HD:=ae hbd;clear hbd;have Gk:=Bk;have Gx:=Bx;have Gy:=By;have HW:=HB;obtain⟨k0,k1,k2,k3,k4,k5⟩:=sl6 Gk;have x3:=λq:Wd wr=>q.slot (o:=3) Gx.out rfl;have tw:=λq:Wd wr=>(q.cell hbw).trans hcw;have hne0:=Wd.ne wr;have HC0:=ae (λq:Wd wr=>fl ⟨a1,l1,y1,a2,l2,y2,a3,l3,y3,a4,l4,y4,a5,l5,y5⟩ c t q.w (HR.below (HW.trans (q.b.mono HW.size))) HX.out HV.out HNE.out HD.out);go_wp2_with fail;refine ag au au ?_;repeat (go_big_quiet_step (first|(go_at_call 98;exact Calls.wide (HC0.out _))|fail))
    refine wpQuiet_nil ?_;rintro _ ⟨q1,rfl⟩;obtain⟨HB1,Ck⟩:=eK;have Cx:=upK Gx q1.b;have Cy:=upK Gy q1.b;clear hne0 HW HB HC0 k0 k1 k2 k3 k4 k5 x3 tw Gk Gx Gy Bk Bx By px3;have HB:=HB1;clear HB1;have Bk:=Ck;clear Ck;have Bx:=Cx;clear Cx;have By:=Cy;clear Cy;have Gk:=Bk;have Gx:=Bx;have Gy:=By;have HW:=HB;have k2:=λq:Wd q1.w=>q.slot (o:=2) Gk.out rfl;have x3:=λq:Wd q1.w=>q.slot (o:=3) Gx.out rfl;have y3:=λq:Wd q1.w=>q.slot (o:=3) Gy.out rfl;have hne0:=Wd.ne q1.w;go_wp2_with fail;refine ag au au ?_;repeat (go_big_quiet_step (first|fail))
    refine wpQuiet_nil ?_;rintro _ ⟨q2,rfl⟩;obtain⟨HB2,Ck⟩:=dU;have Cx:=upK Gx q2.b;have Cy:=upK Gy q2.b;clear hne0 HW HB k2 x3 y3 Gk Gx Gy Bk Bx By;have HB:=HB2;clear HB2;have Bk:=Ck;clear Ck;have Bx:=Cx;clear Cx;have By:=Cy;clear Cy;go_wp2_with fail;refine⟨⟨k+1,by omega,by go_num,λj s hj hs=>?_,HB.out,Bk.out,Bx.out,By.out⟩,by simp[intOf];omega⟩;by_cases e:j=k
    ·subst e;rw[HXt.out] at hs;obtain rfl:=Fp hs;intro v2 h1;exact absurd h1 (HD.out v2)
    ·exact HQ.out j s af hs
  ·obtain rfl:pl=k:=af
   go_wp2;go_ret;exact av.t (Hd (Hd (Hd (λj t ht=>HQ.out j t rH ht)))) HB.out
theorem sR(d:Ad) (c:Cl) (w:World) (hr:aE w d c.raw):
  Calls Tryz.prog 50 #[Hc #[J d.a1 d.l1 d.c1,J d.a2 d.l2 d.c2,J d.a3 d.l3 d.c3,J d.a4 d.l4 d.c4,J d.a5 d.l5 d.c5,GZ G6 c.now]] w (av (cJ c) w):=by
 obtain⟨a1,l1,y1,a2,l2,y2,a3,l3,y3,a4,l4,y4,a5,l5,y5⟩:=d;dsimp only;obtain⟨HR,hl1,hm1,hl2,hm2,hl3,hm3,hl4,hm4,hl5,hm5⟩:=ew;clear hr;by_cases hL1:(6:Int)<l1
 ·go_enter Tryz.func50,Tryz.ntmps50;go_wp2;go_ret;exact av.f (λh=>by have:=h.1.1;omega) (aq _ _)
 by_cases hL2:(8:Int)<l2
 ·go_enter Tryz.func50,Tryz.ntmps50;go_wp2;go_ret;exact av.f (λh=>by have:=h.2.1.1;omega) (aq _ _)
 by_cases hL3:(8:Int)<l3
 ·go_enter Tryz.func50,Tryz.ntmps50;go_wp2;go_ret;exact av.f (λh=>by have:=h.2.2.1.1;omega) (aq _ _)
 by_cases hL4:(8:Int)<l4
 ·go_enter Tryz.func50,Tryz.ntmps50;go_wp2;go_ret;exact av.f (λh=>by have:=h.2.2.2.1.1;omega) (aq _ _)
 by_cases hL5:(8:Int)<l5
 ·go_enter Tryz.func50,Tryz.ntmps50;go_wp2;go_ret;exact av.f (λh=>by have:=h.2.2.2.2.1;omega) (aq _ _)
 go_enter Tryz.func50,Tryz.ntmps50;go_wp2;go_loopw [3] (λi wr=> ∃k:Nat,k<=l1/\i=GZ G6 k/\Hid (∀(j:Nat) z,j<k->c.ns[j]?=F_ z->qf z)/\Hid (∀(j:Nat) z u,j+1<k->c.ns[j+1]?=F_ z->c.ns[j]?=F_ u->Fx u.n.toList z.n.toList=Hb)/\Hid (Below w.heap.size w wr)/\Hid (wr.heap[w.heap.size]?=F_ (G7 (clo6 a1 l1 y1 a2 l2 y2 a3 l3 y3 a4 l4 y4 a5 l5 y5 c.now) 29 (0,0)))) (λi _=>l1 - (intOf i).toNat);case atStart=>exact⟨0,by omega,rfl,λ_ _ h=>absurd h af,λ_ _ _ h=>absurd h af,aq _ _,Fs⟩
 case round=>
  obtain⟨k,hk,rfl,HQ,HO,HB,Bk⟩:=hrel;have pk:=ck0 Bk;by_cases hlt:k<l1
  ·obtain⟨b,o,x,rfl,hb,hx,hat⟩:=bO (HR.n.below HB.out) hlt;obtain⟨va,vl,vc,hvr,z0,z1,c0,c1,c2,c3,c4,c5,c6⟩:=aU hat;have HXx:=ae hx;have HTx:=ae hvr;have HZx0:=ae z0;have HZx1:=ae z1;clear hat hx z0 z1 hvr;by_cases hok:qf x;rotate_left
   ·have HOK:=ae hok;clear hok;have Gk:=Bk;have HW:=HB;have k0:=λq:Wd wr=>q.slot (o:=0) Gk.out rfl;obtain⟨x0,x1,x2,x3,x4⟩:=gu;obtain⟨x5,x6⟩:=ju;have hne0:=Wd.ne wr;have HC0:=ae (λq:Wd wr=>(fX x.n x.z x.c x.s x.u x.d va vl vc x.zs q.w HZx0.out HZx1.out (HTx.below q.b)).mono (λ_ _ h=>av.no h HOK.out));go_wp2_with fail;refine ag au au ?_;repeat (go_big_quiet_step (first|(go_at_call 90;exact Calls.wide (HC0.out _))|fail))
    refine wpQuiet_nil ?_;rintro _ ⟨q,rfl⟩;obtain⟨HB1,Ck⟩:=di;clear hne0 HW HB HC0 k0 x0 x1 x2 x3 x4 x5 x6 Gk Bk c0 c1 c2 c3 c4 c5 c6 pk;have HB:=HB1;clear HB1;have Bk:=Ck;clear Ck;go_wp2;go_ret;exact av.f (λh=>HOK.out (h.1.2.1 k x HXx.out)) HB.out
   have HOK:=ae hok;clear hok;by_cases hk0:0<k;rotate_left
   ·obtain⟨hd,Gk⟩:=j_;have HW:=HB;have k0:=λq:Wd wr=>q.slot (o:=0) Gk.out rfl;obtain⟨x0,x1,x2,x3,x4⟩:=gu;obtain⟨x5,x6⟩:=ju;have hne0:=Wd.ne wr;have HC0:=ae (λq:Wd wr=>(fX x.n x.z x.c x.s x.u x.d va vl vc x.zs q.w HZx0.out HZx1.out (HTx.below q.b)).mono (λ_ _ h=>av.yes h HOK.out));go_wp2_with fail;refine ag au au ?_;repeat (go_big_quiet_step (first|(go_at_call 90;exact Calls.wide (HC0.out _))|fail))
    refine wpQuiet_nil ?_;rintro _ ⟨q,rfl⟩;obtain⟨HB1,Ck⟩:=di;clear hne0 HW HB HC0 k0 x0 x1 x2 x3 x4 x5 x6 Gk Bk c0 c1 c2 c3 c4 c5 c6 pk;exact nW
   have ek:((k:Int) - 1).toNat=k - 1:=af
   obtain⟨b',o',y,e',hb',hy,haty⟩:=bO (HR.n.below HB.out) (show k - 1<l1 by omega);cases e';have y0:wr.cell? ⟨b,o+(k - 1)*7,U⟩=F_ (I y.n):=by
    exact kd
   have HXy:=ae hy;clear hy haty;cases hless:Fx y.n.toList x.n.toList
   ·obtain⟨Gk,HW,k0⟩:=uR;obtain⟨x0,x1,x2,x3,x4⟩:=gu;obtain⟨x5,x6⟩:=ju;obtain⟨yw,hne0⟩:=gE;have HC0:=ae (λq:Wd wr=>(fX x.n x.z x.c x.s x.u x.d va vl vc x.zs q.w HZx0.out HZx1.out (HTx.below q.b)).mono (λ_ _ h=>av.yes h HOK.out));go_wp2_with fail;refine ag au au ?_;repeat (go_big_quiet_step (first|(go_at_call 90;exact Calls.wide (HC0.out _))|fail))
    refine wpQuiet_nil ?_;rintro _ ⟨q,rfl⟩;obtain⟨HB1,Ck⟩:=di;clear hne0 HW HB HC0 k0 x0 x1 x2 x3 x4 x5 x6 yw Gk Bk c0 c1 c2 c3 c4 c5 c6 pk y0;have HB:=HB1;clear HB1;have Bk:=Ck;clear Ck;go_wp2;go_ret;refine av.f (λh=>?_) HB.out;have h3:=h.1.2.2 (k - 1) x y nA HXy.out;rw[hless] at h3;cases h3
   ·obtain⟨Gk,HW,k0⟩:=uR;obtain⟨x0,x1,x2,x3,x4⟩:=gu;obtain⟨x5,x6⟩:=ju;obtain⟨yw,hne0⟩:=gE;have HC0:=ae (λq:Wd wr=>(fX x.n x.z x.c x.s x.u x.d va vl vc x.zs q.w HZx0.out HZx1.out (HTx.below q.b)).mono (λ_ _ h=>av.yes h HOK.out));go_wp2_with fail;refine ag au au ?_;repeat (go_big_quiet_step (first|(go_at_call 90;exact Calls.wide (HC0.out _))|fail))
    refine wpQuiet_nil ?_;rintro _ ⟨q,rfl⟩;obtain⟨HB1,Ck⟩:=di;clear hne0 HW HB HC0 k0 x0 x1 x2 x3 x4 x5 x6 yw Gk Bk c0 c1 c2 c3 c4 c5 c6 pk y0;exact nX
  ·obtain rfl:l1=k:=af
   have HR1:Hid (eF qf Nd.n c.ns 6):=⟨by omega,λj z hz=>HQ.out j z da hz,λj z u hz hu=>HO.out j z u da hz hu⟩;clear HQ HO;skip;have kc:=ck1 Bk;go_wp2;go_loopw [4] (λi wr=> ∃k:Nat,k<=l2/\i=GZ G6 k/\Hid (∀(j:Nat) z,j<k->c.ks[j]?=F_ z->qt z)/\Hid (∀(j:Nat) z u,j+1<k->c.ks[j+1]?=F_ z->c.ks[j]?=F_ u->Fx u.n.toList z.n.toList=Hb)/\Hid (Below w.heap.size w wr)/\Hid (wr.heap[w.heap.size]?=F_ (G7 (clo6 a1 l1 y1 a2 l2 y2 a3 l3 y3 a4 l4 y4 a5 l5 y5 c.now) 29 (0,0)))) (λi _=>l2 - (intOf i).toNat);case atStart=>exact⟨0,by omega,rfl,λ_ _ h=>absurd h af,λ_ _ _ h=>absurd h af,HB.out,Bk.out⟩
   case round=>
    obtain⟨k,hk,rfl,HQ,HO,HB,Bk⟩:=hrel;have pk:=ck1 Bk;by_cases hlt:k<l2
    ·obtain⟨b,o,x,rfl,hb,hx,hat⟩:=fD (HR.k.below HB.out) hlt;obtain⟨z0,z3,c0,c1,c2,c3⟩:=cU hat;have HXx:=ae hx;have HZx0:=ae z0;have HZx3:=ae z3;clear hat hx z0 z3;by_cases hok:qt x;rotate_left
     ·have HOK:=ae hok;clear hok;have Gk:=Bk;obtain⟨HW,k1,x0,x1,x2,x3⟩:=rQ;have hne0:=Wd.ne wr;have HC0:=ae (λq:Wd wr=>(fk x.n x.z x.x x.y q.w HZx0.out HZx3.out).mono (λ_ _ h=>av.no h HOK.out));go_wp2_with fail;refine ag au au ?_;repeat (go_big_quiet_step (first|(go_at_call 91;exact Calls.wide (HC0.out _))|fail))
      refine wpQuiet_nil ?_;rintro _ ⟨q,rfl⟩;obtain⟨HB1,Ck⟩:=di;clear hne0 HW HB HC0 k1 x0 x1 x2 x3 Gk Bk c0 c1 c2 c3 pk;have HB:=HB1;clear HB1;have Bk:=Ck;clear Ck;go_wp2;go_ret;exact av.f (λh=>HOK.out (h.2.1.2.1 k x HXx.out)) HB.out
     have HOK:=ae hok;clear hok;by_cases hk0:0<k;rotate_left
     ·obtain⟨hd,Gk⟩:=j_;obtain⟨HW,k1,x0,x1,x2,x3⟩:=rQ;have hne0:=Wd.ne wr;have HC0:=ae (λq:Wd wr=>(fk x.n x.z x.x x.y q.w HZx0.out HZx3.out).mono (λ_ _ h=>av.yes h HOK.out));go_wp2_with fail;refine ag au au ?_;repeat (go_big_quiet_step (first|(go_at_call 91;exact Calls.wide (HC0.out _))|fail))
      refine wpQuiet_nil ?_;rintro _ ⟨q,rfl⟩;obtain⟨HB1,Ck⟩:=di;clear hne0 HW HB HC0 k1 x0 x1 x2 x3 Gk Bk c0 c1 c2 c3 pk;exact nW
     have ek:((k:Int) - 1).toNat=k - 1:=af
     obtain⟨b',o',y,e',hb',hy,haty⟩:=fD (HR.k.below HB.out) (show k - 1<l2 by omega);cases e';have y0:wr.cell? ⟨b,o+(k - 1)*4,U⟩=F_ (I y.n):=by
      exact kd
     have HXy:=ae hy;clear hy haty;cases hless:Fx y.n.toList x.n.toList
     ·have Gk:Hid (wr.heap[w.heap.size]?=F_ (G7 (clo6 a1 l1 y1 (F_ ⟨b,o,U⟩) l2 y2 a3 l3 y3 a4 l4 y4 a5 l5 y5 c.now) 29 (0,0))):=Bk.out;obtain⟨HW,k1,x0,x1,x2,x3⟩:=rQ;obtain⟨yw,hne0⟩:=gE;have HC0:=ae (λq:Wd wr=>(fk x.n x.z x.x x.y q.w HZx0.out HZx3.out).mono (λ_ _ h=>av.yes h HOK.out));go_wp2_with fail;refine ag au au ?_;repeat (go_big_quiet_step (first|(go_at_call 91;exact Calls.wide (HC0.out _))|fail))
      refine wpQuiet_nil ?_;rintro _ ⟨q,rfl⟩;obtain⟨HB1,Ck⟩:=di;clear hne0 HW HB HC0 k1 x0 x1 x2 x3 yw Gk Bk c0 c1 c2 c3 pk y0;have HB:=HB1;clear HB1;have Bk:=Ck;clear Ck;go_wp2;go_ret;refine av.f (λh=>?_) HB.out;have h3:=h.2.1.2.2 (k - 1) x y nA HXy.out;rw[hless] at h3;cases h3
     ·have Gk:Hid (wr.heap[w.heap.size]?=F_ (G7 (clo6 a1 l1 y1 (F_ ⟨b,o,U⟩) l2 y2 a3 l3 y3 a4 l4 y4 a5 l5 y5 c.now) 29 (0,0))):=Bk.out;obtain⟨HW,k1,x0,x1,x2,x3⟩:=rQ;obtain⟨yw,hne0⟩:=gE;have HC0:=ae (λq:Wd wr=>(fk x.n x.z x.x x.y q.w HZx0.out HZx3.out).mono (λ_ _ h=>av.yes h HOK.out));go_wp2_with fail;refine ag au au ?_;repeat (go_big_quiet_step (first|(go_at_call 91;exact Calls.wide (HC0.out _))|fail))
      refine wpQuiet_nil ?_;rintro _ ⟨q,rfl⟩;obtain⟨HB1,Ck⟩:=di;clear hne0 HW HB HC0 k1 x0 x1 x2 x3 yw Gk Bk c0 c1 c2 c3 pk y0;exact nX
    ·obtain rfl:l2=k:=af
     have HR2:Hid (eF qt Kd.n c.ks 8):=⟨by omega,λj z hz=>HQ.out j z da hz,λj z u hz hu=>HO.out j z u da hz hu⟩;clear HQ HO;skip;have kc:=ck2 Bk;go_wp2;go_loopw [5] (λi wr=> ∃k:Nat,k<=l3/\i=GZ G6 k/\Hid (∀(j:Nat) z,j<k->c.vs[j]?=F_ z->mS z)/\Hid (∀(j:Nat) z u,j+1<k->c.vs[j+1]?=F_ z->c.vs[j]?=F_ u->Fx u.n.toList z.n.toList=Hb)/\Hid (Below w.heap.size w wr)/\Hid (wr.heap[w.heap.size]?=F_ (G7 (clo6 a1 l1 y1 a2 l2 y2 a3 l3 y3 a4 l4 y4 a5 l5 y5 c.now) 29 (0,0)))) (λi _=>l3 - (intOf i).toNat);case atStart=>exact⟨0,by omega,rfl,λ_ _ h=>absurd h af,λ_ _ _ h=>absurd h af,HB.out,Bk.out⟩
     case round=>
      obtain⟨k,hk,rfl,HQ,HO,HB,Bk⟩:=hrel;have pk:=ck2 Bk;by_cases hlt:k<l3
      ·obtain⟨b,o,x,rfl,hb,hx,hat⟩:=bM (HR.v.below HB.out) hlt;obtain⟨va,vl,vc,hvr,z0,z2,z3,z5,c0,c1,c2,c3,c4,c5,c6,c7⟩:=aP hat;have HXx:=ae hx;have HTx:=ae hvr;have HZx0:=ae z0;have HZx2:=ae z2;have HZx3:=ae z3;have HZx5:=ae z5;clear hat hx z0 z2 z3 z5 hvr;by_cases hok:mS x;rotate_left
       ·have HOK:=ae hok;clear hok;have Gk:=Bk;have HW:=HB;have k2:=λq:Wd wr=>q.slot (o:=2) Gk.out rfl;obtain⟨x0,x1,x2,x3,x4⟩:=gu;obtain⟨x5,x6⟩:=ju;have x7:=λq:Wd wr=>(q.cell hb).trans c7;have hne0:=Wd.ne wr;have HC0:=ae (λq:Wd wr=>(eY x.n x.c x.z x.k x.x x.m x.y va vl vc x.zs q.w HZx0.out HZx2.out HZx3.out HZx5.out (HTx.below q.b)).mono (λ_ _ h=>av.no h HOK.out));go_wp2_with fail;refine ag au au ?_;repeat (go_big_quiet_step (first|(go_at_call 92;exact Calls.wide (HC0.out _))|fail))
        refine wpQuiet_nil ?_;rintro _ ⟨q,rfl⟩;obtain⟨HB1,Ck⟩:=di;clear hne0 HW HB HC0 k2 x0 x1 x2 x3 x4 x5 x6 x7 Gk Bk c0 c1 c2 c3 c4 c5 c6 c7 pk;have HB:=HB1;clear HB1;have Bk:=Ck;clear Ck;go_wp2;go_ret;exact av.f (λh=>HOK.out (h.2.2.1.2.1 k x HXx.out)) HB.out
       have HOK:=ae hok;clear hok;by_cases hk0:0<k;rotate_left
       ·obtain⟨hd,Gk⟩:=j_;have HW:=HB;have k2:=λq:Wd wr=>q.slot (o:=2) Gk.out rfl;obtain⟨x0,x1,x2,x3,x4⟩:=gu;obtain⟨x5,x6⟩:=ju;have x7:=λq:Wd wr=>(q.cell hb).trans c7;have hne0:=Wd.ne wr;have HC0:=ae (λq:Wd wr=>(eY x.n x.c x.z x.k x.x x.m x.y va vl vc x.zs q.w HZx0.out HZx2.out HZx3.out HZx5.out (HTx.below q.b)).mono (λ_ _ h=>av.yes h HOK.out));go_wp2_with fail;refine ag au au ?_;repeat (go_big_quiet_step (first|(go_at_call 92;exact Calls.wide (HC0.out _))|fail))
        refine wpQuiet_nil ?_;rintro _ ⟨q,rfl⟩;obtain⟨HB1,Ck⟩:=di;clear hne0 HW HB HC0 k2 x0 x1 x2 x3 x4 x5 x6 x7 Gk Bk c0 c1 c2 c3 c4 c5 c6 c7 pk;exact nW
       have ek:((k:Int) - 1).toNat=k - 1:=af
       obtain⟨b',o',y,e',hb',hy,haty⟩:=bM (HR.v.below HB.out) (show k - 1<l3 by omega);cases e';have y0:wr.cell? ⟨b,o+(k - 1)*8,U⟩=F_ (I y.n):=by
        exact kd
       have HXy:=ae hy;clear hy haty;cases hless:Fx y.n.toList x.n.toList
       ·obtain⟨Gk,HW,k2⟩:=uQ;obtain⟨x0,x1,x2,x3,x4⟩:=gu;obtain⟨x5,x6⟩:=ju;have x7:=λq:Wd wr=>(q.cell hb).trans c7;obtain⟨yw,hne0⟩:=gE;have HC0:=ae (λq:Wd wr=>(eY x.n x.c x.z x.k x.x x.m x.y va vl vc x.zs q.w HZx0.out HZx2.out HZx3.out HZx5.out (HTx.below q.b)).mono (λ_ _ h=>av.yes h HOK.out));go_wp2_with fail;refine ag au au ?_;repeat (go_big_quiet_step (first|(go_at_call 92;exact Calls.wide (HC0.out _))|fail))
        refine wpQuiet_nil ?_;rintro _ ⟨q,rfl⟩;obtain⟨HB1,Ck⟩:=di;clear hne0 HW HB HC0 k2 x0 x1 x2 x3 x4 x5 x6 x7 yw Gk Bk c0 c1 c2 c3 c4 c5 c6 c7 pk y0;have HB:=HB1;clear HB1;have Bk:=Ck;clear Ck;go_wp2;go_ret;refine av.f (λh=>?_) HB.out;have h3:=h.2.2.1.2.2 (k - 1) x y nA HXy.out;rw[hless] at h3;cases h3
       ·obtain⟨Gk,HW,k2⟩:=uQ;obtain⟨x0,x1,x2,x3,x4⟩:=gu;obtain⟨x5,x6⟩:=ju;have x7:=λq:Wd wr=>(q.cell hb).trans c7;obtain⟨yw,hne0⟩:=gE;have HC0:=ae (λq:Wd wr=>(eY x.n x.c x.z x.k x.x x.m x.y va vl vc x.zs q.w HZx0.out HZx2.out HZx3.out HZx5.out (HTx.below q.b)).mono (λ_ _ h=>av.yes h HOK.out));go_wp2_with fail;refine ag au au ?_;repeat (go_big_quiet_step (first|(go_at_call 92;exact Calls.wide (HC0.out _))|fail))
        refine wpQuiet_nil ?_;rintro _ ⟨q,rfl⟩;obtain⟨HB1,Ck⟩:=di;clear hne0 HW HB HC0 k2 x0 x1 x2 x3 x4 x5 x6 x7 yw Gk Bk c0 c1 c2 c3 c4 c5 c6 c7 pk y0;exact nX
      ·obtain rfl:l3=k:=af
       have HR3:Hid (eF mS Vd.n c.vs 8):=⟨by omega,λj z hz=>HQ.out j z da hz,λj z u hz hu=>HO.out j z u da hz hu⟩;clear HQ HO;skip;have kc:=ck3 Bk;go_wp2;go_loopw [6] (λi wr=> ∃k:Nat,k<=l4/\i=GZ G6 k/\Hid (∀(j:Nat) z,j<k->c.xs[j]?=F_ z->fH z)/\Hid (∀(j:Nat) z u,j+1<k->c.xs[j+1]?=F_ z->c.xs[j]?=F_ u->Fx u.n.toList z.n.toList=Hb)/\Hid (Below w.heap.size w wr)/\Hid (wr.heap[w.heap.size]?=F_ (G7 (clo6 a1 l1 y1 a2 l2 y2 a3 l3 y3 a4 l4 y4 a5 l5 y5 c.now) 29 (0,0)))) (λi _=>l4 - (intOf i).toNat);case atStart=>exact⟨0,by omega,rfl,λ_ _ h=>absurd h af,λ_ _ _ h=>absurd h af,HB.out,Bk.out⟩
       case round=>
        obtain⟨k,hk,rfl,HQ,HO,HB,Bk⟩:=hrel;have pk:=ck3 Bk;by_cases hlt:k<l4
        ·obtain⟨b,o,x,rfl,hb,hx,hat⟩:=dM (HR.x.below HB.out) hlt;obtain⟨z0,z2,z4,c0,c1,c2,c3,c4⟩:=bS hat;have HXx:=ae hx;have HZx0:=ae z0;have HZx2:=ae z2;have HZx4:=ae z4;clear hat hx z0 z2 z4;by_cases hok:fH x;rotate_left
         ·have HOK:=ae hok;clear hok;have Gk:=Bk;obtain⟨HW,k3⟩:=j7;obtain⟨x0,x1,x2,x3,x4⟩:=gu;have hne0:=Wd.ne wr;have HC0:=ae (λq:Wd wr=>(ep x.n x.z x.k x.x x.v q.w HZx0.out HZx2.out HZx4.out).mono (λ_ _ h=>av.no h HOK.out));go_wp2_with fail;refine ag au au ?_;repeat (go_big_quiet_step (first|(go_at_call 93;exact Calls.wide (HC0.out _))|fail))
          refine wpQuiet_nil ?_;rintro _ ⟨q,rfl⟩;obtain⟨HB1,Ck⟩:=di;clear hne0 HW HB HC0 k3 x0 x1 x2 x3 x4 Gk Bk c0 c1 c2 c3 c4 pk;have HB:=HB1;clear HB1;have Bk:=Ck;clear Ck;go_wp2;go_ret;exact av.f (λh=>HOK.out (h.2.2.2.1.2.1 k x HXx.out)) HB.out
         have HOK:=ae hok;clear hok;by_cases hk0:0<k;rotate_left
         ·obtain⟨hd,Gk⟩:=j_;obtain⟨HW,k3⟩:=j7;obtain⟨x0,x1,x2,x3,x4⟩:=gu;have hne0:=Wd.ne wr;have HC0:=ae (λq:Wd wr=>(ep x.n x.z x.k x.x x.v q.w HZx0.out HZx2.out HZx4.out).mono (λ_ _ h=>av.yes h HOK.out));go_wp2_with fail;refine ag au au ?_;repeat (go_big_quiet_step (first|(go_at_call 93;exact Calls.wide (HC0.out _))|fail))
          refine wpQuiet_nil ?_;rintro _ ⟨q,rfl⟩;obtain⟨HB1,Ck⟩:=di;clear hne0 HW HB HC0 k3 x0 x1 x2 x3 x4 Gk Bk c0 c1 c2 c3 c4 pk;exact nW
         have ek:((k:Int) - 1).toNat=k - 1:=af
         obtain⟨b',o',y,e',hb',hy,haty⟩:=dM (HR.x.below HB.out) (show k - 1<l4 by omega);cases e';have y0:wr.cell? ⟨b,o+(k - 1)*5,U⟩=F_ (I y.n):=by
          exact kd
         have HXy:=ae hy;clear hy haty;cases hless:Fx y.n.toList x.n.toList
         ·have Gk:Hid (wr.heap[w.heap.size]?=F_ (G7 (clo6 a1 l1 y1 a2 l2 y2 a3 l3 y3 (F_ ⟨b,o,U⟩) l4 y4 a5 l5 y5 c.now) 29 (0,0))):=Bk.out;obtain⟨HW,k3⟩:=j7;obtain⟨x0,x1,x2,x3,x4⟩:=gu;obtain⟨yw,hne0⟩:=gE;have HC0:=ae (λq:Wd wr=>(ep x.n x.z x.k x.x x.v q.w HZx0.out HZx2.out HZx4.out).mono (λ_ _ h=>av.yes h HOK.out));go_wp2_with fail;refine ag au au ?_;repeat (go_big_quiet_step (first|(go_at_call 93;exact Calls.wide (HC0.out _))|fail))
          refine wpQuiet_nil ?_;rintro _ ⟨q,rfl⟩;obtain⟨HB1,Ck⟩:=di;clear hne0 HW HB HC0 k3 x0 x1 x2 x3 x4 yw Gk Bk c0 c1 c2 c3 c4 pk y0;have HB:=HB1;clear HB1;have Bk:=Ck;clear Ck;go_wp2;go_ret;refine av.f (λh=>?_) HB.out;have h3:=h.2.2.2.1.2.2 (k - 1) x y nA HXy.out;rw[hless] at h3;cases h3
         ·have Gk:Hid (wr.heap[w.heap.size]?=F_ (G7 (clo6 a1 l1 y1 a2 l2 y2 a3 l3 y3 (F_ ⟨b,o,U⟩) l4 y4 a5 l5 y5 c.now) 29 (0,0))):=Bk.out;obtain⟨HW,k3⟩:=j7;obtain⟨x0,x1,x2,x3,x4⟩:=gu;obtain⟨yw,hne0⟩:=gE;have HC0:=ae (λq:Wd wr=>(ep x.n x.z x.k x.x x.v q.w HZx0.out HZx2.out HZx4.out).mono (λ_ _ h=>av.yes h HOK.out));go_wp2_with fail;refine ag au au ?_;repeat (go_big_quiet_step (first|(go_at_call 93;exact Calls.wide (HC0.out _))|fail))
          refine wpQuiet_nil ?_;rintro _ ⟨q,rfl⟩;obtain⟨HB1,Ck⟩:=di;clear hne0 HW HB HC0 k3 x0 x1 x2 x3 x4 yw Gk Bk c0 c1 c2 c3 c4 pk y0;exact nX
        ·obtain rfl:l4=k:=af
         have HR4:Hid (eF fH Xd.n c.xs 8):=⟨by omega,λj z hz=>HQ.out j z da hz,λj z u hz hu=>HO.out j z u da hz hu⟩;clear HQ HO;skip;have kc:=ck4 Bk;go_wp2;go_loopw [7] (λi wr=> ∃k:Nat,k<=l5/\i=GZ G6 k/\Hid (∀(j:Nat) z,j<k->c.ps[j]?=F_ z->ob z)/\Hid (∀(j:Nat) z u,j+1<k->c.ps[j+1]?=F_ z->c.ps[j]?=F_ u->Fx u.n.toList z.n.toList=Hb)/\Hid (Below w.heap.size w wr)/\Hid (wr.heap[w.heap.size]?=F_ (G7 (clo6 a1 l1 y1 a2 l2 y2 a3 l3 y3 a4 l4 y4 a5 l5 y5 c.now) 29 (0,0)))) (λi _=>l5 - (intOf i).toNat);case atStart=>exact⟨0,by omega,rfl,λ_ _ h=>absurd h af,λ_ _ _ h=>absurd h af,HB.out,Bk.out⟩
         case round=>
          obtain⟨k,hk,rfl,HQ,HO,HB,Bk⟩:=hrel;have pk:=ck4 Bk;by_cases hlt:k<l5
          ·obtain⟨b,o,x,rfl,hb,hx,hat⟩:=bN (HR.p.below HB.out) hlt;obtain⟨va,vl,vc,hvr,z0,z2,z4,c0,c1,c2,c3,c4,c5⟩:=aR hat;have HXx:=ae hx;have HTx:=ae hvr;have HZx0:=ae z0;have HZx2:=ae z2;have HZx4:=ae z4;clear hat hx z0 z2 z4 hvr;by_cases hok:ob x;rotate_left
           ·have HOK:=ae hok;clear hok;have Gk:=Bk;obtain⟨HW,k4⟩:=j6;obtain⟨x0,x1,x2,x3,x4⟩:=gu;have x5:=λq:Wd wr=>(q.cell hb).trans c5;have hne0:=Wd.ne wr;have HC0:=ae (λq:Wd wr=>(eZ x.n x.c x.z va vl vc x.zs x.d x.p q.w HZx0.out HZx2.out HZx4.out (HTx.below q.b)).mono (λ_ _ h=>av.no h HOK.out));go_wp2_with fail;refine ag au au ?_;repeat (go_big_quiet_step (first|(go_at_call 94;exact Calls.wide (HC0.out _))|fail))
            refine wpQuiet_nil ?_;rintro _ ⟨q,rfl⟩;obtain⟨HB1,Ck⟩:=di;clear hne0 HW HB HC0 k4 x0 x1 x2 x3 x4 x5 Gk Bk c0 c1 c2 c3 c4 c5 pk;have HB:=HB1;clear HB1;have Bk:=Ck;clear Ck;go_wp2;go_ret;exact av.f (λh=>HOK.out (h.2.2.2.2.2.1 k x HXx.out)) HB.out
           have HOK:=ae hok;clear hok;by_cases hk0:0<k;rotate_left
           ·obtain⟨hd,Gk⟩:=j_;obtain⟨HW,k4⟩:=j6;obtain⟨x0,x1,x2,x3,x4⟩:=gu;have x5:=λq:Wd wr=>(q.cell hb).trans c5;have hne0:=Wd.ne wr;have HC0:=ae (λq:Wd wr=>(eZ x.n x.c x.z va vl vc x.zs x.d x.p q.w HZx0.out HZx2.out HZx4.out (HTx.below q.b)).mono (λ_ _ h=>av.yes h HOK.out));go_wp2_with fail;refine ag au au ?_;repeat (go_big_quiet_step (first|(go_at_call 94;exact Calls.wide (HC0.out _))|fail))
            refine wpQuiet_nil ?_;rintro _ ⟨q,rfl⟩;obtain⟨HB1,Ck⟩:=di;clear hne0 HW HB HC0 k4 x0 x1 x2 x3 x4 x5 Gk Bk c0 c1 c2 c3 c4 c5 pk;exact nW
           have ek:((k:Int) - 1).toNat=k - 1:=af
           obtain⟨b',o',y,e',hb',hy,haty⟩:=bN (HR.p.below HB.out) (show k - 1<l5 by omega);cases e';have y0:wr.cell? ⟨b,o+(k - 1)*6,U⟩=F_ (I y.n):=by
            exact kd
           have HXy:=ae hy;clear hy haty;cases hless:Fx y.n.toList x.n.toList
           ·have Gk:Hid (wr.heap[w.heap.size]?=F_ (G7 (clo6 a1 l1 y1 a2 l2 y2 a3 l3 y3 a4 l4 y4 (F_ ⟨b,o,U⟩) l5 y5 c.now) 29 (0,0))):=Bk.out;obtain⟨HW,k4⟩:=j6;obtain⟨x0,x1,x2,x3,x4⟩:=gu;have x5:=λq:Wd wr=>(q.cell hb).trans c5;obtain⟨yw,hne0⟩:=gE;have HC0:=ae (λq:Wd wr=>(eZ x.n x.c x.z va vl vc x.zs x.d x.p q.w HZx0.out HZx2.out HZx4.out (HTx.below q.b)).mono (λ_ _ h=>av.yes h HOK.out));go_wp2_with fail;refine ag au au ?_;repeat (go_big_quiet_step (first|(go_at_call 94;exact Calls.wide (HC0.out _))|fail))
            refine wpQuiet_nil ?_;rintro _ ⟨q,rfl⟩;obtain⟨HB1,Ck⟩:=di;clear hne0 HW HB HC0 k4 x0 x1 x2 x3 x4 x5 yw Gk Bk c0 c1 c2 c3 c4 c5 pk y0;have HB:=HB1;clear HB1;have Bk:=Ck;clear Ck;go_wp2;go_ret;refine av.f (λh=>?_) HB.out;have h3:=h.2.2.2.2.2.2 (k - 1) x y nA HXy.out;rw[hless] at h3;cases h3
           ·have Gk:Hid (wr.heap[w.heap.size]?=F_ (G7 (clo6 a1 l1 y1 a2 l2 y2 a3 l3 y3 a4 l4 y4 (F_ ⟨b,o,U⟩) l5 y5 c.now) 29 (0,0))):=Bk.out;obtain⟨HW,k4⟩:=j6;obtain⟨x0,x1,x2,x3,x4⟩:=gu;have x5:=λq:Wd wr=>(q.cell hb).trans c5;obtain⟨yw,hne0⟩:=gE;have HC0:=ae (λq:Wd wr=>(eZ x.n x.c x.z va vl vc x.zs x.d x.p q.w HZx0.out HZx2.out HZx4.out (HTx.below q.b)).mono (λ_ _ h=>av.yes h HOK.out));go_wp2_with fail;refine ag au au ?_;repeat (go_big_quiet_step (first|(go_at_call 94;exact Calls.wide (HC0.out _))|fail))
            refine wpQuiet_nil ?_;rintro _ ⟨q,rfl⟩;obtain⟨HB1,Ck⟩:=di;clear hne0 HW HB HC0 k4 x0 x1 x2 x3 x4 x5 yw Gk Bk c0 c1 c2 c3 c4 c5 pk y0;exact nX
          ·obtain rfl:l5=k:=af
           have HR5:Hid (eF ob Pd.n c.ps 8):=⟨by omega,λj z hz=>HQ.out j z da hz,λj z u hz hu=>HO.out j z u da hz hu⟩;clear HQ HO;go_wp2;go_ret;exact av.t ⟨HR1.out,HR2.out,HR3.out,HR4.out,HR5.out⟩ HB.out
def AM(c:Cl) (t:ByteArray):Prop:=∃(i:Nat) (k:Kd),c.ks[i]?=F_ k/\k.n=t
def SV(c:Cl) (v:Vd):Prop:=AM c v.k/\(v.m=⟨#[]⟩\/∃(i:Nat) (x:Xd),c.xs[i]?=F_ x/\x.n=v.m/\x.v=v.n)
def SX(c:Cl) (x:Xd):Prop:=AM c x.k/\(x.v=⟨#[]⟩\/∃(j:Nat) (v:Vd),c.vs[j]?=F_ v/\v.n=x.v/\v.m=x.n/\x.z<=v.c/\v.k=x.k/\v.x=x.x)
def qY(c:Cl):Prop:=(∀(j:Nat) z,c.vs[j]?=F_ z->SV c z)/\(∀(j:Nat) z,c.xs[j]?=F_ z->SX c z)
theorem oO(d:Ad) (c:Cl) (w:World) (hr:aE w d c.raw) (hks:aJ Kd.n c.ks) (hxs:aJ Xd.n c.xs) (hvs:aJ Vd.n c.vs):
  Calls Tryz.prog 51 #[Hc #[J d.a1 d.l1 d.c1,J d.a2 d.l2 d.c2,J d.a3 d.l3 d.c3,J d.a4 d.l4 d.c4,J d.a5 d.l5 d.c5,GZ G6 c.now]] w (av (qY c) w):=by
 obtain⟨a1,l1,y1,a2,l2,y2,a3,l3,y3,a4,l4,y4,a5,l5,y5⟩:=d;dsimp only;obtain⟨HR,hl1,hm1,hl2,hm2,hl3,hm3,hl4,hm4,hl5,hm5⟩:=ew;clear hr;have HKS:=ae hks;have HXS:=ae hxs;have HVS:=ae hvs;clear hks hxs hvs;go_enter Tryz.func51,Tryz.ntmps51;go_wp2;go_loopw [3] (λi wr=> ∃k:Nat,k<=l3/\i=GZ G6 k/\Hid (∀(j:Nat) z,j<k->c.vs[j]?=F_ z->SV c z)/\Hid (Below w.heap.size w wr)/\Hid (wr.heap[w.heap.size]?=F_ (G7 (clo6 a1 l1 y1 a2 l2 y2 a3 l3 y3 a4 l4 y4 a5 l5 y5 c.now) 29 (0,0)))) (λi _=>l3 - (intOf i).toNat);case atStart=>exact⟨0,by omega,rfl,λ_ _ h=>absurd h af,aq _ _,Fs⟩
 case round=>
  obtain⟨k,hk,rfl,HQ,HB,Bk⟩:=hrel;have pk:=ck2 Bk;by_cases hlt:k<l3
  ·obtain⟨b,o,v,rfl,hb,hx,hat⟩:=bM (HR.v.below HB.out) hlt;obtain⟨va,vl,vc,hvr,z0,z2,z3,z5,c0,c1,c2,c3,c4,c5,c6,c7⟩:=aP hat;have HXv:=ae hx;have HTv:=ae hvr;have HZv0:=ae z0;have HZv2:=ae z2;have HZv3:=ae z3;have HZv5:=ae z5;clear hat hx z0 z2 z3 z5 hvr;obtain⟨k0,k1,k2,k3,k4,k5⟩:=cs6 Bk;have ltk_0:=aa Bk.out;go_wp2_with fail;refine (eV ⟨a1,l1,y1,a2,l2,y2,(F_ ⟨b,o,U⟩),l3,y3,a4,l4,y4,a5,l5,y5⟩ c.now c.xs v.m _ (HR.x.below (HB.trans ((aq _ _).mono HB.size)))).mono ?_;rintro e w1 ⟨hb2,hf⟩;clear k0 k1 k2 k3 k4 k5 ltk_0;obtain⟨HA0,hbx⟩:=aT hb2;replace Bk:=upK Bk hbx;have Br:=ae HA0;replace HB:=upB HB hbx;clear hb2 hbx HA0;clear pk hb c0 c1 c2 c3 c4 c5 c6 c7;by_cases hkh:AM c v.k;rotate_left
   ·have HKH:=ae hkh;clear hkh;obtain⟨r,hre⟩:∃r:Int,e=Ha (GZ G6 r):=by rcases hf with ⟨j,y,_,_,h⟩|⟨_,h⟩ <;> exact⟨_,h⟩
    subst hre;clear hf;obtain⟨Gk,Gr,HW⟩:=bJ;obtain⟨k0,k1,k2,k3,k4,k5⟩:=sl6 Gk;obtain⟨r0,r1,r2,r3,r4,r5,r6,r7⟩:=sl8 Gr;have hne0:=Wd.ne w1;have HC0:=ae (λq:Wd w1=>kR ⟨a1,l1,y1,a2,l2,y2,(F_ ⟨b,o,U⟩),l3,y3,a4,l4,y4,a5,l5,y5⟩ c.now c.ks v.k q.w (HR.k.below (HW.trans (q.b.mono HW.size))) (λj y h1 h2=>HKH.out ⟨j,y,h1,h2⟩));go_wp2_with fail;refine ag au au ?_;repeat (go_big_quiet_step (first|(go_at_call 96;exact Calls.wide (HC0.out _))|fail))
    refine wpQuiet_nil ?_;rintro _ ⟨q1,rfl⟩;have HB2:=upB HW q1.b;obtain⟨Ck,Cr⟩:=cf;clear hne0 HW HB HC0 k0 k1 k2 k3 k4 k5 r0 r1 r2 r3 r4 r5 r6 r7 Gk Gr Bk Br;have HB:=HB2;clear HB2;have Bk:=Ck;clear Ck;have Br:=Cr;clear Cr;go_wp2;go_ret;exact av.f (λh=>HKH.out (h.1 k v HXv.out).1) HB.out
   obtain⟨i2,kd2,g1,g2⟩:=hkh;have HG1:=ae g1;have HG2:=ae g2;have hi20:¬((i2:Int)<0):=af
   have hi21:decide ((i2:Int)<0)=G_:=aH
   clear g1 g2;by_cases he:v.m=⟨#[]⟩
   ·have hq:=cC he;have HEm:=ae he;clear he;obtain⟨r,hre⟩:∃r:Int,e=Ha (GZ G6 r):=by rcases hf with ⟨j,y,_,_,h⟩|⟨_,h⟩ <;> exact⟨_,h⟩
    subst hre;clear hf;obtain⟨Gk,Gr,HW⟩:=bJ;obtain⟨k0,k1,k2,k3,k4,k5⟩:=sl6 Gk;obtain⟨r0,r1,r2,r3,r4,r5,r6,r7⟩:=sl8 Gr;obtain⟨hne0,HC0⟩:=A7;go_wp2_with fail;refine ag au au ?_;repeat (go_big_quiet_step (first|(go_at_call 96;exact Calls.wide (HC0.out _))|fail))
    refine wpQuiet_nil ?_;rintro _ ⟨q1,rfl⟩;have HB2:=upB HW q1.b;obtain⟨Ck,Cr⟩:=cf;clear hne0 HW HB HC0 k0 k1 k2 k3 k4 k5 r0 r1 r2 r3 r4 r5 r6 r7 Gk Gr Bk Br;have HB:=HB2;clear HB2;have Bk:=Ck;clear Ck;have Br:=Cr;clear Cr;go_wp2_with fail;refine⟨⟨k+1,by omega,by go_num,λj z hj hz=>?_,HB.out,Bk.out⟩,by simp[intOf];omega⟩;by_cases e:j=k
    ·subst e;rw[HXv.out] at hz;obtain rfl:=Fp hz;exact⟨⟨i2,kd2,HG1.out,HG2.out⟩,He HEm.out⟩
    ·exact HQ.out j z af hz
   have hq:=bg he;have HEm:=ae he;clear he;rcases hf with ⟨j4,y,h1,h2,rfl⟩|⟨hh,rfl⟩;rotate_left
   ·have HH:=ae hh;clear hh;obtain⟨Gk,Gr,HW⟩:=bJ;obtain⟨k0,k1,k2,k3,k4,k5⟩:=sl6 Gk;obtain⟨r0,r1,r2,r3,r4,r5,r6,r7⟩:=sl8 Gr;obtain⟨hne0,HC0⟩:=A7;go_wp2_with fail;refine ag au au ?_;repeat (go_big_quiet_step (first|(go_at_call 96;exact Calls.wide (HC0.out _))|fail))
    refine wpQuiet_nil ?_;rintro _ ⟨q1,rfl⟩;have HB2:=upB HW q1.b;obtain⟨Ck,Cr⟩:=cf;clear hne0 HW HB HC0 k0 k1 k2 k3 k4 k5 r0 r1 r2 r3 r4 r5 r6 r7 Gk Gr Bk Br;have HB:=HB2;clear HB2;have Bk:=Ck;clear Ck;have Br:=Cr;clear Cr;go_wp2;go_ret;refine av.f (λh=>?_) HB.out;rcases (h.1 k v HXv.out).2 with h2|⟨i,y,h2,h3,_⟩
    ·exact HEm.out h2
    ·exact HH.out i y h2 h3
   have hl4':j4<l4:=by have h3:=(Fm.1 h1).1;omega
   obtain⟨b4,o4,y',rfl,hb4,hy',hat⟩:=dM HR.x hl4';rw[h1] at hy';obtain rfl:=Fp hy';obtain⟨z0,z2,z4,c0,c1,c2,c3,c4⟩:=bS hat;have HJ:=ae h1;have HN:=ae h2;have hcv:=(aj HB.out hb4).trans c4;have hbv:=Fw hb4 HB.size;have hj0:¬((j4:Int)<0):=af
   have hj1:decide ((j4:Int)<0)=G_:=aH
   clear hy' hat z0 z2 z4 c0 c1 c2 c3 c4 h1 h2;by_cases hvn:y.v=v.n
   ·have hq2:=aW hvn;have HVN:=ae hvn;clear hvn;obtain⟨Gk,Gr,HW⟩:=bJ;obtain⟨k0,k1,k2,k3,k4,k5⟩:=sl6 Gk;obtain⟨r0,r1,r2,r3,r4,r5,r6,r7⟩:=sl8 Gr;obtain⟨yw,hne0,HC0⟩:=Bq;go_wp2_with fail;refine ag au au ?_;repeat (go_big_quiet_step (first|(go_at_call 96;exact Calls.wide (HC0.out _))|fail))
    refine wpQuiet_nil ?_;rintro _ ⟨q1,rfl⟩;have HB2:=upB HW q1.b;obtain⟨Ck,Cr⟩:=cf;clear hne0 HW HB HC0 k0 k1 k2 k3 k4 k5 r0 r1 r2 r3 r4 r5 r6 r7 yw Gk Gr Bk Br hcv hbv;have HB:=HB2;clear HB2;have Bk:=Ck;clear Ck;have Br:=Cr;clear Cr;go_wp2_with fail;refine⟨⟨k+1,by omega,by go_num,λj z hj hz=>?_,HB.out,Bk.out⟩,by simp[intOf];omega⟩;by_cases e:j=k
    ·subst e;rw[HXv.out] at hz;obtain rfl:=Fp hz;exact⟨⟨i2,kd2,HG1.out,HG2.out⟩,Hd ⟨j4,y,HJ.out,HN.out,HVN.out⟩⟩
    ·exact HQ.out j z af hz
   ·have hq2:=bH hvn;have HVN:=ae hvn;clear hvn;obtain⟨Gk,Gr,HW⟩:=bJ;obtain⟨k0,k1,k2,k3,k4,k5⟩:=sl6 Gk;obtain⟨r0,r1,r2,r3,r4,r5,r6,r7⟩:=sl8 Gr;obtain⟨yw,hne0,HC0⟩:=Bq;go_wp2_with fail;refine ag au au ?_;repeat (go_big_quiet_step (first|(go_at_call 96;exact Calls.wide (HC0.out _))|fail))
    refine wpQuiet_nil ?_;rintro _ ⟨q1,rfl⟩;have HB2:=upB HW q1.b;obtain⟨Ck,Cr⟩:=cf;clear hne0 HW HB HC0 k0 k1 k2 k3 k4 k5 r0 r1 r2 r3 r4 r5 r6 r7 yw Gk Gr Bk Br hcv hbv;have HB:=HB2;clear HB2;have Bk:=Ck;clear Ck;have Br:=Cr;clear Cr;go_wp2;go_ret;refine av.f (λh=>?_) HB.out;rcases (h.1 k v HXv.out).2 with h2|⟨i,y2,h2,h3,h4⟩
    ·exact HEm.out h2
    ·obtain⟨_,rfl⟩:=HXS.inj h2 HJ.out (h3.trans HN.symm);exact HVN.out h4
  ·obtain rfl:l3=k:=af
   have HQ1:Hid (∀(j:Nat) z,c.vs[j]?=F_ z->SV c z):=λj z hz=>HQ.out j z da hz;clear HQ;have kc:=ck3 Bk;go_wp2;go_loopw [6] (λi wr=> ∃k:Nat,k<=l4/\i=GZ G6 k/\Hid (∀(j:Nat) z,j<k->c.xs[j]?=F_ z->SX c z)/\Hid (Below w.heap.size w wr)/\Hid (wr.heap[w.heap.size]?=F_ (G7 (clo6 a1 l1 y1 a2 l2 y2 a3 l3 y3 a4 l4 y4 a5 l5 y5 c.now) 29 (0,0)))) (λi _=>l4 - (intOf i).toNat);case atStart=>exact⟨0,by omega,rfl,λ_ _ h=>absurd h af,HB.out,Bk.out⟩
   case round=>
    obtain⟨k,hk,rfl,HQ,HB,Bk⟩:=hrel;have pk:=ck3 Bk;by_cases hlt:k<l4
    ·obtain⟨b,o,x,rfl,hb,hx,hat⟩:=dM (HR.x.below HB.out) hlt;obtain⟨z0,z2,z4,c0,c1,c2,c3,c4⟩:=bS hat;have HXx:=ae hx;have HZx0:=ae z0;have HZx2:=ae z2;have HZx4:=ae z4;clear hat hx z0 z2 z4;obtain⟨k0,k1,k2,k3,k4,k5⟩:=cs6 Bk;have ltk_0:=aa Bk.out;go_wp2_with fail;refine (gU ⟨a1,l1,y1,a2,l2,y2,a3,l3,y3,(F_ ⟨b,o,U⟩),l4,y4,a5,l5,y5⟩ c.now c.vs x.v _ (HR.v.below (HB.trans ((aq _ _).mono HB.size)))).mono ?_;rintro e w1 ⟨hb2,hf⟩;clear k0 k1 k2 k3 k4 k5 ltk_0;obtain⟨HA0,hbx⟩:=aT hb2;replace Bk:=upK Bk hbx;have Br:=ae HA0;replace HB:=upB HB hbx;clear hb2 hbx HA0;clear pk hb c0 c1 c2 c3 c4;by_cases hkh:AM c x.k;rotate_left
     ·have HKH:=ae hkh;clear hkh;obtain⟨r,hre⟩:∃r:Int,e=Ha (GZ G6 r):=by rcases hf with ⟨j,y,_,_,h⟩|⟨_,h⟩ <;> exact⟨_,h⟩
      subst hre;clear hf;obtain⟨k0,k1,k2,k3,k4,k5⟩:=cs6 Bk;have ltk_1:=aa Bk.out;obtain⟨r0,r1,r2,r3,r4⟩:=cs5 Br;have ltr_1:=aa Br.out;go_wp2_with fail;refine (kR ⟨a1,l1,y1,a2,l2,y2,a3,l3,y3,(F_ ⟨b,o,U⟩),l4,y4,a5,l5,y5⟩ c.now c.ks x.k _ (HR.k.below HB.out) (λj y h1 h2=>HKH.out ⟨j,y,h1,h2⟩)).mono ?_;rintro e w2 ⟨rfl,hb3⟩;clear k0 k1 k2 k3 k4 k5 ltk_1 r0 r1 r2 r3 r4 ltr_1;replace Bk:=upK Bk hb3;replace Br:=upK Br hb3;replace HB:=upB HB hb3;clear hb3;go_wp2;go_ret;exact av.f (λh=>HKH.out (h.2 k x HXx.out).1) HB.out
     obtain⟨i2,kd2,g1,g2⟩:=hkh;have HG1:=ae g1;have HG2:=ae g2;have hi20:¬((i2:Int)<0):=af
     have hi21:decide ((i2:Int)<0)=G_:=aH
     clear g1 g2;by_cases he:x.v=⟨#[]⟩
     ·have hq:=cC he;have HEm:=ae he;clear he;obtain⟨r,hre⟩:∃r:Int,e=Ha (GZ G6 r):=by rcases hf with ⟨j,y,_,_,h⟩|⟨_,h⟩ <;> exact⟨_,h⟩
      subst hre;clear hf;obtain⟨k0,k1,k2,k3,k4,k5⟩:=cs6 Bk;have ltk_1:=aa Bk.out;obtain⟨r0,r1,r2,r3,r4⟩:=cs5 Br;have ltr_1:=aa Br.out;go_wp2_with fail;refine (dm ⟨a1,l1,y1,a2,l2,y2,a3,l3,y3,(F_ ⟨b,o,U⟩),l4,y4,a5,l5,y5⟩ c.now c.ks x.k _ (HR.k.below HB.out) HKS.out HG1.out HG2.out).mono ?_;rintro e w2 ⟨rfl,hb3⟩;clear k0 k1 k2 k3 k4 k5 ltk_1 r0 r1 r2 r3 r4 ltr_1;replace Bk:=upK Bk hb3;replace Br:=upK Br hb3;replace HB:=upB HB hb3;clear hb3;obtain⟨k0,k1,k2,k3,k4,k5⟩:=cs6 Bk;have ltk_2:=aa Bk.out;obtain⟨r0,r1,r2,r3,r4⟩:=cs5 Br;have ltr_2:=aa Br.out;go_wp2_with fail;refine⟨⟨k+1,by omega,by go_num,λj z hj hz=>?_,HB.out,Bk.out⟩,by simp[intOf];omega⟩;by_cases e:j=k
      ·subst e;rw[HXx.out] at hz;obtain rfl:=Fp hz;exact⟨⟨i2,kd2,HG1.out,HG2.out⟩,He HEm.out⟩
      ·exact HQ.out j z af hz
     have hq:=bg he;have HEm:=ae he;clear he;rcases hf with ⟨j3,y,h1,h2,rfl⟩|⟨hh,rfl⟩;rotate_left
     ·have HH:=ae hh;clear hh;obtain⟨k0,k1,k2,k3,k4,k5⟩:=cs6 Bk;have ltk_1:=aa Bk.out;obtain⟨r0,r1,r2,r3,r4⟩:=cs5 Br;have ltr_1:=aa Br.out;go_wp2_with fail;refine (dm ⟨a1,l1,y1,a2,l2,y2,a3,l3,y3,(F_ ⟨b,o,U⟩),l4,y4,a5,l5,y5⟩ c.now c.ks x.k _ (HR.k.below HB.out) HKS.out HG1.out HG2.out).mono ?_;rintro e w2 ⟨rfl,hb3⟩;clear k0 k1 k2 k3 k4 k5 ltk_1 r0 r1 r2 r3 r4 ltr_1;replace Bk:=upK Bk hb3;replace Br:=upK Br hb3;replace HB:=upB HB hb3;clear hb3;have pr:=ck4 Br;obtain⟨Gk,Gr,HW⟩:=bJ;have k2:=λq:Wd w2=>q.slot (o:=2) Gk.out rfl;obtain⟨r0,r1,r2,r3,r4⟩:=sl5 Gr;have hne0:=Wd.ne w2;go_wp2_with fail;refine ag au au ?_;repeat (go_big_quiet_step (first|fail))
      refine wpQuiet_nil ?_;rintro _ ⟨q1,rfl⟩;have HB3:=upB HW q1.b;obtain⟨Ck,Cr⟩:=cf;clear hne0 HW HB k2 r0 r1 r2 r3 r4 Gk Gr Bk Br pr;have HB:=HB3;clear HB3;have Bk:=Ck;clear Ck;have Br:=Cr;clear Cr;go_wp2;go_ret;refine av.f (λh=>?_) HB.out;rcases (h.2 k x HXx.out).2 with h2|⟨i,y,h2,h3,_⟩
      ·exact HEm.out h2
      ·exact HH.out i y h2 h3
     have hl3':j3<l3:=by have h3:=(Fm.1 h1).1;omega
     obtain⟨b3,o3,y',rfl,hb3,hy',hat⟩:=bM HR.v hl3';rw[h1] at hy';obtain rfl:=Fp hy';obtain⟨va,vl,vc,hvr,z0,z2,z3,z5,c0,c1,c2,c3,c4,c5,c6,c7⟩:=aP hat;have HJ:=ae h1;have HN:=ae h2;have hj0:¬((j3:Int)<0):=af
     have hj1:decide ((j3:Int)<0)=G_:=aH
     have HC1:=ae c1;have HC3:=ae c3;have HC4:=ae c4;have HC5:=ae c5;have HB3:=ae hb3;clear hy' hat hvr z0 z2 z3 z5 c0 c1 c2 c3 c4 c5 c6 c7 h1 h2 hb3;obtain⟨k0,k1,k2,k3,k4,k5⟩:=cs6 Bk;have ltk_1:=aa Bk.out;obtain⟨r0,r1,r2,r3,r4⟩:=cs5 Br;have ltr_1:=aa Br.out;go_wp2_with fail;refine (dm ⟨a1,l1,y1,a2,l2,y2,(F_ ⟨b3,o3,U⟩),l3,y3,(F_ ⟨b,o,U⟩),l4,y4,a5,l5,y5⟩ c.now c.ks x.k _ (HR.k.below HB.out) HKS.out HG1.out HG2.out).mono ?_;rintro e w2 ⟨rfl,hb3⟩;clear k0 k1 k2 k3 k4 k5 ltk_1 r0 r1 r2 r3 r4 ltr_1;replace Bk:=upK Bk hb3;replace Br:=upK Br hb3;replace HB:=upB HB hb3;clear hb3;have pr:=ck4 Br;have hbv:=Fw HB3.out HB.size;have v1:=(aj HB.out HB3.out).trans HC1.out;have v3:=(aj HB.out HB3.out).trans HC3.out;have v4:=(aj HB.out HB3.out).trans HC4.out;have v5:=(aj HB.out HB3.out).trans HC5.out;clear HC1 HC3 HC4 HC5 HB3;by_cases hno:y.m=x.n;rotate_left
     ·have HNo:=ae hno;clear hno;have n1:=bH HNo.out;obtain⟨Gk,Gr,HW⟩:=bJ;have k2:=λq:Wd w2=>q.slot (o:=2) Gk.out rfl;obtain⟨r0,r1,r2,r3,r4⟩:=sl5 Gr;obtain⟨v1w,v3w,v4w,v5w,hne0⟩:=nI;go_wp2_with fail;refine ag au au ?_;repeat (go_big_quiet_step (first|fail))
      refine wpQuiet_nil ?_;rintro _ ⟨q1,rfl⟩;have HB3:=upB HW q1.b;obtain⟨Ck,Cr⟩:=cf;clear hne0 HW HB k2 r0 r1 r2 r3 r4 v1w v3w v4w v5w Gk Gr Bk Br pr v1 v3 v4 v5 hbv;have HB:=HB3;clear HB3;have Bk:=Ck;clear Ck;have Br:=Cr;clear Cr;go_wp2;go_ret;refine av.f (λh=>?_) HB.out;rcases (h.2 k x HXx.out).2 with h2|⟨i,y2,h2,h3,h4⟩
      ·exact HEm.out h2
      ·obtain⟨_,rfl⟩:=HVS.inj h2 HJ.out (h3.trans HN.symm);exact HNo.out h4.1
     have HY1:=ae hno;have q1:=aW hno;clear hno;by_cases hno:x.z<=y.c;rotate_left
     ·have HNo:=ae hno;clear hno;have n1:y.c<x.z:=by have:=HNo.out;omega
      obtain⟨Gk,Gr,HW⟩:=bJ;have k2:=λq:Wd w2=>q.slot (o:=2) Gk.out rfl;obtain⟨r0,r1,r2,r3,r4⟩:=sl5 Gr;obtain⟨v1w,v3w,v4w,v5w,hne0⟩:=nI;go_wp2_with fail;refine ag au au ?_;repeat (go_big_quiet_step (first|fail))
      refine wpQuiet_nil ?_;rintro _ ⟨q1,rfl⟩;have HB3:=upB HW q1.b;obtain⟨Ck,Cr⟩:=cf;clear hne0 HW HB k2 r0 r1 r2 r3 r4 v1w v3w v4w v5w Gk Gr Bk Br pr v1 v3 v4 v5 hbv;have HB:=HB3;clear HB3;have Bk:=Ck;clear Ck;have Br:=Cr;clear Cr;go_wp2;go_ret;refine av.f (λh=>?_) HB.out;rcases (h.2 k x HXx.out).2 with h2|⟨i,y2,h2,h3,h4⟩
      ·exact HEm.out h2
      ·obtain⟨_,rfl⟩:=HVS.inj h2 HJ.out (h3.trans HN.symm);have h5:=h4.2.1;have h6:=HNo.out;omega
     have HY2:=ae hno;have q2:decide (y.c<x.z)=G_:=by simp;omega
     clear hno;by_cases hno:y.k=x.k;rotate_left
     ·have HNo:=ae hno;clear hno;have n1:=bH HNo.out;obtain⟨Gk,Gr,HW⟩:=bJ;have k2:=λq:Wd w2=>q.slot (o:=2) Gk.out rfl;obtain⟨r0,r1,r2,r3,r4⟩:=sl5 Gr;obtain⟨v1w,v3w,v4w,v5w,hne0⟩:=nI;go_wp2_with fail;refine ag au au ?_;repeat (go_big_quiet_step (first|fail))
      refine wpQuiet_nil ?_;rintro _ ⟨q1,rfl⟩;have HB3:=upB HW q1.b;obtain⟨Ck,Cr⟩:=cf;clear hne0 HW HB k2 r0 r1 r2 r3 r4 v1w v3w v4w v5w Gk Gr Bk Br pr v1 v3 v4 v5 hbv;have HB:=HB3;clear HB3;have Bk:=Ck;clear Ck;have Br:=Cr;clear Cr;go_wp2;go_ret;refine av.f (λh=>?_) HB.out;rcases (h.2 k x HXx.out).2 with h2|⟨i,y2,h2,h3,h4⟩
      ·exact HEm.out h2
      ·obtain⟨_,rfl⟩:=HVS.inj h2 HJ.out (h3.trans HN.symm);exact HNo.out h4.2.2.1
     have HY3:=ae hno;have q3:=aW hno;clear hno;by_cases hno:y.x=x.x;rotate_left
     ·have HNo:=ae hno;clear hno;have n1:(y.x==x.x)=G_:=by simpa using HNo.out
      obtain⟨Gk,Gr,HW⟩:=bJ;have k2:=λq:Wd w2=>q.slot (o:=2) Gk.out rfl;obtain⟨r0,r1,r2,r3,r4⟩:=sl5 Gr;obtain⟨v1w,v3w,v4w,v5w,hne0⟩:=nI;go_wp2_with fail;refine ag au au ?_;repeat (go_big_quiet_step (first|fail))
      refine wpQuiet_nil ?_;rintro _ ⟨q1,rfl⟩;have HB3:=upB HW q1.b;obtain⟨Ck,Cr⟩:=cf;clear hne0 HW HB k2 r0 r1 r2 r3 r4 v1w v3w v4w v5w Gk Gr Bk Br pr v1 v3 v4 v5 hbv;have HB:=HB3;clear HB3;have Bk:=Ck;clear Ck;have Br:=Cr;clear Cr;go_wp2;go_ret;refine av.f (λh=>?_) HB.out;rcases (h.2 k x HXx.out).2 with h2|⟨i,y2,h2,h3,h4⟩
      ·exact HEm.out h2
      ·obtain⟨_,rfl⟩:=HVS.inj h2 HJ.out (h3.trans HN.symm);exact HNo.out h4.2.2.2
     have HY4:=ae hno;have q4:(y.x==x.x)=Hb:=by simpa using hno
     clear hno;obtain⟨Gk,Gr,HW⟩:=bJ;have k2:=λq:Wd w2=>q.slot (o:=2) Gk.out rfl;obtain⟨r0,r1,r2,r3,r4⟩:=sl5 Gr;obtain⟨v1w,v3w,v4w,v5w,hne0⟩:=nI;go_wp2_with fail;refine ag au au ?_;repeat (go_big_quiet_step (first|fail))
     refine wpQuiet_nil ?_;rintro _ ⟨qz,rfl⟩;have HB3:=upB HW qz.b;have Ck:=upK Gk qz.b;have Cr:=upK Gr qz.b;clear hne0 HW HB k2 r0 r1 r2 r3 r4 v1w v3w v4w v5w Gk Gr Bk Br pr v1 v3 v4 v5 hbv;have HB:=HB3;clear HB3;have Bk:=Ck;clear Ck;have Br:=Cr;clear Cr;clear q1 q2 q3 q4;go_wp2_with fail;refine⟨⟨k+1,by omega,by go_num,λj z hj hz=>?_,HB.out,Bk.out⟩,by simp[intOf];omega⟩;by_cases e:j=k
     ·subst e;rw[HXx.out] at hz;obtain rfl:=Fp hz;exact⟨⟨i2,kd2,HG1.out,HG2.out⟩,Hd ⟨j3,y,HJ.out,HN.out,HY1.out,HY2.out,HY3.out,HY4.out⟩⟩
     ·exact HQ.out j z af hz
    ·obtain rfl:l4=k:=af
     have HQ2:Hid (∀(j:Nat) z,c.xs[j]?=F_ z->SX c z):=λj z hz=>HQ.out j z da hz;exact lU
end Rc
end Go.Proofs.YtiplhgedmjoliaaGreatDoor
