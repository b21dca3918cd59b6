import Derived.Lib.ItoaNum
import Derived.Test.YtiplhgedmjoliaaGreatDoorRows
import Derived.WalkKit
import Derived.WalkSpells
import Derived.OwnWalk
import Derived.Outline
import Derived.Laws.Cover1
import Derived.Lib.BufferWrite
import Derived.Laws.CopyOwn
import Derived.Deep.QuietTactic
import Derived.BigQuiet
import Derived.WalkSmall
import Derived.Laws.IdiomStrings
import Derived.Laws.AppendOwn
import Derived.Laws.AppendOwnNone
import Derived.Deep.AppendLies
import Derived.Deep.RegionWith
import Derived.LaidEql
import Derived.Stop.Asserts
import Derived.RowKitTokens
import Derived.RegionTactic
import Derived.Lib.Overlaps
import Derived.Lib.SliceRun
import Derived.Lib.AppendZerosOnto
import Derived.Deep.RegionLaw
import Derived.Shelf.RegionOpenPlain
import Derived.Maps.OwnSet
import Derived.DeepKeys4
import Derived.WideKeyEntry
import Derived.OpenShut
import Derived.Deep.CutRange
import Derived.Laws.CopyRow
import Derived.Laws.Tables
import Derived.Laws.Rows
import Derived.Lib.Bytealg
import Derived.Laws.StructEq
import Derived.BigRegion
import Derived.ChangeAlike
import Derived.Lib.VarintMem
import Derived.Lib.Hide
import Derived.Lib.Slices
import Derived.Shelf.Strconv.Itoa4
import Derived.Shelf.Small.Wraps
import Derived.Deep.Cut
import Derived.RangeFuncNested
import Derived.RangeFuncBound
import Derived.RangeFuncCalls
import Derived.RangeFuncLeaves
import Derived.Shelf.Abstract
import Derived.Shelf.RegionOpen
import Derived.OwnWalkIn
import Derived.TacticsInMore
import Derived.LoopNIn
import Derived.LoopIn
import Derived.ScopeJumps
import Derived.WalkMore
import Derived.Stop.LaidErr
import Derived.ChangeVars
/-
 The mathematics of numbers in digits: what digits say, and that digits are got back.
-/
set_option maxRecDepth 100000
set_option maxHeartbeats 12800000
open Bool renaming false→Y8,true→Y_
open Go.Ending renaming returned→Y9
open Go.IntKind renaming i64→Y5
open Go.Obj renaming cells→Y6
open Go.Value renaming string→I,slice→J,int→Y4,bool→Y7,agg→Za,pointer→Zd,tuple→Ze
open Option renaming none→U,some→Y3
open Or renaming inr→Zb,inl→Zc
open And renaming intro→Yb
open Array renaming getElem?_push_size→Yg, getD_eq_getD_getElem?→Yp, getElem?_eq_some_iff→Yw
open Bool renaming and_eq_true→YE
open Go.Addr renaming add_lit→Yo
open Go.Calls renaming quiet_of_same→YC
open Go.Lib renaming decDigits→YV, toList_data→Y2
open Go.Op renaming bytesLess→Yk
open Go.Region renaming wanted→YM, binds→YP, ready→YR
open Go.RowKit.Below renaming heap_setCell→Ya, refl→Yh, heap_alloc→Ym
open Go.Value renaming string→Yn, ownBlock→YJ
open Go.World renaming setCell→YO
open List renaming getElem?_eq_some_iff→Yc, lookup→Yf, getElem?_eq_getElem→Yi, length_map→Yr, setIfInBounds_toArray→Ys, getElem?_map→Yt, mem_of_getElem?→Yu, getElem?_append_left→Yv, drop_eq_nil_of_le→Yx, set_cons_zero→YA, set_cons_succ→YB, getElem?_take→YD, getElem?_of_mem→YF, length_take→YG, take_of_length_le→YH, length_set→YK, take_add_one→YL, eq_nil_of_length_eq_zero→YN, foldr→YQ, range→YT, getElem?_set→YX, length_cons→YY
open Nat renaming le_refl→Ye, lt_of_lt_of_le→Yj, le_trans→Yl, zero_add→Yq, le_succ→Yy, zero_le→YI
open Option renaming map_eq_some_iff→Yz
open Option.some renaming inj→Yd
open UInt8 renaming lt_iff_toNat_lt→YZ
namespace Go.Proofs.YtiplhgedmjoliaaGreatDoor
variable {p:Prop}
namespace Mk
end Mk
open Go.RowKit Mk
variable {α:Type} {H:Nat->Nat->Nat} {P:Program} {Q:Exit->Act->World->Prop} {S S':Nat->Prop} {T:TypeId} {W w' w1:World} {a:Option Addr} {a0:Act} {back:Option Oper} {base cap g h i id j:Nat} {cur:Array Value} {e:Ending} {front l rest:List Oper} {listed:Array Bool} {o:Oper} {ops:Array Oper} {r:List Value} {v0 v1 v2 v3 v4 v5 v6:Value} {vss:List (List Value)}
theorem af(h:p:=by omega):p:=h
theorem ag(h:p:=by decide):p:=h
theorem dD(h:p:=by have:=(Yc.1 hz).1;omega):p:=h
theorem bX(h:p:=by first|trivial|rfl):p:=h
theorem aF(h:p:=by simp):p:=h
theorem ba(h:p:=by kernel_rfl):p:=h
theorem bJ(h:p:=by simp;omega):p:=h
theorem bY(h:p:=by cases h):p:=h
theorem fe(h:p:=by simpa using hr.1):p:=h
theorem tG(h:p:=by simpa using (show (c.vs.map vdF).length=l3 from hr.v.1)):p:=h
theorem zO(h:p:=by rw[YD,if_pos hij];exact Yi _):p:=h
theorem tF(h:p:=by have:=(Yc.1 hj).1;omega):p:=h
theorem tE(h:p:=by rw[Nat.sub_add_cancel hk0];exact HXx.out):p:=h
theorem zM(h:p:=by have:=(Yc.1 ht).1;omega):p:=h
theorem iy(h:p:=by simpa using h):p:=h
theorem zL(h:p:=by rw[YD,if_pos hij];exact hp):p:=h
theorem M5(h:p:=by simpa using (show (c.xs.map xdF).length=l4 from hr.x.1)):p:=h
theorem tX(h:p:=by
 have HB:=HB1;clear HB1;have Bk:=Ck;clear Ck;clear ek;go_wp2_with fail;refine⟨⟨k+1,by omega,by go_num,λj z hj hz=>?_,λj z y hj hz hy=>?_,HB.out,Bk.out⟩,by simp[intOf];omega⟩
 ·exact N9
 ·by_cases e:j+1=k
  ·have hj:j=k - 1:=af
   subst hj;rw[Nat.sub_add_cancel hk0,HXx.out] at hz;obtain rfl:=Yd hz;rw[HXy.out] at hy;obtain rfl:=Yd hy;exact hless
  ·exact HO.out j z y af hz hy):p:=h
theorem tW(h:p:=by
 have HB:=HB1;clear HB1;have Bk:=Ck;clear Ck;clear hd;go_wp2_with fail;refine⟨⟨k+1,by omega,by go_num,λj z hj hz=>?_,λj z y hj hz hy=>?_,HB.out,Bk.out⟩,by simp[intOf];omega⟩
 ·exact N9
 ·by_cases e:j+1=k
  ·exact absurd hk0 af
  ·exact HO.out j z y af hz hy):p:=h
theorem tV(h:p:=by
 by_cases hn:x.n=t
 ·have hq:=aP hn;have HN:=aa hn;clear hn;go_wp2;go_ret;exact⟨ak _ _,Zc ⟨k,x,HX.out,HN.out,rfl⟩⟩
 ·have hq:=bA hn;have HN:=aa hn;clear hn;go_wp2;refine⟨⟨k+1,by omega,by go_num,by rw[ha],λj z hj hz=>?_⟩,by simp[intOf];omega⟩;exact N8):p:=h
theorem ahc(h:p:=by
 have HN:=aa (λh=>hq (hr.2 h));clear hr;go_wp2_with fail;go_ret;exact⟨Y8,rfl,⟨λh=>bY,λh=>(HN.out (h.1)).elim⟩,ak _ _⟩):p:=h
theorem alm(h:p:=by
 have HN:=aa (λh=>hq (hr.2 h));clear hr;go_wp2_with fail;go_ret;exact⟨Y8,rfl,⟨λh=>bY,λh=>(HN.out (h.2.2.1)).elim⟩,ak _ _⟩):p:=h
theorem alk(h:p:=by
 have HN:=aa (λh=>hq (hr.2 h));clear hr;go_wp2_with fail;go_ret;exact⟨Y8,rfl,⟨λh=>bY,λh=>(HN.out (h.2.1)).elim⟩,ak _ _⟩):p:=h
theorem ag_(h:p:=by
 have e:aJ a0 (knAll [] front φs) (λt=>a.tmps.getD t undef)=a:=by
  refine afR ((dJ _ _ _).trans h.size.symm) ((dK _ _ _).trans h.defers.symm) (λt=>jM a0 a _ (λp hp=>?_) t (λhn=>?_))
  ·rcases dU front φs [] hp with ⟨i,o,h1,h2,h3⟩|h1
   ·exact hin o (Yu h1) _ h2
   ·simp at h1
  ·refine h.other t (λi o ho hd=>?_);exfalso;have hi:=(Yc.1 ho).1;have hφ:φs[i]?=Y3 (φs[i]'(by omega)):=Yi _;cases hk:(knAll [] front φs).lookup t with
   | none=>exact (df front φs [] hk).2 i o _ ho hφ hd
   | some φ=>
    have:∃p∈knAll [] front φs,p.1=t:=by
     revert hk
     generalize knAll [] front φs=l
     intro hk
     induction l with
     | nil=>simp at hk
     | cons p l ih=>
      rw[List.lookup_cons] at hk
      cases hb:t==p.1 with
      | true=>exact⟨p,by simp,(by simpa using hb:t=p.1).symm⟩
      | false=>
       rw[hb] at hk;obtain⟨q,hq,he⟩:=ih hk;exact⟨q,by simp[hq],he⟩
    obtain⟨p,hp,he⟩:=this;exact hn p hp he
 rw[e] at h1;exact h1):p:=h
theorem ali(h:p:=by
 have HN:=aa (λh=>hq (hr.2 h));clear hr;go_wp2_with fail;go_ret;exact⟨Y8,rfl,⟨λh=>bY,λh=>(HN.out (h.2.2.2.1)).elim⟩,ak _ _⟩):p:=h
theorem Nx(h:p:=by
 obtain⟨φ,hφ,ho,hr⟩:=h;obtain⟨φs,hl,hs,hf⟩:=Grow.spec l _ hr;refine⟨φ ::φs,by simp[hl],?_,hf⟩;intro i o' φ' h1 h2;cases i with
 | zero=>
  simp only[List.getElem?_cons_zero,Option.some.injEq] at h1 h2;subst h1;subst h2;exact⟨hφ,ho⟩
 | succ i=>
  simp only[List.getElem?_cons_succ] at h1 h2
  simpa[knAll] using hs i o' φ' h1 h2):p:=h
theorem oD(h:p:=by
 obtain⟨b,o,r,h1,h2,h3,h4⟩:=h.at hj;rw[Yt] at h3;obtain⟨x,h5,rfl⟩:=Yz.1 h3;exact⟨b,o,x,h1,h2,h5,h4⟩):p:=h
theorem tQ(h:p:=by
 rintro e w' ⟨hb,h⟩;rcases h with ⟨i,y,h1,h2,rfl⟩|⟨h1,rfl⟩
 ·obtain⟨rfl,_⟩:=hs.inj h1 hx (h2.trans hn.symm);exact⟨rfl,hb⟩
 ·exact absurd hn (h1 j x hx)):p:=h
theorem alg(h:p:=by
 have HN:=aa (λh=>hq (hr.2 h));clear hr;go_wp2_with fail;go_ret;exact⟨Y8,rfl,⟨λh=>bY,λh=>(HN.out (h.2.2.2.2.1)).elim⟩,ak _ _⟩):p:=h
theorem ag4(h:p:=by
 intro j o ho t ht i p hp hd;have z408z:=@aa _ @abe;exact yX):p:=h
theorem ag0(h:p:=by
 induction known with
 | nil=>exact (h (λp hp=>by simp at hp)).symm
 | cons p l ih=>
  have e:aJ a0 (p ::l) (λt=>a.tmps.getD t undef)=(aJ a0 l (λt=>a.tmps.getD t undef)).put (Y3 p.1) (a.tmps.getD p.1 undef):=rfl;rw[e,gT,dJ]
  by_cases hp:p.1=t
  ·subst hp;rw[if_pos ⟨rfl,hk p aF⟩]
  ·rw[if_neg (λh=>hp h.1)]
   exact ih (λq hq=>hk q (by simp[hq])) (λhn=>h (λq hq=>by
    rcases List.mem_cons.1 hq with rfl|hq
    ·exact hp
    ·exact hn q hq))):p:=h
theorem tO(h:p:=by
 go_wp2;go_ret;exact⟨ak _ _,Zb ⟨λj z hz=>HE.out j z dD hz,rfl⟩⟩):p:=h
theorem agY(h:p:=by
 intro t ht;have hne:o.dst≠Y3 t:=λhd=>by
  have:=ht j o ho hd;simp[Yp,hj] at this
 have h1:=h.other t (λi p hp hd=>by
  have h2:=ht i p hp hd
  have e:¬j=i:=λe=>by subst e;exact hne (by rw[Yd (ho.symm.trans hp)];exact hd)
  simpa[Yp,Array.getElem?_setIfInBounds,e] using h2)
 exact N_):p:=h
theorem tN(h:p:=by
 rintro e w' ⟨hb,h⟩;rcases h with ⟨i,y,h1,h2,rfl⟩|⟨h1,rfl⟩
 ·exact absurd h2 (hn i y h1)
 ·exact⟨rfl,hb⟩):p:=h
theorem agS(h:p:=by
 obtain⟨h1,h2⟩:=df l φs (kn o.dst ψ known) h;rw[kB] at h1;by_cases hd:o.dst=Y3 t
 ·rw[if_pos hd] at h1;cases h1
 ·rw[if_neg hd] at h1;refine⟨h1,λi o' φ h3 h4=>?_⟩;cases i with
  | zero=>simp only[List.getElem?_cons_zero,Option.some.injEq] at h3;subst h3;exact hd
  | succ i=>exact h2 i o' φ (by simpa using h3) (by simpa using h4)):p:=h
theorem zW(h:p:=by
 go_wp2;go_round;case rel=>exact⟨k+1,by omega,by go_num,oI hlt HB.out HA.out⟩
 case measure=>simp[intOf];omega):p:=h
theorem agO(h:p:=by
 rcases dU l φs (kn o.dst ψ known) h with ⟨i,o',h1,h2,h3⟩|h
 ·exact Zc ⟨i+1,o',by simpa using h1,h2,by simpa using h3⟩
 ·cases hd:o.dst with
  | none=>rw[hd] at h;exact Zb h
  | some d=>
   rw[hd] at h;simp only[kn,List.mem_cons] at h
   rcases h with rfl|h
   ·exact Zc ⟨0,o,rfl,hd,rfl⟩
   ·exact Zb h):p:=h
theorem agG(h:p:=by
 rcases de l φs (kn o.dst ψ known) h with ⟨i,o',h1,h2,h3⟩|h
 ·exact Zc ⟨i+1,o',by simpa using h1,h2,by simpa using h3⟩
 ·rw[kB] at h;by_cases hd:o.dst=Y3 t
  ·rw[if_pos hd] at h;exact Zc ⟨0,o,rfl,hd,by simpa using h⟩
  ·rw[if_neg hd] at h;exact Zb h):p:=h
theorem pV(h:p:=by
 have:=List.count_le_length (a:=Y8) (l:=(Array.replicate l.toArray.size Y8).toList);simp at this ⊢):p:=h
theorem PR(h:p:=by
 intro j o ho e he;have hj:j<(front++back.toList).toArray.size:=(Yw.1 ho).1;have:=List.all_eq_true.1 h4 j (List.mem_range.2 hj);rw[ho] at this;have:=Array.all_eq_true.1 this;obtain⟨k,hk,rfl⟩:=Array.mem_iff_getElem.1 he;simpa using this k hk):p:=h
theorem vQ(h:p:=by
 go_wp2;go_ret;exact⟨congrArg (λz=>Ending.returned (Y4 Y5 z)) (HS.trans (by rw[YH af])),HB.out⟩):p:=h
theorem vP(h:p:=by
 cases hk:back with
 | none=>rw[hk] at h1;exact h1
 | some o=>
  have h2:=hb o hk;rw[hall _ (by rw[hsz,hk];simp)] at h2
  cases h2):p:=h
theorem PJ(h:p:=by
 rw[Yq,an hg];have hj:j<n:=by have:=(Yc.1 hx).1;omega
 have e1:(cur.toList.take (n*1))[j]?=Y3 (I x):=by rw[htk];simp[hx]
 rw[YD,if_pos af] at e1;simpa using e1):p:=h
theorem ng(h:p:=by
 obtain⟨q,h1,h2⟩:=haty 0 _ rfl;obtain⟨rfl,-⟩:=h2;exact h1):p:=h
theorem vO(h:p:=by
 go_wp2_with (go_at_call 36;refine (p8 _ _ _ _).mono ?_;rintro e w1 ⟨r,rfl,hr,rfl⟩);go_ret;exact⟨r,rfl,hr,rfl⟩):p:=h
theorem PE(h:p:=by
 by_cases h:∃v,aY c t v
 ·exact Zc h
 ·exact Zb (λv hv=>h ⟨v,hv⟩)):p:=h
theorem Pz(h:p:=by
 cases d with
 | none=>simp[kn]
 | some d=>
  simp only[kn,Option.some.injEq,List.lookup_cons]
  by_cases h:d=t
  ·subst h;simp
  ·rw[if_neg h]
   have:(t==d)=Y8:=by simpa using λe=>h e.symm
   rw[this]):p:=h
theorem Pu(h:p:=by
 obtain⟨h1,h2,h3,h5⟩:=h;refine⟨h1,h2,h3,?_⟩;rcases h5 with h5|⟨b,o,rfl,hlt,hc⟩
 ·exact Or.inl h5
 ·exact Or.inr ⟨b,o,rfl,Yj hlt hb.size,λj v hv=>(hc j v hv).below hlt hb⟩):p:=h
theorem ajN(h:p:=by
 have HN:=aa (λh=>hq (hr.2 h));clear hsl hb hb1 hr;go_wp2_with fail;go_ret;exact⟨Y8,rfl,⟨λh=>bY,λh=>(HN.out (ic h.2.2.2.2.2.2)).elim⟩,HB.out⟩):p:=h
theorem pU(h:p:=by
 go_wp2;go_ret;exact⟨Y8,rfl,by unfold aO;simp;omega,rfl⟩):p:=h
theorem pT(h:p:=by
 clear HQ;go_wp2;go_ret;exact ar.t ⟨HQ1.out,HQ2.out⟩ HB.out):p:=h
theorem vH(h:p:=by
 obtain⟨l',rfl⟩:=List.getLast?_eq_some_iff.1 hb;rw[<-hf];simp):p:=h
theorem O1(h:p:=by
 go_wp2;go_ret;refine⟨Y_,rfl,?_,rfl⟩;simp only[true_iff];exact⟨by omega,by omega,λi h=>HA.out i h af⟩):p:=h
theorem OQ(h:p:=by
 rw[if_pos hw];exact h a w K h1 h2 (λt ht=>h3 t (by unfold Oper.looksAt;exact List.mem_append_left _ ht)) h4):p:=h
theorem OO(h:p:=by
 rcases h5 with h5|⟨b,o,rfl,hlt,hc⟩
 ·subst h5;simp at h1;omega
 ·exact⟨b,o,_,rfl,hlt,hx,hc j _ hx⟩):p:=h
theorem ON(h:p:=by
 show _=_;rw[kv HX.out,if_neg (λh=>by have:=HI.2 h;cases this),<-HS.out,Int.add_zero]):p:=h
theorem OM(h:p:=by
 rcases Nat.lt_or_ge b w.heap.size with h1|h1
 ·exact h1
 ·rw[Array.getElem?_eq_none h1] at h;cases h):p:=h
theorem OJ(h:p:=by
 rw[ht,gT,if_pos ⟨rfl,by rw[h.size];exact hin o (Yu ho) t ht⟩];exact hv):p:=h
theorem Ol(h:p:=by
 obtain⟨h6,h7⟩:=this;obtain⟨k,hk,hx⟩:=Array.any_eq_true.1 h7;simp only[YE,beq_iff_eq] at hx;exact⟨h6,_,Array.getElem_mem hk,hx.1,hx.2⟩):p:=h
theorem Oi(h:p:=by
 rintro e w1 ⟨r,rfl,hr,rfl⟩;go_wp2_with fail;go_ret;exact⟨r,rfl,⟨λh=>⟨h0.out,h1.out,h2.out,hr.1 h⟩,λh=>hr.2 h.2.2.2⟩,ak _ _⟩):p:=h
theorem Od(h:p:=by
 rintro e w1 ⟨r,rfl,hr,rfl⟩;go_wp2_with fail;go_ret;exact⟨r,rfl,⟨λh=>⟨h0.out,hr.1 h⟩,λh=>hr.2 h.2⟩,ak _ _⟩):p:=h
theorem N_(h:p:=by
 cases hd:o.dst with
 | none=>exact h1
 | some d=>
  rw[gT,if_neg (λhx=>hne (hd.trans (by rw[hx.1])))];exact h1):p:=h
theorem N9(h:p:=by
 by_cases e:j=k
 ·subst e;rw[HXx.out] at hz;obtain rfl:=Yd hz;exact HOK.out
 ·exact HQ.out j z af hz):p:=h
theorem N8(h:p:=by
 by_cases e:j=k
 ·subst e;rw[HX.out] at hz;obtain rfl:=Yd hz;exact HN.out
 ·exact HE.out j z af hz):p:=h
theorem N5(h:p:=by
 go_wp2;go_ret;exact⟨Y8,rfl,⟨λh=>bY,λh=>absurd (h.2.2.2.2.2.1 rfl) hm0⟩,ak _ _⟩):p:=h
theorem ak2(h:p:=by
 have z334z:=@aa _ @ab6;exact zn):p:=h
theorem pQ(h:p:=by
 have z415z:=@aa _ @aba;exact yW):p:=h
theorem agz(h:p:=by
 have v1w:=λq:Wd w2=>(q.cell hbv).trans v1;have v3w:=λq:Wd w2=>(q.cell hbv).trans v3;have v4w:=λq:Wd w2=>(q.cell hbv).trans v4;have v5w:=λq:Wd w2=>(q.cell hbv).trans v5;have hne0:=Wd.ne w2;exact Yb v1w (Yb v3w (Yb v4w (Yb v5w hne0)))):p:=h
theorem Ng(h:p:=by
 have HW:=HB;have k1:=λq:Wd wr=>q.slot (o:=1) Gk.out rfl;have z415z:=@aa _ @aa_;exact yW):p:=h
theorem er(h:p:=by
 have Ck:=upK Gk q1.b;have Cr:=upK Gr q1.b;exact Yb Ck Cr):p:=h
theorem Nf(h:p:=by
 have z1344z:=@aa _ @Ir;exact sx):p:=h
theorem tL(h:p:=by
 have x5:=λq:Wd wr=>(q.cell hb).trans c5;have x6:=λq:Wd wr=>(q.cell hb).trans c6;exact Yb x5 x6):p:=h
theorem gN(h:p:=by
 have Gk:=Bk;have Gr:=Br;have HW:=HB;exact Yb Gk (Yb Gr HW)):p:=h
theorem tK(h:p:=by
 have yw:=λq:Wd wr=>(q.cell hb).trans y0;have hne0:=Wd.ne wr;exact Yb yw hne0):p:=h
theorem akQ(h:p:=by
 have HB1:=upB HW q.b;have Ck:=upK Gk q.b;exact Yb HB1 Ck):p:=h
theorem jK(h:p:=by
 have HB2:=upB HW q2.b;have Ck:=upK Gk q2.b;exact Yb HB2 Ck):p:=h
theorem agn(h:p:=by
 have yw:=λq:Wd w1=>(q.cell hbv).trans hcv;have hne0:=Wd.ne w1;have HC0:=aa (λq:Wd w1=>dF ⟨a1,l1,y1,a2,l2,y2,(Y3 ⟨b,o,U⟩),l3,y3,(Y3 ⟨b4,o4,U⟩),l4,y4,a5,l5,y5⟩ c.now c.ks v.k q.w (HR.k.below (HW.trans (q.b.mono HW.size))) HKS.out HG1.out HG2.out);exact Yb yw (Yb hne0 HC0)):p:=h
theorem iz(h:p:=by
 have HB1:=upB HW q1.b;have Ck:=upK Gk q1.b;exact Yb HB1 Ck):p:=h
theorem tJ(h:p:=by
 have HW:=HB;have k3:=λq:Wd wr=>q.slot (o:=3) Gk.out rfl;exact Yb HW k3):p:=h
theorem M8(h:p:=by
 have HW:=HB;have k4:=λq:Wd wr=>q.slot (o:=4) Gk.out rfl;exact Yb HW k4):p:=h
theorem agf(h:p:=by
 have hne0:=Wd.ne w1;have HC0:=aa (λq:Wd w1=>dF ⟨a1,l1,y1,a2,l2,y2,(Y3 ⟨b,o,U⟩),l3,y3,a4,l4,y4,a5,l5,y5⟩ c.now c.ks v.k q.w (HR.k.below (HW.trans (q.b.mono HW.size))) HKS.out HG1.out HG2.out);exact Yb hne0 HC0):p:=h
theorem mY(h:p:=by
 have hd:decide ((0:Int)<k)=Y8:=by simp;omega
 have Gk:=Bk;exact Yb hd Gk):p:=h
theorem iH(h:p:=by
 have HX:=aa hx;have HV:=aa hv;have HNE:=aa hne;exact Yb HX (Yb HV HNE)):p:=h
theorem ai6(h:p:=by
 have Gk:Hid (wr.heap[w.heap.size]?=Y3 (Y6 (clo6 (Y3 ⟨b,o,U⟩) l1 y1 a2 l2 y2 a3 l3 y3 a4 l4 y4 a5 l5 y5 c.now) 29 (0,0))):=Bk.out;have HW:=HB;have k0:=λq:Wd wr=>q.slot (o:=0) Gk.out rfl;exact Yb Gk (Yb HW k0)):p:=h
theorem ai5(h:p:=by
 have Gk:Hid (wr.heap[w.heap.size]?=Y3 (Y6 (clo6 a1 l1 y1 a2 l2 y2 (Y3 ⟨b,o,U⟩) l3 y3 a4 l4 y4 a5 l5 y5 c.now) 29 (0,0))):=Bk.out;have HW:=HB;have k2:=λq:Wd wr=>q.slot (o:=2) Gk.out rfl;exact Yb Gk (Yb HW k2)):p:=h
theorem akC(h:p:=by
 rintro _ ⟨q2,rfl⟩;obtain⟨HB2,Ck⟩:=jK;have Cx:=upK Gx q2.b;have Cy:=upK Gy q2.b;clear hne0 HW HB k2 x3 y3 tw vw Gk Gx Gy Bk Bx By;have z634z:=@aa _ @V4;exact po):p:=h
theorem akB(h:p:=by
 rintro _ ⟨q2,rfl⟩;obtain⟨HB2,Ck⟩:=jK;have Cx:=upK Gx q2.b;have Cy:=upK Gy q2.b;clear hne0 HW HB k2 x3 y3 Gk Gx Gy Bk Bx By;have z634z:=@aa _ @V3;exact po):p:=h
theorem akA(h:p:=by
 rintro _ ⟨qz,rfl⟩;have HB3:=upB HW qz.b;have Ck:=upK Gk qz.b;have Cr:=upK Gr qz.b;clear hne0 HW HB k2 r0 r1 r2 r3 r4 v1w v3w v4w v5w Gk Gr Bk Br pr v1 v3 v4 v5 hbv;have HB:=HB3;clear HB3;have Bk:=Ck;clear Ck;have Br:=Cr;clear Cr;clear q1 q2 q3 q4;have z613z:=@aa _ @Wk;exact lk):p:=h
theorem akz(h:p:=by
 rintro _ ⟨q1,rfl⟩;have HB3:=upB HW q1.b;obtain⟨Ck,Cr⟩:=er;clear hne0 HW HB k2 r0 r1 r2 r3 r4 Gk Gr Bk Br pr;have HB:=HB3;clear HB3;have z988z:=@aa _ @Rf;exact jc):p:=h
theorem aky(h:p:=by
 have z514z:=@aa _ @XR;exact ll):p:=h
theorem akx(h:p:=by
 have z514z:=@aa _ @XQ;exact ll):p:=h
theorem akw(h:p:=by
 have z514z:=@aa _ @XP;exact ll):p:=h
theorem akv(h:p:=by
 have z514z:=@aa _ @XO;exact ll):p:=h
theorem bC(h:p:=by
 go_wp2_with fail;have z761z:=@aa _ @Uq;exact pg):p:=h
theorem ail(h:p:=by
 have z710z:=@aa _ @U2;exact yx):p:=h
theorem aik(h:p:=by
 have z710z:=@aa _ @U1;exact yx):p:=h
theorem aij(h:p:=by
 have z663z:=@aa _ @VE;exact yB):p:=h
theorem aii(h:p:=by
 have z1032z:=@aa _ @My;exact mS):p:=h
theorem aih(h:p:=by
 repeat (go_big_quiet_step (first|(go_at_call 90;exact Calls.wide (HC0.out _))|fail))
 have z638z:=@aa _ @V1;exact bO):p:=h
theorem aif(h:p:=by
 repeat (go_big_quiet_step (first|(go_at_call 90;exact Calls.wide (HC0.out _))|fail))
 have z638z:=@aa _ @V0;exact bO):p:=h
theorem aie(h:p:=by
 repeat (go_big_quiet_step (first|(go_at_call 90;exact Calls.wide (HC0.out _))|fail))
 have z638z:=@aa _ @VZ;exact bO):p:=h
theorem aid(h:p:=by
 repeat (go_big_quiet_step (first|(go_at_call 90;exact Calls.wide (HC0.out _))|fail))
 have z638z:=@aa _ @VY;exact bO):p:=h
theorem aic(h:p:=by
 repeat (go_big_quiet_step (first|(go_at_call 91;exact Calls.wide (HC0.out _))|fail))
 have z638z:=@aa _ @VX;exact bO):p:=h
theorem aib(h:p:=by
 repeat (go_big_quiet_step (first|(go_at_call 91;exact Calls.wide (HC0.out _))|fail))
 have z638z:=@aa _ @VW;exact bO):p:=h
theorem aia(h:p:=by
 repeat (go_big_quiet_step (first|(go_at_call 91;exact Calls.wide (HC0.out _))|fail))
 have z638z:=@aa _ @VV;exact bO):p:=h
theorem ah_(h:p:=by
 repeat (go_big_quiet_step (first|(go_at_call 91;exact Calls.wide (HC0.out _))|fail))
 have z638z:=@aa _ @VU;exact bO):p:=h
theorem ah9(h:p:=by
 repeat (go_big_quiet_step (first|(go_at_call 92;exact Calls.wide (HC0.out _))|fail))
 have z638z:=@aa _ @VT;exact bO):p:=h
theorem ah8(h:p:=by
 repeat (go_big_quiet_step (first|(go_at_call 92;exact Calls.wide (HC0.out _))|fail))
 have z638z:=@aa _ @VS;exact bO):p:=h
theorem ah7(h:p:=by
 repeat (go_big_quiet_step (first|(go_at_call 92;exact Calls.wide (HC0.out _))|fail))
 have z638z:=@aa _ @VR;exact bO):p:=h
theorem ah6(h:p:=by
 repeat (go_big_quiet_step (first|(go_at_call 92;exact Calls.wide (HC0.out _))|fail))
 have z638z:=@aa _ @VQ;exact bO):p:=h
theorem ah5(h:p:=by
 repeat (go_big_quiet_step (first|(go_at_call 93;exact Calls.wide (HC0.out _))|fail))
 have z638z:=@aa _ @VP;exact bO):p:=h
theorem ah4(h:p:=by
 repeat (go_big_quiet_step (first|(go_at_call 93;exact Calls.wide (HC0.out _))|fail))
 have z638z:=@aa _ @VO;exact bO):p:=h
theorem ah3(h:p:=by
 repeat (go_big_quiet_step (first|(go_at_call 93;exact Calls.wide (HC0.out _))|fail))
 have z638z:=@aa _ @VN;exact bO):p:=h
theorem ah2(h:p:=by
 repeat (go_big_quiet_step (first|(go_at_call 93;exact Calls.wide (HC0.out _))|fail))
 have z638z:=@aa _ @VM;exact bO):p:=h
theorem ah1(h:p:=by
 repeat (go_big_quiet_step (first|(go_at_call 94;exact Calls.wide (HC0.out _))|fail))
 have z638z:=@aa _ @VL;exact bO):p:=h
theorem ah0(h:p:=by
 repeat (go_big_quiet_step (first|(go_at_call 94;exact Calls.wide (HC0.out _))|fail))
 have z638z:=@aa _ @VK;exact bO):p:=h
theorem ahZ(h:p:=by
 repeat (go_big_quiet_step (first|(go_at_call 94;exact Calls.wide (HC0.out _))|fail))
 have z638z:=@aa _ @VJ;exact bO):p:=h
theorem ahY(h:p:=by
 repeat (go_big_quiet_step (first|(go_at_call 94;exact Calls.wide (HC0.out _))|fail))
 have z638z:=@aa _ @VI;exact bO):p:=h
theorem ahX(h:p:=by
 have z505z:=@aa _ @XZ;exact fb):p:=h
theorem ahW(h:p:=by
 have z505z:=@aa _ @XY;exact fb):p:=h
theorem ahV(h:p:=by
 have z505z:=@aa _ @XX;exact fb):p:=h
theorem ahU(h:p:=by
 have z505z:=@aa _ @XW;exact fb):p:=h
theorem ahT(h:p:=by
 have z505z:=@aa _ @XV;exact fb):p:=h
theorem aC(h:p:=by
 have z1202z:=@aa _ @Kj;exact bQ):p:=h
theorem adF(h:p:=by
 have z1503z:=@aa _ @N5;exact jt):p:=h
theorem adE(h:p:=by
 have z607z:=@aa _ @Wp;exact yG):p:=h
theorem adD(h:p:=by
 have z607z:=@aa _ @Wo;exact yG):p:=h
theorem pP(h:p:=by
 refine (oK c _).mono ?_;have z572z:=@aa _ @WU;exact fR):p:=h
theorem adw(h:p:=by
 refine (bU z _ hz).mono ?_;have z572z:=@aa _ @WT;exact fR):p:=h
theorem adv(h:p:=by
 refine (gZ z _ hz).mono ?_;exact Od):p:=h
theorem adu(h:p:=by
 refine (oK z _).mono ?_;have z572z:=@aa _ @WS;exact fR):p:=h
theorem adt(h:p:=by
 refine (uv c _).mono ?_;have z572z:=@aa _ @WR;exact fR):p:=h
theorem fc(h:p:=by
 rintro e w1 ⟨r,rfl,hr,rfl⟩;by_cases hq:r=Y_;case neg=>
  exact ahc
 have h0:=aa (hr.1 hq);subst hq;clear hr;go_wp2_with fail;exact z224z):p:=h
theorem acP(h:p:=by
 have HX:=aa hx;have HT:=aa hvr;clear hat hx z0 z2 z3 z5 hvr;go_wp2_with fail;refine (bW va vl vc v.zs t _ HT.out).mono ?_;rintro e w1 ⟨r,rfl,hi,hb2⟩;replace Bk:=upK Bk hb2;replace HB:=upB HB hb2;clear hb2;have HI:=aa hi;clear hi hb kk c0 c1 c2 c3 c4 c5 c6 c7;cases r
 ·go_wp2;refine⟨⟨k+1,s,by omega,rfl,by go_num,?_,by omega,by omega,HB.out,Bk.out⟩,by simp[intOf];omega⟩;exact ON
 ·go_wp2;refine⟨⟨k+1,s+1,by omega,by go_num,by go_num,?_,by omega,by omega,HB.out,Bk.out⟩,by simp[intOf];omega⟩;show _=_;rw[kv HX.out,if_pos (HI.1 bX),<-HS.out]):p:=h
theorem fS(h:p:=by
 obtain⟨va,vl,vc,hvr,z0,z2,z3,z5,c0,c1,c2,c3,c4,c5,c6,c7⟩:=bh hat;exact z278z):p:=h
theorem ab6(h:p:=by
 have hl2:c.ks.length=l2:=by simpa using (show (c.ks.map kdF).length=l2 from hr.k.1)
 have hm2:l2<=9223372036854775807:=Yl hr.k.2.1 hr.k.2.2.1;have z1298z:=@aa _ @I3;exact sG):p:=h
theorem zn(h:p:=by
 have z1370z:=@aa _ @Hy;exact sk):p:=h
theorem abA(h:p:=by
 have hend:∀(listed:Array Bool) (a:Act) (w:World),listed.size=ops.size->(∀i,i<ops.size->listed.getD i Y8=Y_)->(∀o,back=Y3 o->listed.getD front.length Y8=Y8)->At front φs W a0 listed a w->Q .normal a w:=by
  intro listed a w hz hall hb h;have h1:=hf.last hlen hin h (λi hi=>hall i af);exact vP
 intro fuel;induction fuel with
 | zero=>
  intro listed a w hz hc hb h;have hall:∀i,i<ops.size->listed.getD i Y8=Y_:=λi hi=>gP af i af;refine⟨?_,hend listed a w hz hall hb h⟩
  cases hr:YR .any ops listed with
  | nil=>rfl
  | cons j js=>
   have hm:j∈YR .any ops listed:=by rw[hr];simp
   obtain⟨h1,o,ho,-⟩:=mem_ready.1 hm;have hj:=(Yw.1 ho).1;rw[<-dm af,hall j hj] at h1
   cases h1
 | succ fuel ih=>
  intro listed a w hz hc hb h;refine⟨λhr=>hend listed a w hz (iN hz hlt hr) hb h,λj hj=>?_⟩;obtain⟨hun,o,ho,hall⟩:=mem_ready.1 hj;have hjs:j<ops.size:=(Yw.1 ho).1;have hcs:=count_set (listed:=listed) (i:=j) af hun
  by_cases hjf:j<front.length
  ·have hof:front[j]?=Y3 o:=by rw[hops] at ho;simpa[Yv hjf] using ho
   have hφ:φs[j]?=Y3 (φs[j]'(by omega)):=Yi _;obtain⟨hm,hob⟩:=hs j o _ hof hφ
   have hfacts:∀t∈o.looksAt ops,aj a0 (knAll [] (front.take j) (φs.take j)) a w t:=by
    intro t ht;unfold aj
    cases hk:(knAll [] (front.take j) (φs.take j)).lookup t with
    | some φ=>
     rcases de _ _ _ hk with ⟨i,p,h1,h2,h3⟩|h1
     ·have hij:i<j:=by have:=(Yc.1 h1).1;simp at this;omega
      rw[YD,if_pos hij] at h1 h3;obtain⟨-,e,he,hon,hbi⟩:=hdep j o hof t ht i p h1 h2;have hl:=hall e he hbi;rw[hon] at hl;exact h.known i p φ h1 h3 t h2 hl
     ·simp at h1
    | none=>
     refine h.other t (λi p hp hd=>?_)
     exfalso
     obtain⟨hij,-⟩:=hdep j o hof t ht i p hp hd;have hi:=(Yc.1 hp).1;exact (df _ _ _ hk).2 i p (φs[i]'(by omega)) zL zO hd
   have h1:=hob a w (wpAny P .any ops Q fuel (listed.setIfInBounds j Y_)) h.size h.below hfacts (λv w' hbw hv=>by
    refine ih _ _ _ (by simpa using hz) af (λo' ho'=>?_) (h.step hn hin (λi o φ h1 h2=>(hs i o φ h1 h2).1) hof hφ af hbw hv);have h2:=hb o' ho'
    have e:¬j=front.length:=af
    simpa[Yp,Array.getElem?_setIfInBounds,e] using h2)
   unfold wpOp;rw[ho]
   simp only
   split
   ·rename_i hw;rw[if_pos hw] at h1;exact Zc h1
   ·rename_i hw;rw[if_neg hw] at h1;exact h1
  ·cases hk:back with
   | none=>rw[hk] at hsz;simp at hsz;omega
   | some b=>
    have hjn:j=front.length:=by rw[hk] at hsz;simp at hsz;omega
    subst hjn
    have hob:o=b:=by
     rw[hops,hk] at ho
     simp at ho
     exact ho.symm
    subst hob
    have hfl:∀i,i<front.length->listed.getD i Y8=Y_:=λi hi=>by
     obtain⟨e,he,hon,hbi⟩:=hback o hk i hi;have:=hall e he hbi
     rwa [hon] at this
    have h1:=hf.last hlen hin h hfl;rw[hk] at h1
    have h2:=h1 (wpAny P .any ops Q fuel (listed.setIfInBounds front.length Y_)) (λa' w' hq=>by
     have hr:YR .any ops (listed.setIfInBounds front.length Y_)=[]:=by
      cases hr:YR .any ops (listed.setIfInBounds front.length Y_) with
      | nil=>rfl
      | cons i is=>
       have hm:i∈YR .any ops (listed.setIfInBounds front.length Y_):=by rw[hr];simp
       obtain⟨h3,o',ho',-⟩:=mem_ready.1 hm;have hi:=(Yw.1 ho').1
       exfalso
       by_cases e:front.length=i
       ·subst e
        simp[Yp,show front.length<listed.size from by omega] at h3
       ·have h4:=hfl i (by rw[hk] at hsz;simp at hsz;omega);rw[dm af] at h4
        simp[Yp,e] at h3 h4
        rw[h3] at h4
        cases h4
     cases fuel with
     | zero=>exact⟨hr,hq⟩
     | succ fuel=>exact⟨λ_=>hq,λi hi=>by rw[hr] at hi;cases hi⟩)
    unfold wpOp;rw[ho]
    simp only
    split
    ·rename_i hw;rw[if_pos hw] at h2;exact Zc h2
    ·rename_i hw;rw[if_neg hw] at h2;exact h2):p:=h
theorem pF(h:p:=by
 obtain⟨hn,hin,hdep,hlt,hback⟩:=fX hB;rw[<-hops] at hdep hlt;have hsz:ops.size=front.length+back.toList.length:=by rw[hops];simp
 exact z378z):p:=h
theorem abe(h:p:=by
 have:=List.all_eq_true.1 this t ht;have:=List.all_eq_true.1 this i (List.mem_range.2 hi);rw[hp] at this;simp only[hd,bne_self_eq_false,Bool.false_or,YE,decide_eq_true_eq] at this;exact Ol):p:=h
theorem yX(h:p:=by
 have hj:j<front.length:=(Yc.1 ho).1;have hi:i<front.length:=(Yc.1 hp).1;have:=List.all_eq_true.1 h3 j (List.mem_range.2 hj);rw[ho] at this;exact z408z):p:=h
theorem aba(h:p:=by
 have x4:=λq:Wd wr=>(q.cell hb).trans c4;exact Yb x0 (Yb x1 (Yb x2 (Yb x3 x4)))):p:=h
theorem aa_(h:p:=by
 exact Yb HW (Yb k1 (Yb x0 (Yb x1 (Yb x2 x3))))):p:=h
theorem yW(h:p:=by
 have x0:=λq:Wd wr=>(q.cell hb).trans c0;have x1:=λq:Wd wr=>(q.cell hb).trans c1;have x2:=λq:Wd wr=>(q.cell hb).trans c2;have x3:=λq:Wd wr=>(q.cell hb).trans c3;exact z415z):p:=h
theorem aa7(h:p:=by
 go_enter Tryz.func100,Tryz.ntmps100;go_wp2;go_loopw [5,6] (λq i wr=> ∃(k:Nat) (s:Int),k<=l5/\q=Y4 Y5 s/\i=Y4 Y5 k/\Hid (s=cpuOf t (ps.take k))/\0<=s/\s<=k*1000000/\wr=w.alloc (Y6 #[J a1 l1 y1,J a2 l2 y2,J a3 l3 y3,J a4 l4 y4,J a5 l5 y5,Y4 Y5 now] 29)) (λ_ i _=>l5 - (intOf i).toNat);case atStart=>exact⟨0,0,by omega,rfl,rfl,rfl,by omega,by omega,rfl⟩
 case round=>
  obtain⟨k,s,hk,rfl,rfl,HS,hs0,hs1,rfl⟩:=hrel;by_cases hlt:k<l5
  ·obtain⟨b,o,p,rfl,hb,hx,hat⟩:=cq HR.out hlt;have z1011z:=@aa _ @MP;exact dv
  ·obtain rfl:l5=k:=af
   go_wp2;go_ret;exact⟨congrArg (λz=>Ending.returned (Y4 Y5 z)) (HS.trans (by rw[YH af])),ak _ _⟩):p:=h
theorem yU(h:p:=by
 obtain⟨a1,l1,y1,a2,l2,y2,a3,l3,y3,a4,l4,y4,a5,l5,y5⟩:=d;dsimp only at hr ⊢;have HR:=aa hr;have hxl:ps.length=l5:=fe
 have HP:=aa hp;clear hr hp;exact z421z):p:=h
theorem aa3(h:p:=by
 obtain⟨v3,h3,rfl,z3⟩:=h 3 _ rfl;obtain⟨v4,h4,rfl⟩:=h 4 _ rfl;obtain⟨v5,h5,rfl,z5⟩:=h 5 _ rfl;obtain⟨v6,h6,rfl⟩:=h 6 _ rfl;obtain⟨v7,h7,a,len,cap,rfl,hr⟩:=h 7 _ rfl;exact⟨a,len,cap,hr,z0,z2,z3,z5,h0,h1,h2,h3,h4,h5,h6,h7⟩):p:=h
theorem aa2(h:p:=by
 obtain⟨v3,h3,rfl⟩:=h 3 _ rfl;obtain⟨v4,h4,rfl,z4⟩:=h 4 _ rfl;exact⟨z0,z2,z4,h0,h1,h2,h3,h4⟩):p:=h
theorem aa1(h:p:=by
 obtain⟨v3,h3,a,len,cap,rfl,hr⟩:=h 3 _ rfl;obtain⟨v4,h4,rfl,z4⟩:=h 4 _ rfl;obtain⟨v5,h5,rfl⟩:=h 5 _ rfl;exact⟨a,len,cap,hr,z0,z2,z4,h0,h1,h2,h3,h4,h5⟩):p:=h
theorem pC(h:p:=by
 obtain⟨v0,h0,rfl,z0⟩:=h 0 _ rfl;obtain⟨v1,h1,rfl⟩:=h 1 _ rfl;obtain⟨v2,h2,rfl,z2⟩:=h 2 _ rfl;exact z427z):p:=h
theorem aaR(h:p:=by
 by_cases hL1:(6:Int)<l1
 ·go_enter Tryz.func50,Tryz.ntmps50;go_wp2;go_ret;exact ar.f (λh=>by have:=h.1.1;omega) (ak _ _)
 by_cases hL2:(8:Int)<l2
 ·go_enter Tryz.func50,Tryz.ntmps50;go_wp2;go_ret;exact ar.f (λh=>by have:=h.2.1.1;omega) (ak _ _)
 by_cases hL3:(8:Int)<l3
 ·go_enter Tryz.func50,Tryz.ntmps50;go_wp2;go_ret;exact ar.f (λh=>by have:=h.2.2.1.1;omega) (ak _ _)
 by_cases hL4:(8:Int)<l4
 ·go_enter Tryz.func50,Tryz.ntmps50;go_wp2;go_ret;exact ar.f (λh=>by have:=h.2.2.2.1.1;omega) (ak _ _)
 by_cases hL5:(8:Int)<l5
 ·go_enter Tryz.func50,Tryz.ntmps50;go_wp2;go_ret;exact ar.f (λh=>by have:=h.2.2.2.2.1;omega) (ak _ _)
 go_enter Tryz.func50,Tryz.ntmps50;go_wp2;go_loopw [3] (λi wr=> ∃k:Nat,k<=l1/\i=Y4 Y5 k/\Hid (∀(j:Nat) z,j<k->c.ns[j]?=Y3 z->vV z)/\Hid (∀(j:Nat) z u,j+1<k->c.ns[j+1]?=Y3 z->c.ns[j]?=Y3 u->Yk u.n.toList z.n.toList=Y_)/\Hid (Below w.heap.size w wr)/\Hid (wr.heap[w.heap.size]?=Y3 (Y6 (clo6 a1 l1 y1 a2 l2 y2 a3 l3 y3 a4 l4 y4 a5 l5 y5 c.now) 29 (0,0)))) (λi _=>l1 - (intOf i).toNat);case atStart=>exact⟨0,by omega,rfl,λ_ _ h=>absurd h af,λ_ _ _ h=>absurd h af,ak _ _,Yg⟩
 case round=>
  obtain⟨k,hk,rfl,HQ,HO,HB,Bk⟩:=hrel;have pk:=ck0 Bk;by_cases hlt:k<l1
  ·obtain⟨b,o,x,rfl,hb,hx,hat⟩:=dn (HR.n.below HB.out) hlt;obtain⟨va,vl,vc,hvr,z0,z1,c0,c1,c2,c3,c4,c5,c6⟩:=aZ hat;have HXx:=aa hx;have HTx:=aa hvr;have HZx0:=aa z0;have HZx1:=aa z1;clear hat hx z0 z1 hvr;by_cases hok:vV x;rotate_left
   ·have HOK:=aa hok;clear hok;have Gk:=Bk;have HW:=HB;have k0:=λq:Wd wr=>q.slot (o:=0) Gk.out rfl;obtain⟨x0,x1,x2,x3,x4⟩:=pQ;obtain⟨x5,x6⟩:=tL;have hne0:=Wd.ne wr;have HC0:=aa (λq:Wd wr=>(n7 x.n x.z x.c x.s x.u x.d va vl vc x.zs q.w HZx0.out HZx1.out (HTx.below q.b)).mono (λ_ _ h=>ar.no h HOK.out));have z53z:=@aa _ @aih;exact aC
   have HOK:=aa hok;clear hok;by_cases hk0:0<k;rotate_left
   ·obtain⟨hd,Gk⟩:=mY;have HW:=HB;have k0:=λq:Wd wr=>q.slot (o:=0) Gk.out rfl;obtain⟨x0,x1,x2,x3,x4⟩:=pQ;obtain⟨x5,x6⟩:=tL;have hne0:=Wd.ne wr;have z1376z:=@aa _ @Hu;exact si
   have ek:((k:Int) - 1).toNat=k - 1:=af
   obtain⟨b',o',y,e',hb',hy,haty⟩:=dn (HR.n.below HB.out) (show k - 1<l1 by omega);cases e';have y0:wr.cell? ⟨b,o+(k - 1)*7,U⟩=Y3 (I y.n):=by
    exact ng
   have HXy:=aa hy;clear hy haty;cases hless:Yk y.n.toList x.n.toList
   ·have z1026z:=@aa _ @MC;exact tr
   ·have z1026z:=@aa _ @MB;exact tr
  ·obtain rfl:l1=k:=af
   have HR1:Hid (eT vV Nd.n c.ns 6):=⟨by omega,λj z hz=>HQ.out j z dD hz,λj z u hz hu=>HO.out j z u dD hz hu⟩;clear HQ HO;skip;have kc:=ck1 Bk;go_wp2;go_loopw [4] (λi wr=> ∃k:Nat,k<=l2/\i=Y4 Y5 k/\Hid (∀(j:Nat) z,j<k->c.ks[j]?=Y3 z->wk z)/\Hid (∀(j:Nat) z u,j+1<k->c.ks[j+1]?=Y3 z->c.ks[j]?=Y3 u->Yk u.n.toList z.n.toList=Y_)/\Hid (Below w.heap.size w wr)/\Hid (wr.heap[w.heap.size]?=Y3 (Y6 (clo6 a1 l1 y1 a2 l2 y2 a3 l3 y3 a4 l4 y4 a5 l5 y5 c.now) 29 (0,0)))) (λi _=>l2 - (intOf i).toNat);case atStart=>exact⟨0,by omega,rfl,λ_ _ h=>absurd h af,λ_ _ _ h=>absurd h af,HB.out,Bk.out⟩
   case round=>
    obtain⟨k,hk,rfl,HQ,HO,HB,Bk⟩:=hrel;have pk:=ck1 Bk;by_cases hlt:k<l2
    ·obtain⟨b,o,x,rfl,hb,hx,hat⟩:=gu (HR.k.below HB.out) hlt;obtain⟨z0,z3,c0,c1,c2,c3⟩:=dh hat;have HXx:=aa hx;have HZx0:=aa z0;have HZx3:=aa z3;clear hat hx z0 z3;by_cases hok:wk x;rotate_left
     ·have HOK:=aa hok;clear hok;have Gk:=Bk;obtain⟨HW,k1,x0,x1,x2,x3⟩:=Ng;have hne0:=Wd.ne wr;have HC0:=aa (λq:Wd wr=>(iG x.n x.z x.x x.y q.w HZx0.out HZx3.out).mono (λ_ _ h=>ar.no h HOK.out));have z53z:=@aa _ @aic;exact aC
     have HOK:=aa hok;clear hok;by_cases hk0:0<k;rotate_left
     ·obtain⟨hd,Gk⟩:=mY;obtain⟨HW,k1,x0,x1,x2,x3⟩:=Ng;have hne0:=Wd.ne wr;have HC0:=aa (λq:Wd wr=>(iG x.n x.z x.x x.y q.w HZx0.out HZx3.out).mono (λ_ _ h=>ar.yes h HOK.out));have z53z:=@aa _ @aib;exact aC
     have ek:((k:Int) - 1).toNat=k - 1:=af
     obtain⟨b',o',y,e',hb',hy,haty⟩:=gu (HR.k.below HB.out) (show k - 1<l2 by omega);cases e';have y0:wr.cell? ⟨b,o+(k - 1)*4,U⟩=Y3 (I y.n):=by
      exact ng
     have HXy:=aa hy;clear hy haty;cases hless:Yk y.n.toList x.n.toList
     ·have z975z:=@aa _ @Rp;exact xD
     ·have z975z:=@aa _ @Ro;exact xD
    ·obtain rfl:l2=k:=af
     have HR2:Hid (eT wk Kd.n c.ks 8):=⟨by omega,λj z hz=>HQ.out j z dD hz,λj z u hz hu=>HO.out j z u dD hz hu⟩;clear HQ HO;skip;have kc:=ck2 Bk;go_wp2;go_loopw [5] (λi wr=> ∃k:Nat,k<=l3/\i=Y4 Y5 k/\Hid (∀(j:Nat) z,j<k->c.vs[j]?=Y3 z->qJ z)/\Hid (∀(j:Nat) z u,j+1<k->c.vs[j+1]?=Y3 z->c.vs[j]?=Y3 u->Yk u.n.toList z.n.toList=Y_)/\Hid (Below w.heap.size w wr)/\Hid (wr.heap[w.heap.size]?=Y3 (Y6 (clo6 a1 l1 y1 a2 l2 y2 a3 l3 y3 a4 l4 y4 a5 l5 y5 c.now) 29 (0,0)))) (λi _=>l3 - (intOf i).toNat);case atStart=>exact⟨0,by omega,rfl,λ_ _ h=>absurd h af,λ_ _ _ h=>absurd h af,HB.out,Bk.out⟩
     case round=>
      obtain⟨k,hk,rfl,HQ,HO,HB,Bk⟩:=hrel;have pk:=ck2 Bk;by_cases hlt:k<l3
      ·have z1285z:=@aa _ @Jb;exact sJ
      ·obtain rfl:l3=k:=af
       have HR3:Hid (eT qJ Vd.n c.vs 8):=⟨by omega,λj z hz=>HQ.out j z dD hz,λj z u hz hu=>HO.out j z u dD hz hu⟩;clear HQ HO;skip;have kc:=ck3 Bk;go_wp2;go_loopw [6] (λi wr=> ∃k:Nat,k<=l4/\i=Y4 Y5 k/\Hid (∀(j:Nat) z,j<k->c.xs[j]?=Y3 z->gB z)/\Hid (∀(j:Nat) z u,j+1<k->c.xs[j+1]?=Y3 z->c.xs[j]?=Y3 u->Yk u.n.toList z.n.toList=Y_)/\Hid (Below w.heap.size w wr)/\Hid (wr.heap[w.heap.size]?=Y3 (Y6 (clo6 a1 l1 y1 a2 l2 y2 a3 l3 y3 a4 l4 y4 a5 l5 y5 c.now) 29 (0,0)))) (λi _=>l4 - (intOf i).toNat);case atStart=>exact⟨0,by omega,rfl,λ_ _ h=>absurd h af,λ_ _ _ h=>absurd h af,HB.out,Bk.out⟩
       case round=>
        obtain⟨k,hk,rfl,HQ,HO,HB,Bk⟩:=hrel;have pk:=ck3 Bk;by_cases hlt:k<l4
        ·have z1685z:=@aa _ @C5;exact lV
        ·obtain rfl:l4=k:=af
         have HR4:Hid (eT gB Xd.n c.xs 8):=⟨by omega,λj z hz=>HQ.out j z dD hz,λj z u hz hu=>HO.out j z u dD hz hu⟩;clear HQ HO;skip;have kc:=ck4 Bk;go_wp2;go_loopw [7] (λi wr=> ∃k:Nat,k<=l5/\i=Y4 Y5 k/\Hid (∀(j:Nat) z,j<k->c.ps[j]?=Y3 z->uf z)/\Hid (∀(j:Nat) z u,j+1<k->c.ps[j+1]?=Y3 z->c.ps[j]?=Y3 u->Yk u.n.toList z.n.toList=Y_)/\Hid (Below w.heap.size w wr)/\Hid (wr.heap[w.heap.size]?=Y3 (Y6 (clo6 a1 l1 y1 a2 l2 y2 a3 l3 y3 a4 l4 y4 a5 l5 y5 c.now) 29 (0,0)))) (λi _=>l5 - (intOf i).toNat);case atStart=>exact⟨0,by omega,rfl,λ_ _ h=>absurd h af,λ_ _ _ h=>absurd h af,HB.out,Bk.out⟩
         case round=>
          obtain⟨k,hk,rfl,HQ,HO,HB,Bk⟩:=hrel;have pk:=ck4 Bk;by_cases hlt:k<l5
          ·have z1357z:=@aa _ @Ih;exact sr
          ·obtain rfl:l5=k:=af
           have HR5:Hid (eT uf Pd.n c.ps 8):=⟨by omega,λj z hz=>HQ.out j z dD hz,λj z u hz hu=>HO.out j z u dD hz hu⟩;clear HQ HO;go_wp2;go_ret;exact ar.t ⟨HR1.out,HR2.out,HR3.out,HR4.out,HR5.out⟩ HB.out):p:=h
theorem aaQ(h:p:=by
 have HKS:=aa hks;have HXS:=aa hxs;have HVS:=aa hvs;clear hks hxs hvs;go_enter Tryz.func51,Tryz.ntmps51;go_wp2;go_loopw [3] (λi wr=> ∃k:Nat,k<=l3/\i=Y4 Y5 k/\Hid (∀(j:Nat) z,j<k->c.vs[j]?=Y3 z->SV c z)/\Hid (Below w.heap.size w wr)/\Hid (wr.heap[w.heap.size]?=Y3 (Y6 (clo6 a1 l1 y1 a2 l2 y2 a3 l3 y3 a4 l4 y4 a5 l5 y5 c.now) 29 (0,0)))) (λi _=>l3 - (intOf i).toNat);case atStart=>exact⟨0,by omega,rfl,λ_ _ h=>absurd h af,ak _ _,Yg⟩
 case round=>
  obtain⟨k,hk,rfl,HQ,HB,Bk⟩:=hrel;have pk:=ck2 Bk;by_cases hlt:k<l3
  ·have z1230z:=@aa _ @JS;exact mJ
  ·obtain rfl:l3=k:=af
   have HQ1:Hid (∀(j:Nat) z,c.vs[j]?=Y3 z->SV c z):=λj z hz=>HQ.out j z dD hz;clear HQ;have kc:=ck3 Bk;go_wp2;go_loopw [6] (λi wr=> ∃k:Nat,k<=l4/\i=Y4 Y5 k/\Hid (∀(j:Nat) z,j<k->c.xs[j]?=Y3 z->SX c z)/\Hid (Below w.heap.size w wr)/\Hid (wr.heap[w.heap.size]?=Y3 (Y6 (clo6 a1 l1 y1 a2 l2 y2 a3 l3 y3 a4 l4 y4 a5 l5 y5 c.now) 29 (0,0)))) (λi _=>l4 - (intOf i).toNat);case atStart=>exact⟨0,by omega,rfl,λ_ _ h=>absurd h af,HB.out,Bk.out⟩
   case round=>
    obtain⟨k,hk,rfl,HQ,HB,Bk⟩:=hrel;have pk:=ck3 Bk;by_cases hlt:k<l4
    ·have z1685z:=@aa _ @C4;exact lV
    ·obtain rfl:l4=k:=af
     have HQ2:Hid (∀(j:Nat) z,c.xs[j]?=Y3 z->SX c z):=λj z hz=>HQ.out j z dD hz;exact pT):p:=h
theorem cf(h:p:=by
 obtain⟨a1,l1,y1,a2,l2,y2,a3,l3,y3,a4,l4,y4,a5,l5,y5⟩:=d;dsimp only;obtain⟨HR,hl1,hm1,hl2,hm2,hl3,hm3,hl4,hm4,hl5,hm5⟩:=ak2;clear hr;exact z445z):p:=h
theorem XZ(h:p:=by
 have z978z:=@aa _ @Rn;exact o6):p:=h
theorem XY(h:p:=by
 have z978z:=@aa _ @Rm;exact o6):p:=h
theorem XX(h:p:=by
 have z978z:=@aa _ @Rl;exact o6):p:=h
theorem XW(h:p:=by
 have HB2:=upB HW q1.b;obtain⟨Ck,Cr⟩:=er;clear hne0 HW HB HC0 k0 k1 k2 k3 k4 k5 r0 r1 r2 r3 r4 r5 r6 r7 yw Gk Gr Bk Br hcv hbv;have HB:=HB2;clear HB2;have Bk:=Ck;clear Ck;have Br:=Cr;clear Cr;have z1322z:=@aa _ @II;exact jB):p:=h
theorem XV(h:p:=by
 have HB2:=upB HW q1.b;obtain⟨Ck,Cr⟩:=er;clear hne0 HW HB HC0 k0 k1 k2 k3 k4 k5 r0 r1 r2 r3 r4 r5 r6 r7 yw Gk Gr Bk Br hcv hbv;have HB:=HB2;clear HB2;have z988z:=@aa _ @Re;exact jc):p:=h
theorem fb(h:p:=by
 repeat (go_big_quiet_step (first|(go_at_call 96;exact Calls.wide (HC0.out _))|fail))
 refine wpQuiet_nil ?_;rintro _ ⟨q1,rfl⟩;exact z505z):p:=h
theorem XR(h:p:=by
 rcases (h.2 k x HXx.out).2 with h2|⟨i,y2,h2,h3,h4⟩
 ·exact HEm.out h2
 ·obtain⟨_,rfl⟩:=HVS.inj h2 HJ.out (h3.trans HN.symm);exact HNo.out h4.1):p:=h
theorem XQ(h:p:=by
 rcases (h.2 k x HXx.out).2 with h2|⟨i,y2,h2,h3,h4⟩
 ·exact HEm.out h2
 ·obtain⟨_,rfl⟩:=HVS.inj h2 HJ.out (h3.trans HN.symm);have h5:=h4.2.1;have h6:=HNo.out;omega):p:=h
theorem XP(h:p:=by
 rcases (h.2 k x HXx.out).2 with h2|⟨i,y2,h2,h3,h4⟩
 ·exact HEm.out h2
 ·obtain⟨_,rfl⟩:=HVS.inj h2 HJ.out (h3.trans HN.symm);exact HNo.out h4.2.2.1):p:=h
theorem XO(h:p:=by
 rcases (h.2 k x HXx.out).2 with h2|⟨i,y2,h2,h3,h4⟩
 ·exact HEm.out h2
 ·obtain⟨_,rfl⟩:=HVS.inj h2 HJ.out (h3.trans HN.symm);exact HNo.out h4.2.2.2):p:=h
theorem ll(h:p:=by
 rintro _ ⟨q1,rfl⟩;have HB3:=upB HW q1.b;obtain⟨Ck,Cr⟩:=er;clear hne0 HW HB k2 r0 r1 r2 r3 r4 v1w v3w v4w v5w Gk Gr Bk Br pr v1 v3 v4 v5 hbv;have HB:=HB3;clear HB3;have z988z:=@aa _ @Rd;exact jc):p:=h
theorem XN(h:p:=by
 have HR:=aa hr;have hl4:c.xs.length=l4:=M5
 clear hr;obtain⟨HX,HV,HNE⟩:=iH;have HB:=aa (Yh w.heap.size w);clear hx hv hne;go_enter Tryz.func98,Tryz.ntmps98;go_wp2_with fail;refine (ft ⟨a1,l1,y1,a2,l2,y2,a3,l3,y3,a4,l4,y4,a5,l5,y5⟩ c.now c.xs t _ (HR.x.below (ak _ _))).mono ?_;rintro e w1 ⟨hb,hf⟩;have z1123z:=@aa _ @Lt;exact jG):p:=h
theorem XM(h:p:=by
 have HR:=aa hr;have hl3:c.vs.length=l3:=tG
 clear hr;obtain⟨HX,HV,HNE⟩:=iH;have HP:=aa hp;have HQ0:=aa hq;have hlc:=Yl hp.2.1 hp.2.2.1;have hzl:=hp.1;clear hx hv hne hp hq;by_cases hp0:p.d=⟨#[]⟩
 ·have e1:=cN hp0;have HH:=aa hp0;clear hp0;go_enter Tryz.func99,Tryz.ntmps99;go_wp2;go_ret;exact ar.t (Zc HH.out) (dj _ _ _ _)
 by_cases hq0:q.d=⟨#[]⟩
 ·have e1:=aX hp0;have e2:=cN hq0;have HH:=aa hq0;clear hp0 hq0;go_enter Tryz.func99,Tryz.ntmps99;go_wp2;go_ret;exact ar.t (Zb (Zc HH.out)) (dj _ _ _ _)
 by_cases hpq:p.d=q.d
 ·have e1:=aX hp0;have e2:=aX hq0;have e3:=aP hpq;have HH:=aa hpq;clear hp0 hq0 hpq;go_enter Tryz.func99,Tryz.ntmps99;go_wp2;go_ret;exact ar.t (Zb (Zb (Zc HH.out))) (dj _ _ _ _)
 have e1:=aX hp0;have e2:=aX hq0;have e3:=bA hpq;have HP0:=aa hp0;have HQ1:=aa hq0;have HPQ:=aa hpq;clear hp0 hq0 hpq;go_enter Tryz.func99,Tryz.ntmps99;go_wp2;clear e1 e2 e3;go_loopw [7] (λi wr=> ∃k:Nat,k<=pl/\i=Y4 Y5 k/\Hid (∀(j:Nat) t,j<k->p.zs[j]?=Y3 t->∀v,aY c t v->v.x=Y_->¬InL q.zs t)/\Hid (Below w.heap.size w wr)/\Hid (wr.heap[w.heap.size]?=Y3 (Y6 (clo6 a1 l1 y1 a2 l2 y2 a3 l3 y3 a4 l4 y4 a5 l5 y5 c.now) 29 (0,0)))/\Hid (wr.heap[w.heap.size+1]?=Y3 (Y6 (pov p pa pl pc) 40 (0,0)))/\Hid (wr.heap[w.heap.size+1+1]?=Y3 (Y6 (pov q qa ql qc) 40 (0,0)))) (λi _=>pl - (intOf i).toNat);case atStart=>exact⟨0,by omega,rfl,λ_ _ h=>absurd h af,dj _ _ _ _,qm _ _ _ _,lF _ _ _ _,lE _ _ _ _⟩
 case round=>
  obtain⟨k,hk,rfl,HQ,HB,Bk,Bx,By⟩:=hrel;have px3:=ck3 Bx;by_cases hlt:k<pl
  ·obtain⟨b,o,t,rfl,hb,hxt,hc,hsz⟩:=HP.at hlt;have HXt:=aa hxt;have hcw:=(ai HB.out hb).trans hc;have hbw:=Yj hb HB.size;clear hxt hsz;have hcase:(∃v,aY c t v)\/(∀v,¬aY c t v):=by
    exact PE
   rcases hcase with ⟨v,hbd⟩|hbd
   ·have z889z:=@aa _ @SA;exact xW
   ·have HD:=aa hbd;clear hbd;have z1538z:=@aa _ @EP;exact rR
  ·obtain rfl:pl=k:=af
   go_wp2;go_ret;exact ar.t (Zb (Zb (Zb (λj t ht=>HQ.out j t zM ht)))) HB.out):p:=h
theorem cK(h:p:=by
 obtain⟨a1,l1,y1,a2,l2,y2,a3,l3,y3,a4,l4,y4,a5,l5,y5⟩:=d;dsimp only;exact z519z):p:=h
theorem WU(h:p:=by
 refine (bU z _ hz).mono ?_;have z862z:=@aa _ @S1;exact fN):p:=h
theorem WT(h:p:=by
 refine (uv c _).mono ?_;have z862z:=@aa _ @S0;exact fN):p:=h
theorem WS(h:p:=by
 refine (bU k _ hk).mono ?_;have z862z:=@aa _ @SZ;exact fN):p:=h
theorem WR(h:p:=by
 refine (gZ z _ hz).mono ?_;have z862z:=@aa _ @SY;exact fN):p:=h
theorem fR(h:p:=by
 rintro e w1 ⟨r,rfl,hr,rfl⟩;by_cases hq:r=Y_;case neg=>
  exact alk
 have h1:=aa (hr.1 hq);subst hq;clear hr;go_wp2_with fail;exact z572z):p:=h
theorem Wp(h:p:=by
 cases x
 ·go_wp2_with fail;go_ret;exact⟨Y_,rfl,⟨λ_=>⟨h0.out,h1.out,h2.out,h3.out,h4.out,HY.out,by simpa using h6.out⟩,λ_=>rfl⟩,HB.out⟩
 ·go_wp2_with fail;go_ret;refine⟨_,rfl,⟨λh=>⟨h0.out,h1.out,h2.out,h3.out,h4.out,HY.out,?_,h6.2⟩,λh=>?_⟩,HB.out⟩
  ·simp at h ⊢;omega
  ·have:=h.2.2.2.2.2.2.1;simp at this ⊢;omega):p:=h
theorem Wo(h:p:=by
 cases x
 ·go_wp2_with fail;go_ret;exact⟨Y_,rfl,⟨λ_=>⟨h0.out,h1.out,h2.out,h3.out,h4.out,(λ_=>rfl),by simpa using h6.out⟩,λ_=>rfl⟩,HB.out⟩
 ·go_wp2_with fail;go_ret;refine⟨_,rfl,⟨λh=>⟨h0.out,h1.out,h2.out,h3.out,h4.out,(λ_=>rfl),?_,h6.2⟩,λh=>?_⟩,HB.out⟩
  ·simp at h ⊢;omega
  ·have:=h.2.2.2.2.2.2.1;simp at this ⊢;omega):p:=h
theorem yG(h:p:=by
 have z1503z:=@aa _ @Fi;exact jt):p:=h
theorem Wk(h:p:=by
 by_cases e:j=k
 ·subst e;rw[HXx.out] at hz;obtain rfl:=Yd hz;exact⟨⟨i2,kd2,HG1.out,HG2.out⟩,Zb ⟨j3,y,HJ.out,HN.out,HY1.out,HY2.out,HY3.out,HY4.out⟩⟩
 ·exact HQ.out j z af hz):p:=h
theorem lk(h:p:=by
 have z1322z:=@aa _ @IH;exact jB):p:=h
theorem V9(h:p:=by
 have z212z:=@aa _ @adF;exact pP):p:=h
theorem V8(h:p:=by
 have z212z:=@aa _ @adE;exact pP):p:=h
theorem V7(h:p:=by
 have z212z:=@aa _ @adD;exact pP):p:=h
theorem pt(h:p:=by
 go_enter Tryz.func92,Tryz.ntmps92;go_wp2_with fail;refine (bU n _ hn).mono ?_;rintro e w1 ⟨r,rfl,hr,rfl⟩;by_cases hq:r=Y_;case neg=>
  exact ahc
 have h0:=aa (hr.1 hq);subst hq;clear hr;go_wp2_with fail;exact z627z):p:=h
theorem V4(h:p:=by
 by_cases e:j=k
 ·subst e;rw[HXt.out] at hs;obtain rfl:=Yd hs;intro v2 h1 h2;obtain rfl:=aY.inj HX.out HV.out HD.out h1;rw[HSi.out] at h2;cases h2
 ·exact HQ.out j s af hs):p:=h
theorem V3(h:p:=by
 by_cases e:j=k
 ·subst e;rw[HXt.out] at hs;obtain rfl:=Yd hs;intro v2 h1;exact absurd h1 (HD.out v2)
 ·exact HQ.out j s af hs):p:=h
theorem V2(h:p:=by
 by_cases e:j=k
 ·subst e;rw[HXt.out] at hs;obtain rfl:=Yd hs;intro v2 h1 h2;exact HIn.out
 ·exact HQ.out j s af hs):p:=h
theorem po(h:p:=by
 have HB:=HB2;clear HB2;have Bk:=Ck;clear Ck;have Bx:=Cx;clear Cx;have By:=Cy;clear Cy;go_wp2_with fail;refine⟨⟨k+1,by omega,by go_num,λj s hj hs=>?_,HB.out,Bk.out,Bx.out,By.out⟩,by simp[intOf];omega⟩;exact z634z):p:=h
theorem V1(h:p:=by
 clear hne0 HW HB HC0 k0 x0 x1 x2 x3 x4 x5 x6 Gk Bk c0 c1 c2 c3 c4 c5 c6 pk;have HB:=HB1;clear HB1;have Bk:=Ck;clear Ck;go_wp2;go_ret;exact ar.f (λh=>HOK.out (h.1.2.1 k x HXx.out)) HB.out):p:=h
theorem V0(h:p:=by
 clear hne0 HW HB HC0 k0 x0 x1 x2 x3 x4 x5 x6 Gk Bk c0 c1 c2 c3 c4 c5 c6 pk;exact tW):p:=h
theorem VZ(h:p:=by
 clear hne0 HW HB HC0 k0 x0 x1 x2 x3 x4 x5 x6 yw Gk Bk c0 c1 c2 c3 c4 c5 c6 pk y0;have z1044z:=@aa _ @Mp;exact gL):p:=h
theorem VY(h:p:=by
 clear hne0 HW HB HC0 k0 x0 x1 x2 x3 x4 x5 x6 yw Gk Bk c0 c1 c2 c3 c4 c5 c6 pk y0;exact tX):p:=h
theorem VX(h:p:=by
 clear hne0 HW HB HC0 k1 x0 x1 x2 x3 Gk Bk c0 c1 c2 c3 pk;have HB:=HB1;clear HB1;have Bk:=Ck;clear Ck;go_wp2;go_ret;exact ar.f (λh=>HOK.out (h.2.1.2.1 k x HXx.out)) HB.out):p:=h
theorem VW(h:p:=by
 clear hne0 HW HB HC0 k1 x0 x1 x2 x3 Gk Bk c0 c1 c2 c3 pk;exact tW):p:=h
theorem VV(h:p:=by
 clear hne0 HW HB HC0 k1 x0 x1 x2 x3 yw Gk Bk c0 c1 c2 c3 pk y0;have z1044z:=@aa _ @Mo;exact gL):p:=h
theorem VU(h:p:=by
 clear hne0 HW HB HC0 k1 x0 x1 x2 x3 yw Gk Bk c0 c1 c2 c3 pk y0;exact tX):p:=h
theorem VT(h:p:=by
 clear hne0 HW HB HC0 k2 x0 x1 x2 x3 x4 x5 x6 x7 Gk Bk c0 c1 c2 c3 c4 c5 c6 c7 pk;have HB:=HB1;clear HB1;have Bk:=Ck;clear Ck;go_wp2;go_ret;exact ar.f (λh=>HOK.out (h.2.2.1.2.1 k x HXx.out)) HB.out):p:=h
theorem VS(h:p:=by
 clear hne0 HW HB HC0 k2 x0 x1 x2 x3 x4 x5 x6 x7 Gk Bk c0 c1 c2 c3 c4 c5 c6 c7 pk;exact tW):p:=h
theorem VR(h:p:=by
 clear hne0 HW HB HC0 k2 x0 x1 x2 x3 x4 x5 x6 x7 yw Gk Bk c0 c1 c2 c3 c4 c5 c6 c7 pk y0;have z1044z:=@aa _ @Mn;exact gL):p:=h
theorem VQ(h:p:=by
 clear hne0 HW HB HC0 k2 x0 x1 x2 x3 x4 x5 x6 x7 yw Gk Bk c0 c1 c2 c3 c4 c5 c6 c7 pk y0;exact tX):p:=h
theorem VP(h:p:=by
 clear hne0 HW HB HC0 k3 x0 x1 x2 x3 x4 Gk Bk c0 c1 c2 c3 c4 pk;have HB:=HB1;clear HB1;have Bk:=Ck;clear Ck;go_wp2;go_ret;exact ar.f (λh=>HOK.out (h.2.2.2.1.2.1 k x HXx.out)) HB.out):p:=h
theorem VO(h:p:=by
 clear hne0 HW HB HC0 k3 x0 x1 x2 x3 x4 Gk Bk c0 c1 c2 c3 c4 pk;exact tW):p:=h
theorem VN(h:p:=by
 clear hne0 HW HB HC0 k3 x0 x1 x2 x3 x4 yw Gk Bk c0 c1 c2 c3 c4 pk y0;have z1044z:=@aa _ @Mm;exact gL):p:=h
theorem VM(h:p:=by
 clear hne0 HW HB HC0 k3 x0 x1 x2 x3 x4 yw Gk Bk c0 c1 c2 c3 c4 pk y0;exact tX):p:=h
theorem VL(h:p:=by
 clear hne0 HW HB HC0 k4 x0 x1 x2 x3 x4 x5 Gk Bk c0 c1 c2 c3 c4 c5 pk;have HB:=HB1;clear HB1;have Bk:=Ck;clear Ck;go_wp2;go_ret;exact ar.f (λh=>HOK.out (h.2.2.2.2.2.1 k x HXx.out)) HB.out):p:=h
theorem VK(h:p:=by
 clear hne0 HW HB HC0 k4 x0 x1 x2 x3 x4 x5 Gk Bk c0 c1 c2 c3 c4 c5 pk;exact tW):p:=h
theorem VJ(h:p:=by
 clear hne0 HW HB HC0 k4 x0 x1 x2 x3 x4 x5 yw Gk Bk c0 c1 c2 c3 c4 c5 pk y0;have z1044z:=@aa _ @Ml;exact gL):p:=h
theorem VI(h:p:=by
 clear hne0 HW HB HC0 k4 x0 x1 x2 x3 x4 x5 yw Gk Bk c0 c1 c2 c3 c4 c5 pk y0;exact tX):p:=h
theorem bO(h:p:=by
 refine wpQuiet_nil ?_;rintro _ ⟨q,rfl⟩;obtain⟨HB1,Ck⟩:=akQ;exact z638z):p:=h
theorem VE(h:p:=by
 have Cx:=upK Gx q2.b;have Cy:=upK Gy q2.b;clear hne0 HW HB HC0 k2 x3 y3 tw vw Gk Gx Gy Bk Bx By;have HB:=HB2;clear HB2;have Bk:=Ck;clear Ck;have Bx:=Cx;clear Cx;have By:=Cy;clear Cy;go_wp2;go_ret;refine ar.f (λh=>?_) HB.out;rcases h with h|h|h|h
 ·exact HP0.out h
 ·exact HQ1.out h
 ·exact HPQ.out h
 ·exact h k t HXt.out v HD.out HSi.out HIn.out):p:=h
theorem yB(h:p:=by
 have z1032z:=@aa _ @Mx;exact mS):p:=h
theorem U2(h:p:=by
 exact⟨HB.out,Zc ⟨j2,v,HF1.out,⟨_,_,x,HX1.out,HN1.out,HF1.out,HF2.out⟩,rfl⟩⟩):p:=h
theorem U1(h:p:=by
 refine⟨HB.out,Zb ⟨λv ⟨i,j2,x2,e1,e2,e3,e5⟩=>?_,rfl⟩⟩;obtain⟨_,rfl⟩:=HX.inj e1 HX1.out (e2.trans HN1.symm);exact HF.out ⟨j2,v,e3,e5⟩):p:=h
theorem yx(h:p:=by
 have z1471z:=@aa _ @FJ;exact my):p:=h
theorem Uq(h:p:=by
 exact z1z):p:=h
theorem pg(h:p:=by
 refine bV ba ba ?_;repeat (go_big_quiet_step (first|fail))
 refine wpQuiet_nil ?_;exact z761z):p:=h
theorem T2(h:p:=by
 exact Yb HR (Yb hl1 (Yb hm1 (Yb hl2 (Yb hm2 (Yb hl3 (Yb hm3 (Yb hl4 (Yb hm4 (Yb hl5 hm5)))))))))):p:=h
theorem x8(h:p:=by
 have hl5:c.ps.length=l5:=by simpa using (show (c.ps.map pdF).length=l5 from hr.p.1)
 have hm5:l5<=9223372036854775807:=Yl hr.p.2.1 hr.p.2.2.1;exact z792z):p:=h
theorem Tu(h:p:=by
 obtain⟨r0,r1,r2,r3,r4⟩:=cs5 Br;have ltr_2:=ae Br.out;have z1322z:=@aa _ @IG;exact jB):p:=h
theorem cB(h:p:=by
 obtain⟨k0,k1,k2,k3,k4,k5⟩:=cs6 Bk;have ltk_2:=ae Bk.out;exact z828z):p:=h
theorem S1(h:p:=by
 refine (bU k _ hk).mono ?_;have z1268z:=@aa _ @Jo;exact jD):p:=h
theorem S0(h:p:=by
 refine (p8 s 0 8 _).mono ?_;have z1268z:=@aa _ @Jn;exact jD):p:=h
theorem SZ(h:p:=by
 refine (gZ v _ hv).mono ?_;exact Oi):p:=h
theorem SY(h:p:=by
 refine (iF a len cap zs 3 _ (HR.below (ak _ _))).mono ?_;rintro e w1 ⟨r,rfl,hr,hb⟩;obtain⟨hsl,hb1,-⟩:=ix hb;have HB:Hid (Below w.heap.size w w1):=hb1;by_cases hq:r=Y_;case neg=>
  have HN:=aa (λh=>hq (hr.2 h));clear hsl hb hb1 hr;go_wp2_with fail;go_ret;exact⟨Y8,rfl,⟨λh=>bY,λh=>(HN.out h.2.2.2.1).elim⟩,HB.out⟩
 have h3:=aa (hr.1 hq);subst hq;have hc4:=ck4 hsl;have hc5:=ck5 hsl;clear hr hsl hb hb1;go_wp2_with fail;refine (p8 p 0 2 _).mono ?_;rintro e w2 ⟨r,rfl,hr,rfl⟩;by_cases hq:r=Y_;case neg=>
  have HN:=aa (λh=>hq (hr.2 h));clear hr;go_wp2_with fail;go_ret;exact⟨Y8,rfl,⟨λh=>bY,λh=>absurd h.2.2.2.2 (qL (by have h9:¬(0<=p/\p<=2):=HN.out;omega))⟩,HB.out⟩
 have h4:=hr.1 hq;subst hq;clear hr;by_cases hp:p=0
 ·subst hp;go_wp2_with fail;go_ret;exact⟨_,rfl,⟨λh=>⟨h0.out,h1.out,h2.out,h3.out,(eK d).2 ((fg d).1 h)⟩,λh=>(fg d).2 ((eK d).1 h.2.2.2.2)⟩,HB.out⟩
 have hq:(p==0)=Y8:=by simp[hp]
 have hp2:p=1\/p=2:=by unfold Inn at h4;omega
 go_wp2_with fail;refine (bU d _ hd).mono ?_;rintro e w2 ⟨r,rfl,hr,rfl⟩;go_wp2_with fail;go_ret;exact⟨r,rfl,⟨λh=>⟨h0.out,h1.out,h2.out,h3.out,(iT d hp2).2 (hr.1 h)⟩,λh=>hr.2 ((iT d hp2).1 h.2.2.2.2)⟩,HB.out⟩):p:=h
theorem fN(h:p:=by
 rintro e w1 ⟨r,rfl,hr,rfl⟩;by_cases hq:r=Y_;case neg=>
  exact alm
 have h2:=aa (hr.1 hq);subst hq;clear hr;go_wp2_with fail;exact z862z):p:=h
theorem SA(h:p:=by
 have z1689z:=@aa _ @CZ;exact eM):p:=h
theorem xW(h:p:=by
 have z1341z:=@aa _ @Iu;exact sy):p:=h
theorem Si(h:p:=by
 have z1z:=@aa _ @aky;exact bC):p:=h
theorem Sh(h:p:=by
 have z1z:=@aa _ @akx;exact bC):p:=h
theorem Sg(h:p:=by
 have z1z:=@aa _ @akw;exact bC):p:=h
theorem Sf(h:p:=by
 have z1z:=@aa _ @akv;exact bC):p:=h
theorem lf(h:p:=by
 have z1726z:=@aa _ @Cq;exact lT):p:=h
theorem Se(h:p:=by
 have z53z:=@aa _ @ahZ;exact aC):p:=h
theorem Sd(h:p:=by
 have z53z:=@aa _ @ahY;exact aC):p:=h
theorem xQ(h:p:=by
 have Gk:Hid (wr.heap[w.heap.size]?=Y3 (Y6 (clo6 a1 l1 y1 a2 l2 y2 a3 l3 y3 a4 l4 y4 (Y3 ⟨b,o,U⟩) l5 y5 c.now) 29 (0,0))):=Bk.out;have z1744z:=@aa _ @B8;exact lQ):p:=h
theorem RY(h:p:=by
 replace HB:=upB HB hbx;clear hb2 hbx HA0;clear pk hb c0 c1 c2 c3 c4 c5 c6 c7;by_cases hkh:af0 c v.k;rotate_left
 ·have HKH:=aa hkh;clear hkh;have z1454z:=@aa _ @FV;exact jz
 obtain⟨i2,kd2,g1,g2⟩:=hkh;have HG1:=aa g1;have HG2:=aa g2;have hi20:¬((i2:Int)<0):=af
 have hi21:decide ((i2:Int)<0)=Y8:=aF
 clear g1 g2;by_cases he:v.m=⟨#[]⟩
 ·have hq:=cN he;have HEm:=aa he;clear he;have z1454z:=@aa _ @FU;exact jz
 have hq:=aX he;have HEm:=aa he;clear he;rcases hf with ⟨j4,y,h1,h2,rfl⟩|⟨hh,rfl⟩;rotate_left
 ·have HH:=aa hh;clear hh;have z1279z:=@aa _ @Je;exact gI
 have hl4':j4<l4:=by have h3:=(Yc.1 h1).1;omega
 obtain⟨b4,o4,y',rfl,hb4,hy',hat⟩:=eI HR.x hl4';rw[h1] at hy';obtain rfl:=Yd hy';obtain⟨z0,z2,z4,c0,c1,c2,c3,c4⟩:=cn hat;have HJ:=aa h1;have HN:=aa h2;have hcv:=(ai HB.out hb4).trans c4;have hbv:=Yj hb4 HB.size;have hj0:¬((j4:Int)<0):=af
 have hj1:decide ((j4:Int)<0)=Y8:=aF
 clear hy' hat z0 z2 z4 c0 c1 c2 c3 c4 h1 h2;by_cases hvn:y.v=v.n
 ·have hq2:=aP hvn;have HVN:=aa hvn;clear hvn;have z1279z:=@aa _ @Jd;exact gI
 ·have hq2:=bA hvn;have HVN:=aa hvn;clear hvn;have z1279z:=@aa _ @Jc;exact gI):p:=h
theorem o_(h:p:=by
 have z1467z:=@aa _ @FM;exact mA):p:=h
theorem RF(h:p:=by
 refine (nW ⟨a1,l1,y1,a2,l2,y2,a3,l3,y3,(Y3 ⟨b,o,U⟩),l4,y4,a5,l5,y5⟩ c.now c.ks x.k _ (HR.k.below HB.out) (λj y h1 h2=>HKH.out ⟨j,y,h1,h2⟩)).mono ?_;have z1421z:=@aa _ @GI;exact jA):p:=h
theorem RE(h:p:=by
 refine (dF ⟨a1,l1,y1,a2,l2,y2,a3,l3,y3,(Y3 ⟨b,o,U⟩),l4,y4,a5,l5,y5⟩ c.now c.ks x.k _ (HR.k.below HB.out) HKS.out HG1.out HG2.out).mono ?_;have z1421z:=@aa _ @GH;exact jA):p:=h
theorem xI(h:p:=by
 have z1176z:=@aa _ @KE;exact dI):p:=h
theorem RD(h:p:=by
 have z53z:=@aa _ @ah3;exact aC):p:=h
theorem RC(h:p:=by
 have z53z:=@aa _ @ah2;exact aC):p:=h
theorem xH(h:p:=by
 have Gk:Hid (wr.heap[w.heap.size]?=Y3 (Y6 (clo6 a1 l1 y1 a2 l2 y2 a3 l3 y3 (Y3 ⟨b,o,U⟩) l4 y4 a5 l5 y5 c.now) 29 (0,0))):=Bk.out;obtain⟨HW,k3⟩:=tJ;obtain⟨x0,x1,x2,x3,x4⟩:=pQ;obtain⟨yw,hne0⟩:=tK;have HC0:=aa (λq:Wd wr=>(fK x.n x.z x.k x.x x.v q.w HZx0.out HZx2.out HZx4.out).mono (λ_ _ h=>ar.yes h HOK.out));exact z959z):p:=h
theorem Rx(h:p:=by
 have z53z:=@aa _ @ah7;exact aC):p:=h
theorem Rw(h:p:=by
 have z53z:=@aa _ @ah6;exact aC):p:=h
theorem xE(h:p:=by
 obtain⟨Gk,HW,k2⟩:=ai5;obtain⟨x0,x1,x2,x3,x4⟩:=pQ;obtain⟨x5,x6⟩:=tL;have x7:=λq:Wd wr=>(q.cell hb).trans c7;obtain⟨yw,hne0⟩:=tK;have z1360z:=@aa _ @Ie;exact so):p:=h
theorem Rp(h:p:=by
 have z53z:=@aa _ @aia;exact aC):p:=h
theorem Ro(h:p:=by
 have z53z:=@aa _ @ah_;exact aC):p:=h
theorem xD(h:p:=by
 have Gk:Hid (wr.heap[w.heap.size]?=Y3 (Y6 (clo6 a1 l1 y1 (Y3 ⟨b,o,U⟩) l2 y2 a3 l3 y3 a4 l4 y4 a5 l5 y5 c.now) 29 (0,0))):=Bk.out;obtain⟨HW,k1,x0,x1,x2,x3⟩:=Ng;obtain⟨yw,hne0⟩:=tK;have HC0:=aa (λq:Wd wr=>(iG x.n x.z x.x x.y q.w HZx0.out HZx3.out).mono (λ_ _ h=>ar.yes h HOK.out));exact z975z):p:=h
theorem Rn(h:p:=by
 go_wp2;go_ret;exact ar.f (λh=>HKH.out (h.1 k v HXv.out).1) HB.out):p:=h
theorem Rm(h:p:=by
 have z1322z:=@aa _ @IF;exact jB):p:=h
theorem Rl(h:p:=by
 go_wp2;go_ret;refine ar.f (λh=>?_) HB.out;rcases (h.1 k v HXv.out).2 with h2|⟨i,y,h2,h3,_⟩
 ·exact HEm.out h2
 ·exact HH.out i y h2 h3):p:=h
theorem o6(h:p:=by
 have HB2:=upB HW q1.b;obtain⟨Ck,Cr⟩:=er;clear hne0 HW HB HC0 k0 k1 k2 k3 k4 k5 r0 r1 r2 r3 r4 r5 r6 r7 Gk Gr Bk Br;have HB:=HB2;clear HB2;have Bk:=Ck;clear Ck;have Br:=Cr;clear Cr;exact z978z):p:=h
theorem Rf(h:p:=by
 rcases (h.2 k x HXx.out).2 with h2|⟨i,y,h2,h3,_⟩
 ·exact HEm.out h2
 ·exact HH.out i y h2 h3):p:=h
theorem Re(h:p:=by
 rcases (h.1 k v HXv.out).2 with h2|⟨i,y2,h2,h3,h4⟩
 ·exact HEm.out h2
 ·obtain⟨_,rfl⟩:=HXS.inj h2 HJ.out (h3.trans HN.symm);exact HVN.out h4):p:=h
theorem Rd(h:p:=by
 exact z514z):p:=h
theorem jc(h:p:=by
 have Bk:=Ck;clear Ck;have Br:=Cr;clear Cr;go_wp2;go_ret;refine ar.f (λh=>?_) HB.out;exact z988z):p:=h
theorem MP(h:p:=by
 have HX:=aa hx;have hpc:=HP.out k p hx;clear hat hx z0 z2 z4 hvr;by_cases hn:p.d=t
 ·have hq:=aP hn;have HN:=aa hn;clear hn;go_wp2;refine⟨⟨k+1,s+p.c,by omega,by go_num,by go_num,?_,by omega,by omega,by first|rfl|trivial⟩,by simp[intOf];omega⟩;show _=_;rw[f_ HX.out,if_pos HN.out,<-HS.out]
 ·have hq:=bA hn;have HN:=aa hn;clear hn;go_wp2;refine⟨⟨k+1,s,by omega,rfl,by go_num,?_,by omega,by omega,by first|rfl|trivial⟩,by simp[intOf];omega⟩;show _=_;rw[f_ HX.out,if_neg HN.out,<-HS.out,Int.add_zero]):p:=h
theorem dv(h:p:=by
 obtain⟨va,vl,vc,hvr,z0,z2,z4,c0,c1,c2,c3,c4,c5⟩:=bD hat;exact z1011z):p:=h
theorem MF(h:p:=by
 have z1517z:=@aa _ @E6;exact rU):p:=h
theorem mT(h:p:=by
 repeat (go_big_quiet_step (first|(go_at_call 98;exact Calls.wide (HC0.out _))|fail))
 refine wpQuiet_nil ?_;rintro _ ⟨q1,rfl⟩;exact z1022z):p:=h
theorem MC(h:p:=by
 have z53z:=@aa _ @aie;exact aC):p:=h
theorem MB(h:p:=by
 have z53z:=@aa _ @aid;exact aC):p:=h
theorem tr(h:p:=by
 obtain⟨Gk,HW,k0⟩:=ai6;obtain⟨x0,x1,x2,x3,x4⟩:=pQ;obtain⟨x5,x6⟩:=tL;obtain⟨yw,hne0⟩:=tK;have z1376z:=@aa _ @Ht;exact si):p:=h
theorem My(h:p:=by
 have Cx:=upK Gx q2.b;have Cy:=upK Gy q2.b;clear hne0 HW HB HC0 k2 x3 y3 tw vw Gk Gx Gy Bk Bx By;have z634z:=@aa _ @V2;exact po):p:=h
theorem Mx(h:p:=by
 exact z663z):p:=h
theorem mS(h:p:=by
 repeat (go_big_quiet_step (first|(go_at_call 102;exact Calls.wide (HC0.out _))|fail))
 refine wpQuiet_nil ?_;rintro _ ⟨q2,rfl⟩;obtain⟨HB2,Ck⟩:=jK;exact z1032z):p:=h
theorem Mp(h:p:=by
 have h3:=h.1.2.2 (k - 1) x y tE HXy.out;rw[hless] at h3;cases h3):p:=h
theorem Mo(h:p:=by
 have h3:=h.2.1.2.2 (k - 1) x y tE HXy.out;rw[hless] at h3;cases h3):p:=h
theorem Mn(h:p:=by
 have h3:=h.2.2.1.2.2 (k - 1) x y tE HXy.out;rw[hless] at h3;cases h3):p:=h
theorem Mm(h:p:=by
 have h3:=h.2.2.2.1.2.2 (k - 1) x y tE HXy.out;rw[hless] at h3;cases h3):p:=h
theorem Ml(h:p:=by
 have h3:=h.2.2.2.2.2.2 (k - 1) x y tE HXy.out;rw[hless] at h3;cases h3):p:=h
theorem gL(h:p:=by
 have HB:=HB1;clear HB1;have Bk:=Ck;clear Ck;go_wp2;go_ret;refine ar.f (λh=>?_) HB.out;exact z1044z):p:=h
theorem LI(h:p:=by
 have HC0:=aa (λq:Wd wr=>(iS x.n x.c x.z x.k x.x x.m x.y va vl vc x.zs q.w HZx0.out HZx2.out HZx3.out HZx5.out (HTx.below q.b)).mono (λ_ _ h=>ar.no h HOK.out));have z53z:=@aa _ @ah9;exact aC):p:=h
theorem LH(h:p:=by
 have z1360z:=@aa _ @Ic;exact so):p:=h
theorem s8(h:p:=by
 have HW:=HB;have k2:=λq:Wd wr=>q.slot (o:=2) Gk.out rfl;obtain⟨x0,x1,x2,x3,x4⟩:=pQ;obtain⟨x5,x6⟩:=tL;have x7:=λq:Wd wr=>(q.cell hb).trans c7;have hne0:=Wd.ne wr;exact z1102z):p:=h
theorem Lt(h:p:=by
 rcases hf with ⟨j,x,hx,hn,rfl⟩|⟨hh,rfl⟩;rotate_left
 ·have HH:=aa hh;clear hh;obtain⟨k0,k1,k2,k3,k4,k5⟩:=cs6 Bk;go_wp2;go_ret;exact⟨HB.out,Zb ⟨λv ⟨i,j,x,e1,e2,_⟩=>HH.out i x e1 e2,rfl⟩⟩
 have hj:j<l4:=by have h1:=(Yc.1 hx).1;omega
 obtain⟨b,o,y,rfl,hbb,hy,hat⟩:=eI HR.x hj;rw[hx] at hy;obtain rfl:=Yd hy;obtain⟨z0,z2,z4,c0,c1,c2,c3,c4⟩:=cn hat;have HX1:=aa hx;have HN1:=aa hn;have e4:=(ai HB.out hbb).trans c4;have hb1:=Yj hbb HB.size;have hj0:(0:Int)<=j:=af
 clear hx hn hy hat z0 z2 z4 c0 c1 c2 c3;by_cases he:x.v=⟨#[]⟩
 ·have hq:=cN he;have HEm:=aa he;clear he;obtain⟨k0,k1,k2,k3,k4,k5⟩:=cs6 Bk;go_wp2;go_ret;refine⟨HB.out,Zb ⟨λv ⟨i,j2,x2,e1,e2,e3,e5⟩=>?_,rfl⟩⟩;obtain⟨_,rfl⟩:=HX.inj e1 HX1.out (e2.trans HN1.symm);exact HNE.out j2 v e3 (e5.trans HEm.out)
 ·have hq:=aX he;have HEm:=aa he;clear he;obtain⟨k0,k1,k2,k3,k4,k5⟩:=cs6 Bk;go_wp2_with fail;by_cases hf:∃(j2:Nat) (v:Vd),c.vs[j2]?=Y3 v/\v.n=x.v
  ·obtain⟨j2,v,h1,h2⟩:=hf;have HF1:=aa h1;have HF2:=aa h2;clear h1 h2;clear k0 k1 k2 k3 k4 k5;have Gk:=Bk;have HW:=HB;have k0:=λq:Wd w1=>q.slot (o:=0) Gk.out rfl;have k1:=λq:Wd w1=>q.slot (o:=1) Gk.out rfl;have k2:=λq:Wd w1=>q.slot (o:=2) Gk.out rfl;have k3:=λq:Wd w1=>q.slot (o:=3) Gk.out rfl;have k4:=λq:Wd w1=>q.slot (o:=4) Gk.out rfl;have k5:=λq:Wd w1=>q.slot (o:=5) Gk.out rfl;have e4w:=λq:Wd w1=>(q.cell hb1).trans e4;have hne0:=Wd.ne w1;have HC0:=aa (λq:Wd w1=>ed ⟨a1,l1,y1,a2,l2,y2,a3,l3,y3,(Y3 ⟨b,o,U⟩),l4,y4,a5,l5,y5⟩ c.now c.vs x.v q.w (HR.v.below (HW.trans (q.b.mono HW.size))) HV.out HF1.out HF2.out);have z53z:=@aa _ @ail;exact aC
  ·have HF:=aa hf;clear hf;clear k0 k1 k2 k3 k4 k5;have Gk:=Bk;have HW:=HB;obtain⟨k0,k1,k2,k3,k4,k5⟩:=sl6 Gk;have e4w:=λq:Wd w1=>(q.cell hb1).trans e4;have hne0:=Wd.ne w1;have HC0:=aa (λq:Wd w1=>g_ ⟨a1,l1,y1,a2,l2,y2,a3,l3,y3,(Y3 ⟨b,o,U⟩),l4,y4,a5,l5,y5⟩ c.now c.vs x.v q.w (HR.v.below (HW.trans (q.b.mono HW.size))) (λj2 v h1 h2=>HF.out ⟨j2,v,h1,h2⟩));have z53z:=@aa _ @aik;exact aC):p:=h
theorem jG(h:p:=by
 obtain⟨HA0,hbx⟩:=bB hb;have Bk:=aa HA0;replace HB:=upB HB hbx;clear hb hbx HA0;exact z1123z):p:=h
theorem KG(h:p:=by
 obtain⟨r0,r1,r2,r3,r4⟩:=cs5 Br;have ltr_1:=ae Br.out;go_wp2_with fail;refine (dF ⟨a1,l1,y1,a2,l2,y2,(Y3 ⟨b3,o3,U⟩),l3,y3,(Y3 ⟨b,o,U⟩),l4,y4,a5,l5,y5⟩ c.now c.ks x.k _ (HR.k.below HB.out) HKS.out HG1.out HG2.out).mono ?_;have z1421z:=@aa _ @GG;exact jA):p:=h
theorem KF(h:p:=by
 obtain⟨r0,r1,r2,r3,r4⟩:=cs5 Br;have ltr_1:=ae Br.out;go_wp2_with fail;refine (dF ⟨a1,l1,y1,a2,l2,y2,a3,l3,y3,(Y3 ⟨b,o,U⟩),l4,y4,a5,l5,y5⟩ c.now c.ks x.k _ (HR.k.below HB.out) HKS.out HG1.out HG2.out).mono ?_;have z1421z:=@aa _ @GF;exact jA):p:=h
theorem KE(h:p:=by
 obtain⟨r0,r1,r2,r3,r4⟩:=cs5 Br;have ltr_1:=ae Br.out;go_wp2_with fail;exact z956z):p:=h
theorem dI(h:p:=by
 obtain⟨k0,k1,k2,k3,k4,k5⟩:=cs6 Bk;have ltk_1:=ae Bk.out;exact z1176z):p:=h
theorem Kj(h:p:=by
 exact z53z):p:=h
theorem Ki(h:p:=by
 have z1022z:=@aa _ @MF;exact mT):p:=h
theorem Kh(h:p:=by
 repeat (go_big_quiet_step (first|(go_at_call 98;exact Calls.wide (HC0.out _))|fail))
 refine wpQuiet_nil ?_;rintro _ ⟨q1,rfl⟩;have z1517z:=@aa _ @E5;exact rU):p:=h
theorem bQ(h:p:=by
 go_wp2_with fail;refine bV ba ba ?_;exact z1202z):p:=h
theorem JS(h:p:=by
 have HTv:=aa hvr;have HZv0:=aa z0;have HZv2:=aa z2;have HZv3:=aa z3;have HZv5:=aa z5;clear hat hx z0 z2 z3 z5 hvr;have z1507z:=@aa _ @Ff;exact dG):p:=h
theorem mJ(h:p:=by
 obtain⟨b,o,v,rfl,hb,hx,hat⟩:=cj (HR.v.below HB.out) hlt;have z1689z:=@aa _ @CY;exact eM):p:=h
theorem Jo(h:p:=by
 refine (gZ _ _ hm).mono ?_;exact z212z):p:=h
theorem Jn(h:p:=by
 refine (oJ u _).mono ?_;have z1503z:=@aa _ @Fh;exact jt):p:=h
theorem jD(h:p:=by
 rintro e w1 ⟨r,rfl,hr,rfl⟩;by_cases hq:r=Y_;case neg=>
  exact ali
 have h3:=aa (hr.1 hq);subst hq;clear hr;go_wp2_with fail;exact z1268z):p:=h
theorem Jg(h:p:=by
 have hne0:=Wd.ne w1;have HC0:=aa (λq:Wd w1=>nW ⟨a1,l1,y1,a2,l2,y2,(Y3 ⟨b,o,U⟩),l3,y3,a4,l4,y4,a5,l5,y5⟩ c.now c.ks v.k q.w (HR.k.below (HW.trans (q.b.mono HW.size))) (λj y h1 h2=>HKH.out ⟨j,y,h1,h2⟩));have z53z:=@aa _ @ahX;exact aC):p:=h
theorem Jf(h:p:=by
 obtain⟨hne0,HC0⟩:=agf;have z53z:=@aa _ @ahW;exact aC):p:=h
theorem Je(h:p:=by
 obtain⟨hne0,HC0⟩:=agf;have z53z:=@aa _ @ahV;exact aC):p:=h
theorem Jd(h:p:=by
 obtain⟨yw,hne0,HC0⟩:=agn;have z53z:=@aa _ @ahU;exact aC):p:=h
theorem Jc(h:p:=by
 obtain⟨yw,hne0,HC0⟩:=agn;have z53z:=@aa _ @ahT;exact aC):p:=h
theorem gI(h:p:=by
 obtain⟨Gk,Gr,HW⟩:=gN;obtain⟨k0,k1,k2,k3,k4,k5⟩:=sl6 Gk;obtain⟨r0,r1,r2,r3,r4,r5,r6,r7⟩:=sl8 Gr;exact z1279z):p:=h
theorem Jb(h:p:=by
 by_cases hok:qJ x;rotate_left
 ·have HOK:=aa hok;clear hok;have Gk:=Bk;have z1102z:=@aa _ @LI;exact s8
 have HOK:=aa hok;clear hok;by_cases hk0:0<k;rotate_left
 ·obtain⟨hd,Gk⟩:=mY;have z1102z:=@aa _ @LH;exact s8
 have ek:((k:Int) - 1).toNat=k - 1:=af
 obtain⟨b',o',y,e',hb',hy,haty⟩:=cj (HR.v.below HB.out) (show k - 1<l3 by omega);cases e';have y0:wr.cell? ⟨b,o+(k - 1)*8,U⟩=Y3 (I y.n):=by
  exact ng
 have HXy:=aa hy;clear hy haty;cases hless:Yk y.n.toList x.n.toList
 ·have z968z:=@aa _ @Rx;exact xE
 ·have z968z:=@aa _ @Rw;exact xE):p:=h
theorem sJ(h:p:=by
 obtain⟨b,o,x,rfl,hb,hx,hat⟩:=cj (HR.v.below HB.out) hlt;have z1689z:=@aa _ @CX;exact eM):p:=h
theorem I3(h:p:=by
 have hl4:c.xs.length=l4:=M5
 have hm4:l4<=9223372036854775807:=Yl hr.x.2.1 hr.x.2.2.1;have z792z:=@aa _ @T2;exact x8):p:=h
theorem sG(h:p:=by
 have z1618z:=@aa _ @DW;exact rB):p:=h
theorem II(h:p:=by
 by_cases e:j=k
 ·subst e;rw[HXv.out] at hz;obtain rfl:=Yd hz;exact⟨⟨i2,kd2,HG1.out,HG2.out⟩,Zb ⟨j4,y,HJ.out,HN.out,HVN.out⟩⟩
 ·exact HQ.out j z af hz):p:=h
theorem IH(h:p:=by
 exact z613z):p:=h
theorem IG(h:p:=by
 by_cases e:j=k
 ·subst e;rw[HXx.out] at hz;obtain rfl:=Yd hz;exact⟨⟨i2,kd2,HG1.out,HG2.out⟩,Zc HEm.out⟩
 ·exact HQ.out j z af hz):p:=h
theorem IF(h:p:=by
 by_cases e:j=k
 ·subst e;rw[HXv.out] at hz;obtain rfl:=Yd hz;exact⟨⟨i2,kd2,HG1.out,HG2.out⟩,Zc HEm.out⟩
 ·exact HQ.out j z af hz):p:=h
theorem jB(h:p:=by
 go_wp2_with fail;refine⟨⟨k+1,by omega,by go_num,λj z hj hz=>?_,HB.out,Bk.out⟩,by simp[intOf];omega⟩;exact z1322z):p:=h
theorem Iu(h:p:=by
 exact z889z):p:=h
theorem sy(h:p:=by
 obtain⟨j3,hj3⟩:=hbd.at;have hl3':j3<l3:=by have h1:=(Yc.1 hj3).1;omega
 obtain⟨b3,o3,v',rfl,hb3,hv',hat⟩:=cj HR.v hl3';rw[hj3] at hv';obtain rfl:=Yd hv';exact z1341z):p:=h
theorem Ir(h:p:=by
 have tw:=λq:Wd q1.w=>(q.cell hbw1).trans hcw1;have vw:=λq:Wd q1.w=>(q.cell hbv1).trans hcv1;have hne0:=Wd.ne q1.w;exact Yb Gk (Yb Gx (Yb Gy (Yb HW (Yb k2 (Yb x3 (Yb y3 (Yb tw (Yb vw hne0))))))))):p:=h
theorem Iq(h:p:=by
 have hne0:=Wd.ne q1.w;have z1z:=@aa _ @akB;exact bC):p:=h
theorem sx(h:p:=by
 have Gk:=Bk;have Gx:=Bx;have Gy:=By;have HW:=HB;have k2:=λq:Wd q1.w=>q.slot (o:=2) Gk.out rfl;have x3:=λq:Wd q1.w=>q.slot (o:=3) Gx.out rfl;have y3:=λq:Wd q1.w=>q.slot (o:=3) Gy.out rfl;exact z1344z):p:=h
theorem Ih(h:p:=by
 have HZx2:=aa z2;have HZx4:=aa z4;clear hat hx z0 z2 z4 hvr;by_cases hok:uf x;rotate_left
 ·have HOK:=aa hok;clear hok;have Gk:=Bk;have z1744z:=@aa _ @B7;exact lQ
 have HOK:=aa hok;clear hok;by_cases hk0:0<k;rotate_left
 ·obtain⟨hd,Gk⟩:=mY;have z1744z:=@aa _ @B6;exact lQ
 have ek:((k:Int) - 1).toNat=k - 1:=af
 obtain⟨b',o',y,e',hb',hy,haty⟩:=cq (HR.p.below HB.out) (show k - 1<l5 by omega);cases e';have y0:wr.cell? ⟨b,o+(k - 1)*6,U⟩=Y3 (I y.n):=by
  exact ng
 have HXy:=aa hy;clear hy haty;cases hless:Yk y.n.toList x.n.toList
 ·have z917z:=@aa _ @Se;exact xQ
 ·have z917z:=@aa _ @Sd;exact xQ):p:=h
theorem sr(h:p:=by
 obtain⟨b,o,x,rfl,hb,hx,hat⟩:=cq (HR.p.below HB.out) hlt;obtain⟨va,vl,vc,hvr,z0,z2,z4,c0,c1,c2,c3,c4,c5⟩:=bD hat;have HXx:=aa hx;have HTx:=aa hvr;have HZx0:=aa z0;exact z1357z):p:=h
theorem Ie(h:p:=by
 exact z968z):p:=h
theorem Ic(h:p:=by
 have z53z:=@aa _ @ah8;exact aC):p:=h
theorem so(h:p:=by
 have HC0:=aa (λq:Wd wr=>(iS x.n x.c x.z x.k x.x x.m x.y va vl vc x.zs q.w HZx0.out HZx2.out HZx3.out HZx5.out (HTx.below q.b)).mono (λ_ _ h=>ar.yes h HOK.out));exact z1360z):p:=h
theorem Hy(h:p:=by
 exact z334z):p:=h
theorem sk(h:p:=by
 have HR:=aa hr;have hl1:c.ns.length=l1:=by simpa using (show (c.ns.map ndF).length=l1 from hr.n.1)
 have hm1:l1<=9223372036854775807:=Yl hr.n.2.1 hr.n.2.2.1;exact z1370z):p:=h
theorem Hu(h:p:=by
 have z53z:=@aa _ @aif;exact aC):p:=h
theorem Ht(h:p:=by
 exact z1026z):p:=h
theorem si(h:p:=by
 have HC0:=aa (λq:Wd wr=>(n7 x.n x.z x.c x.s x.u x.d va vl vc x.zs q.w HZx0.out HZx1.out (HTx.below q.b)).mono (λ_ _ h=>ar.yes h HOK.out));exact z1376z):p:=h
theorem GI(h:p:=by
 go_wp2;go_ret;exact ar.f (λh=>HKH.out (h.2 k x HXx.out).1) HB.out):p:=h
theorem GH(h:p:=by
 have pr:=ck4 Br;have z1726z:=@aa _ @Cm;exact lT):p:=h
theorem GG(h:p:=by
 have pr:=ck4 Br;have hbv:=Yj HB3.out HB.size;have v1:=(ai HB.out HB3.out).trans HC1.out;have v3:=(ai HB.out HB3.out).trans HC3.out;have v4:=(ai HB.out HB3.out).trans HC4.out;have v5:=(ai HB.out HB3.out).trans HC5.out;clear HC1 HC3 HC4 HC5 HB3;by_cases hno:y.m=x.n;rotate_left
 ·have HNo:=aa hno;clear hno;have n1:=bA HNo.out;have z912z:=@aa _ @Si;exact lf
 have HY1:=aa hno;have q1:=aP hno;clear hno;by_cases hno:x.z<=y.c;rotate_left
 ·have HNo:=aa hno;clear hno;have n1:y.c<x.z:=by have:=HNo.out;omega
  have z912z:=@aa _ @Sh;exact lf
 have HY2:=aa hno;have q2:decide (y.c<x.z)=Y8:=by simp;omega
 clear hno;by_cases hno:y.k=x.k;rotate_left
 ·have HNo:=aa hno;clear hno;have n1:=bA HNo.out;have z912z:=@aa _ @Sg;exact lf
 have HY3:=aa hno;have q3:=aP hno;clear hno;by_cases hno:y.x=x.x;rotate_left
 ·have HNo:=aa hno;clear hno;have n1:(y.x==x.x)=Y8:=by simpa using HNo.out
  have z912z:=@aa _ @Sf;exact lf
 have HY4:=aa hno;have q4:(y.x==x.x)=Y_:=by simpa using hno
 clear hno;have z1726z:=@aa _ @Cj;exact lT):p:=h
theorem GF(h:p:=by
 have z828z:=@aa _ @Tu;exact cB):p:=h
theorem jA(h:p:=by
 rintro e w2 ⟨rfl,hb3⟩;clear k0 k1 k2 k3 k4 k5 ltk_1 r0 r1 r2 r3 r4 ltr_1;replace Bk:=upK Bk hb3;replace Br:=upK Br hb3;replace HB:=upB HB hb3;clear hb3;exact z1421z):p:=h
theorem FX(h:p:=by
 have z956z:=@aa _ @RF;exact xI):p:=h
theorem FW(h:p:=by
 have z1176z:=@aa _ @KF;exact dI):p:=h
theorem FV(h:p:=by
 have z1279z:=@aa _ @Jg;exact gI):p:=h
theorem FU(h:p:=by
 have z1279z:=@aa _ @Jf;exact gI):p:=h
theorem jz(h:p:=by
 obtain⟨r,hre⟩:∃r:Int,e=Y9 (Y4 Y5 r):=by rcases hf with ⟨j,y,_,_,h⟩|⟨_,h⟩ <;> exact⟨_,h⟩
 subst hre;clear hf;exact z1454z):p:=h
theorem FM(h:p:=by
 exact z933z):p:=h
theorem mA(h:p:=by
 rintro e w1 ⟨hb2,hf⟩;clear k0 k1 k2 k3 k4 k5 ltk_0;obtain⟨HA0,hbx⟩:=bB hb2;replace Bk:=upK Bk hbx;have Br:=aa HA0;exact z1467z):p:=h
theorem FJ(h:p:=by
 rintro _ ⟨q,rfl⟩;have HB2:=upB HW q.b;have Ck:=upK Gk q.b;clear hne0 HW HB HC0 k0 k1 k2 k3 k4 k5 e4w Gk Bk;have HB:=HB2;clear HB2;have Bk:=Ck;clear Ck;go_wp2_with fail;go_ret;exact z710z):p:=h
theorem my(h:p:=by
 have z1740z:=@aa _ @Ca;exact lR):p:=h
theorem Fi(h:p:=by
 go_wp2_with fail;refine (iF a len cap zs 6 _ (HR.below (ak _ _))).mono ?_;rintro e w1 ⟨r,rfl,hr,hb⟩;obtain⟨hsl,hb1,-⟩:=ix hb;have HB:Hid (Below w.heap.size w w1):=hb1;by_cases hq:r=Y_;case neg=>
  exact ajN
 have h6:=aa (hr.1 hq);subst hq;have hc4:=ck4 hsl;have hc7:=ck7 hsl;clear hr hsl hb hb1;exact z607z):p:=h
theorem Fh(h:p:=by
 go_wp2_with fail;refine (iF a len cap zs 8 _ (HR.below (ak _ _))).mono ?_;rintro e w1 ⟨r,rfl,hr,hb⟩;go_wp2_with fail;go_ret;exact⟨r,rfl,⟨λh=>⟨h0.out,h1.out,h2.out,h3.out,h4.out,hr.1 h⟩,λh=>hr.2 h.2.2.2.2.2⟩,(ix hb).2.1⟩):p:=h
theorem jt(h:p:=by
 rintro e w1 ⟨r,rfl,hr,rfl⟩;by_cases hq:r=Y_;case neg=>
  exact alg
 have h4:=aa (hr.1 hq);subst hq;clear hr;exact z1503z):p:=h
theorem Ff(h:p:=by
 go_wp2_with fail;refine (ft ⟨a1,l1,y1,a2,l2,y2,(Y3 ⟨b,o,U⟩),l3,y3,a4,l4,y4,a5,l5,y5⟩ c.now c.xs v.m _ (HR.x.below (HB.trans ((ak _ _).mono HB.size)))).mono ?_;have z933z:=@aa _ @RY;exact o_):p:=h
theorem dG(h:p:=by
 obtain⟨k0,k1,k2,k3,k4,k5⟩:=cs6 Bk;have ltk_0:=ae Bk.out;exact z1507z):p:=h
theorem E6(h:p:=by
 have z1344z:=@aa _ @Iq;exact sx):p:=h
theorem E5(h:p:=by
 have hcw1:=(q1.cell hbw).trans hcw;have hbw1:=Yj hbw q1.b.size;have hcv1:=(q1.cell hbv).trans hcv;have hbv1:=Yj hbv q1.b.size;clear hcw hbw hcv hbv;rcases Bool.eq_false_or_eq_true v.x with hs|hs;rotate_left
 ·have HSi:=aa hs;rw[hs] at hcv1;clear hs;obtain⟨Gk,Gx,Gy,HW,k2,x3,y3,tw,vw,hne0⟩:=Nf;have z1z:=@aa _ @akC;exact bC
 have HSi:=aa hs;rw[hs] at hcv1;clear hs;by_cases hin:InL q.zs t
 ·have HIn:=aa hin;clear hin;obtain⟨Gk,Gx,Gy,HW,k2,x3,y3,tw,vw,hne0⟩:=Nf;have HC0:=aa (λqq:Wd q1.w=>(bW qa ql qc q.zs t qq.w (HQ0.below (HW.trans (qq.b.mono HW.size)))).mono (λ_ _ h=>ar.yes h HIn.out));have z53z:=@aa _ @aij;exact aC
 ·have HIn:=aa hin;clear hin;obtain⟨Gk,Gx,Gy,HW,k2,x3,y3,tw,vw,hne0⟩:=Nf;have HC0:=aa (λqq:Wd q1.w=>(bW qa ql qc q.zs t qq.w (HQ0.below (HW.trans (qq.b.mono HW.size)))).mono (λ_ _ h=>ar.no h HIn.out));have z53z:=@aa _ @aii;exact aC):p:=h
theorem rU(h:p:=by
 obtain⟨HB1,Ck⟩:=iz;have Cx:=upK Gx q1.b;have Cy:=upK Gy q1.b;clear hne0 HW HB HC0 k0 k1 k2 k3 k4 k5 x3 tw Gk Gx Gy Bk Bx By px3;have HB:=HB1;clear HB1;have Bk:=Ck;clear Ck;have Bx:=Cx;clear Cx;have By:=Cy;clear Cy;exact z1517z):p:=h
theorem EP(h:p:=by
 have HC0:=aa (λq:Wd wr=>fL ⟨a1,l1,y1,a2,l2,y2,a3,l3,y3,a4,l4,y4,a5,l5,y5⟩ c t q.w (HR.below (HW.trans (q.b.mono HW.size))) HX.out HV.out HNE.out HD.out);have z1202z:=@aa _ @Ki;exact bQ):p:=h
theorem EO(h:p:=by
 have HC0:=aa (λq:Wd wr=>fv ⟨a1,l1,y1,a2,l2,y2,(Y3 ⟨b3,o3,U⟩),l3,y3,a4,l4,y4,a5,l5,y5⟩ c t q.w (HR.below (HW.trans (q.b.mono HW.size))) HX.out HV.out HNE.out HJ.out HD.out);have z1202z:=@aa _ @Kh;exact bQ):p:=h
theorem rR(h:p:=by
 have Gk:=Bk;have Gx:=Bx;have Gy:=By;have HW:=HB;obtain⟨k0,k1,k2,k3,k4,k5⟩:=sl6 Gk;have x3:=λq:Wd wr=>q.slot (o:=3) Gx.out rfl;have tw:=λq:Wd wr=>(q.cell hbw).trans hcw;have hne0:=Wd.ne wr;exact z1538z):p:=h
theorem D2(h:p:=by
 exact z917z):p:=h
theorem D1(h:p:=by
 have z53z:=@aa _ @ah0;exact aC):p:=h
theorem rE(h:p:=by
 have HC0:=aa (λq:Wd wr=>(iU x.n x.c x.z va vl vc x.zs x.d x.p q.w HZx0.out HZx2.out HZx4.out (HTx.below q.b)).mono (λ_ _ h=>ar.yes h HOK.out));exact z1609z):p:=h
theorem DW(h:p:=by
 exact z1298z):p:=h
theorem rB(h:p:=by
 have hl3:c.vs.length=l3:=tG
 have hm3:l3<=9223372036854775807:=Yl hr.v.2.1 hr.v.2.2.1;exact z1618z):p:=h
theorem C5(h:p:=by
 have HZx0:=aa z0;have HZx2:=aa z2;have HZx4:=aa z4;clear hat hx z0 z2 z4;by_cases hok:gB x;rotate_left
 ·have HOK:=aa hok;clear hok;have Gk:=Bk;obtain⟨HW,k3⟩:=tJ;obtain⟨x0,x1,x2,x3,x4⟩:=pQ;have hne0:=Wd.ne wr;have HC0:=aa (λq:Wd wr=>(fK x.n x.z x.k x.x x.v q.w HZx0.out HZx2.out HZx4.out).mono (λ_ _ h=>ar.no h HOK.out));have z53z:=@aa _ @ah5;exact aC
 have HOK:=aa hok;clear hok;by_cases hk0:0<k;rotate_left
 ·obtain⟨hd,Gk⟩:=mY;obtain⟨HW,k3⟩:=tJ;obtain⟨x0,x1,x2,x3,x4⟩:=pQ;have hne0:=Wd.ne wr;have HC0:=aa (λq:Wd wr=>(fK x.n x.z x.k x.x x.v q.w HZx0.out HZx2.out HZx4.out).mono (λ_ _ h=>ar.yes h HOK.out));have z53z:=@aa _ @ah4;exact aC
 have ek:((k:Int) - 1).toNat=k - 1:=af
 obtain⟨b',o',y,e',hb',hy,haty⟩:=eI (HR.x.below HB.out) (show k - 1<l4 by omega);cases e';have y0:wr.cell? ⟨b,o+(k - 1)*5,U⟩=Y3 (I y.n):=by
  exact ng
 have HXy:=aa hy;clear hy haty;cases hless:Yk y.n.toList x.n.toList
 ·have z959z:=@aa _ @RD;exact xH
 ·have z959z:=@aa _ @RC;exact xH):p:=h
theorem C4(h:p:=by
 have HZx0:=aa z0;have HZx2:=aa z2;have HZx4:=aa z4;clear hat hx z0 z2 z4;obtain⟨k0,k1,k2,k3,k4,k5⟩:=cs6 Bk;have ltk_0:=ae Bk.out;go_wp2_with fail;refine (iP ⟨a1,l1,y1,a2,l2,y2,a3,l3,y3,(Y3 ⟨b,o,U⟩),l4,y4,a5,l5,y5⟩ c.now c.vs x.v _ (HR.v.below (HB.trans ((ak _ _).mono HB.size)))).mono ?_;rintro e w1 ⟨hb2,hf⟩;clear k0 k1 k2 k3 k4 k5 ltk_0;obtain⟨HA0,hbx⟩:=bB hb2;replace Bk:=upK Bk hbx;have Br:=aa HA0;replace HB:=upB HB hbx;clear hb2 hbx HA0;clear pk hb c0 c1 c2 c3 c4;by_cases hkh:af0 c x.k;rotate_left
 ·have HKH:=aa hkh;clear hkh;have z1454z:=@aa _ @FX;exact jz
 obtain⟨i2,kd2,g1,g2⟩:=hkh;have HG1:=aa g1;have HG2:=aa g2;have hi20:¬((i2:Int)<0):=af
 have hi21:decide ((i2:Int)<0)=Y8:=aF
 clear g1 g2;by_cases he:x.v=⟨#[]⟩
 ·have hq:=cN he;have HEm:=aa he;clear he;have z1454z:=@aa _ @FW;exact jz
 have hq:=aX he;have HEm:=aa he;clear he;rcases hf with ⟨j3,y,h1,h2,rfl⟩|⟨hh,rfl⟩;rotate_left
 ·have HH:=aa hh;clear hh;have z956z:=@aa _ @RE;exact xI
 have hl3':j3<l3:=by have h3:=(Yc.1 h1).1;omega
 obtain⟨b3,o3,y',rfl,hb3,hy',hat⟩:=cj HR.v hl3';rw[h1] at hy';obtain rfl:=Yd hy';obtain⟨va,vl,vc,hvr,z0,z2,z3,z5,c0,c1,c2,c3,c4,c5,c6,c7⟩:=bh hat;have HJ:=aa h1;have HN:=aa h2;have hj0:¬((j3:Int)<0):=af
 have hj1:decide ((j3:Int)<0)=Y8:=aF
 have HC1:=aa c1;have HC3:=aa c3;have HC4:=aa c4;have HC5:=aa c5;have HB3:=aa hb3;clear hy' hat hvr z0 z2 z3 z5 c0 c1 c2 c3 c4 c5 c6 c7 h1 h2 hb3;have z1176z:=@aa _ @KG;exact dI):p:=h
theorem lV(h:p:=by
 obtain⟨b,o,x,rfl,hb,hx,hat⟩:=eI (HR.x.below HB.out) hlt;obtain⟨z0,z2,z4,c0,c1,c2,c3,c4⟩:=cn hat;have HXx:=aa hx;exact z1685z):p:=h
theorem CZ(h:p:=by
 have HJ:=aa hj3;have HD:=aa hbd;have hcv:=(ai HB.out hb3).trans c4;have hbv:=Yj hb3 HB.size;have hj0:(0:Int)<=j3:=af
 clear hv' hat hvr z0 z2 z3 z5 c0 c1 c2 c3 c4 c5 c6 c7 hj3 hbd;have z1538z:=@aa _ @EO;exact rR):p:=h
theorem CY(h:p:=by
 have HXv:=aa hx;exact z1230z):p:=h
theorem CX(h:p:=by
 have HXx:=aa hx;have HTx:=aa hvr;have HZx0:=aa z0;have HZx2:=aa z2;have HZx3:=aa z3;have HZx5:=aa z5;clear hat hx z0 z2 z3 z5 hvr;exact z1285z):p:=h
theorem eM(h:p:=by
 obtain⟨va,vl,vc,hvr,z0,z2,z3,z5,c0,c1,c2,c3,c4,c5,c6,c7⟩:=bh hat;exact z1689z):p:=h
theorem Cq(h:p:=by
 obtain⟨v1w,v3w,v4w,v5w,hne0⟩:=agz;exact z912z):p:=h
theorem Cm(h:p:=by
 have hne0:=Wd.ne w2;have z1z:=@aa _ @akz;exact bC):p:=h
theorem Cj(h:p:=by
 obtain⟨v1w,v3w,v4w,v5w,hne0⟩:=agz;have z1z:=@aa _ @akA;exact bC):p:=h
theorem lT(h:p:=by
 obtain⟨Gk,Gr,HW⟩:=gN;have k2:=λq:Wd w2=>q.slot (o:=2) Gk.out rfl;obtain⟨r0,r1,r2,r3,r4⟩:=sl5 Gr;exact z1726z):p:=h
theorem Ca(h:p:=by
 exact z1471z):p:=h
theorem lR(h:p:=by
 repeat (go_big_quiet_step (first|(go_at_call 97;exact Calls.wide (HC0.out _))|fail))
 refine wpQuiet_nil ?_;exact z1740z):p:=h
theorem B8(h:p:=by
 obtain⟨yw,hne0⟩:=tK;have z1609z:=@aa _ @D2;exact rE):p:=h
theorem B7(h:p:=by
 have hne0:=Wd.ne wr;have HC0:=aa (λq:Wd wr=>(iU x.n x.c x.z va vl vc x.zs x.d x.p q.w HZx0.out HZx2.out HZx4.out (HTx.below q.b)).mono (λ_ _ h=>ar.no h HOK.out));have z53z:=@aa _ @ah1;exact aC):p:=h
theorem B6(h:p:=by
 have hne0:=Wd.ne wr;have z1609z:=@aa _ @D1;exact rE):p:=h
theorem lQ(h:p:=by
 obtain⟨HW,k4⟩:=M8;obtain⟨x0,x1,x2,x3,x4⟩:=pQ;have x5:=λq:Wd wr=>(q.cell hb).trans c5;exact z1744z):p:=h
theorem afM {u k:Nat} (h:u<10 ^ (k+1)):(YV u).length<=k+1:=by
 induction k generalizing u with
 | zero=>rw[YV,dif_pos iy];simp
 | succ k ih=>
  rw[YV]
  split
  ·simp
  ·rw[List.length_append];have:=@ih (u / 10) (by rw[Nat.pow_succ] at h;omega)
   simp;omega
theorem Qt(u:Nat) (h:0<u) (r:List UInt8):(if u / 10=0 then [] else YV (u / 10))++(UInt8.ofNat (48+u % 10) ::r)=YV u++r:=by
 conv=>rhs;rw[YV]
 split
 ·rename_i h1;rw[dif_pos af,Nat.mod_eq_of_lt af];rfl
 ·rename_i h1;rw[dif_neg af];simp
def nL(b:Int):Bool:=decide (97<=b) && decide (b<=122)
def afL(b:Int):Bool:=decide (48<=b) && decide (b<=57)
def nbB(b:Int):Bool:=nL b || afL b || decide (b=95)
def okB(i:Nat) (b:Int):Bool:=if i=0 then nL b else nbB b
def aO(s:ByteArray):Prop:=1<=s.size/\s.size<=20/\∀i (h:i<s.size),okB i ((s[i]'h).toNat:Int)=Y_
def cY(p:Prop) (w:World) (e:Ending) (w':World):Prop:=∃r:Bool,e=Y9 (Y7 r)/\(r=Y_↔p)/\w=w'
theorem jN {s:ByteArray} {k:Nat} (hlt:k<s.size) (h:okB k ((s[k]'hlt).toNat:Int)=Y8):(Y8=Y_↔aO s):=by
 constructor
 ·intro h;cases h
 ·intro h3;have:=h3.2.2 k hlt;rw[h] at this;exact this
theorem oI {s:ByteArray} {k:Nat} (hlt:k<s.size) (h:okB k ((s[k]'hlt).toNat:Int)=Y_) (ha:∀i (h:i<s.size),i<k->okB i ((s[i]'h).toNat:Int)=Y_):
  ∀i (h:i<s.size),i<k+1->okB i ((s[i]'h).toNat:Int)=Y_:=by
 intro i hi hk;by_cases e:i=k
 ·subst e;exact h
 ·exact ha i hi af
theorem bU(s:ByteArray) (w:World) (hs:s.size<=9223372036854775807):
  Calls Tryz.prog 137 #[I s] w (cY (aO s) w):=by
 by_cases h1:s.size<1
 ·go_enter Tryz.func137,Tryz.ntmps137;exact pU
 by_cases h2:20<s.size
 ·go_enter Tryz.func137,Tryz.ntmps137;exact pU
 go_enter Tryz.func137,Tryz.ntmps137;go_wp2;go_loop [3] (λi=> ∃k:Nat,k<=s.size/\i=Y4 Y5 k/\∀i (h:i<s.size),i<k->okB i ((s[i]'h).toNat:Int)=Y_) (λi=>s.size - (intOf i).toNat);case atStart=>exact⟨0,by omega,rfl,λi _ h=>by omega⟩
 case round=>
  obtain⟨k,hk,rfl,hall⟩:=hrel;have HA:Hid (∀i (h:i<s.size),i<k->okB i ((s[i]'h).toNat:Int)=Y_):=hall;clear hall;by_cases hlt:k<s.size
  ·cases hok:okB k ((s[k]'hlt).toNat:Int)
   ·have HB:Hid (okB k ((s[k]'hlt).toNat:Int)=Y8):=hok;by_cases hk0:k=0
    ·have hkb:((k:Int)==0)=Y_:=by simp[hk0]
     have hk1:k<1:=af
     unfold okB nL at hok;rw[if_pos hk0] at hok;simp only[Bool.and_eq_false_iff,decide_eq_false_iff_not] at hok;clear hk0;rcases (show ((s[k]'hlt).toNat:Int)<97\/(97<=((s[k]'hlt).toNat:Int)/\122<((s[k]'hlt).toNat:Int)) by omega) with hA|⟨hA,hB⟩;all_goals
      clear hok
      go_wp2
      all_goals first|(exfalso;rename_i hx;simp at hx;omega)|(go_ret;exact⟨Y8,rfl,jN hlt HB.out,rfl⟩)
    ·have hkb:((k:Int)==0)=Y8:=by simp[hk0]
     unfold okB nbB nL afL at hok;rw[if_neg hk0] at hok;simp only[Bool.or_eq_false_iff,Bool.and_eq_false_iff,decide_eq_false_iff_not] at hok;have hne:(((s[k]'hlt).toNat:Int) !=95)=Y_:=by simp;omega
     rcases (show (((s[k]'hlt).toNat:Int)<97\/(97<=((s[k]'hlt).toNat:Int)/\122<((s[k]'hlt).toNat:Int)))/\(((s[k]'hlt).toNat:Int)<48\/(48<=((s[k]'hlt).toNat:Int)/\57<((s[k]'hlt).toNat:Int))) by omega) with ⟨hA|⟨hA,hB⟩,hC|⟨hC,hD⟩⟩;all_goals
      clear hok
      try omega
     all_goals
      go_wp2
      all_goals first|(exfalso;rename_i hx;simp at hx;omega)|(go_ret;exact⟨Y8,rfl,jN hlt HB.out,rfl⟩)
   ·have HB:Hid (okB k ((s[k]'hlt).toNat:Int)=Y_):=hok;by_cases hk0:k=0
    ·have hkb:((k:Int)==0)=Y_:=by simp[hk0]
     have hk1:k<1:=af
     unfold okB nL at hok;rw[if_pos hk0] at hok;simp only[YE,decide_eq_true_eq] at hok;obtain⟨hA,hB⟩:=hok;clear hk0;exact zW
    ·have hkb:((k:Int)==0)=Y8:=by simp[hk0]
     unfold okB nbB nL afL at hok;rw[if_neg hk0] at hok;simp only[Bool.or_eq_true,YE,decide_eq_true_eq] at hok;rcases (show (97<=((s[k]'hlt).toNat:Int)/\((s[k]'hlt).toNat:Int)<=122)\/(48<=((s[k]'hlt).toNat:Int)/\((s[k]'hlt).toNat:Int)<=57)\/(95<=((s[k]'hlt).toNat:Int)/\((s[k]'hlt).toNat:Int)<=95) by omega) with ⟨hA,hB⟩|⟨hA,hB⟩|⟨hA,hB⟩
     ·clear hok;exact zW
     ·clear hok;exact zW
     ·clear hok;have hne:(((s[k]'hlt).toNat:Int) !=95)=Y8:=by simp;omega
      exact zW
  ·exact O1
def ay(w:World) (a:Option Addr) (len cap:Nat) (zs:List ByteArray):Prop:=
 zs.length=len/\len<=cap/\cap<=9223372036854775807/\(∀(j:Nat) x,zs[j]?=Y3 x->x.size<=9223372036854775807)/\
 (zs=[]\/∃b o,a=Y3 ⟨b,o,U⟩/\b<w.heap.size/\∀(j:Nat) x,zs[j]?=Y3 x->w.cell? ⟨b,o+j,U⟩=Y3 (I x))
theorem ai {w:World} (hb:Below w.heap.size w w') {b o:Nat} (h:b<w.heap.size):w'.cell? ⟨b,o,U⟩=w.cell? ⟨b,o,U⟩:=by
 simp[World.cell?,hb.block b h]
theorem ay.below {w:World} {len:Nat} {zs:List ByteArray} (h:ay w a len cap zs) (hb:Below w.heap.size w w'):ay w' a len cap zs:=by
 obtain⟨h1,h2,h3,h4,h5⟩:=h;refine⟨h1,h2,h3,h4,?_⟩;rcases h5 with h5|⟨b,o,rfl,hlt,hc⟩
 ·exact Or.inl h5
 ·exact Or.inr ⟨b,o,rfl,Yj hlt hb.size,λj x hx=>by rw[ai hb hlt];exact hc j x hx⟩
theorem ay.at {w:World} {len:Nat} {zs:List ByteArray} (h:ay w a len cap zs) {k:Nat} (hk:k<len):
  ∃b o x,a=Y3 ⟨b,o,U⟩/\b<w.heap.size/\zs[k]?=Y3 x/\w.cell? ⟨b,o+k,U⟩=Y3 (I x)/\x.size<=9223372036854775807:=by
 obtain⟨h1,h2,h3,h4,h5⟩:=h;have hx:zs[k]?=Y3 (zs[k]'(by omega)):=Yi _;rcases h5 with h5|⟨b,o,rfl,hlt,hc⟩
 ·subst h5;simp at h1;omega
 ·exact⟨b,o,_,rfl,hlt,hx,hc k _ hx,h4 k _ hx⟩
theorem ig:(Tryz.prog.info? 9).map (λi=>(i.zero,i.size,i.bytes))=Y3 (Y3 (I ⟨#[]⟩),1,16):=by kernel_rfl
theorem au {w:World} {cs:Array Value} {t:TypeId} {fr:Nat×Nat} (h:w.heap[g]?=Y3 (Y6 cs t fr)) (v:Value):(w.setCell ⟨g,i,U⟩ v).heap[g]?=Y3 (Y6 (cs.setIfInBounds i v) t fr):=by
 obtain⟨hl,hh⟩:=Yw.1 h;unfold YO;simp[Array.getElem?_modify,h]
theorem bA {a b:ByteArray} (h:¬a=b):(a.toList==b.toList)=Y8:=by
 rw[beq_eq_false_iff_ne];intro e;rw[Y2,Y2] at e;exact h (by cases a;cases b;simp at e;rw[e])
def ar(p:Prop) (w:World) (e:Ending) (w':World):Prop:=∃r:Bool,e=Y9 (Y7 r)/\(r=Y_↔p)/\Below w.heap.size w w'
def gi(zs:List ByteArray):Prop:=∀(i:Nat) x,zs[i]?=Y3 x->aO x/\∀y,0<i->zs[i - 1]?=Y3 y->Yk y.toList x.toList=Y_
def eE(zs:List ByteArray) (most:Int):Prop:=(zs.length:Int)<=most/\gi zs
theorem gR:∀x y:List UInt8,(Yk y x || y==x)=!Yk x y
 | [],[]=>by simp[Yk]
 | _ ::_,[]=>by simp[Yk]
 | [],_ ::_=>by simp[Yk]
 | a ::x,b ::y=>by
  have ih:=gR x y;simp only[Yk];rcases Nat.lt_trichotomy a.toNat b.toNat with h|h|h
  ·have h1:=YZ.2 h;have h2:¬b<a:=λh'=>by have:=YZ.1 h';omega
   have h3:¬b=a:=λh'=>by subst h';omega
   simp[h1,h2,h3]
  ·obtain rfl:a=b:=UInt8.toNat_inj.1 h;have h2:¬a<a:=λh'=>by have:=YZ.1 h';omega
   simp[h2];simpa using ih
  ·have h1:=YZ.2 h;have h2:¬a<b:=λh'=>by have:=YZ.1 h';omega
   have h3:¬a=b:=λh'=>by subst h';omega
   simp[h1,h2,h3]
theorem cY.yes {p:Prop} {w:World} (h:cY p w e w') (hp:p):e=Y9 (Y7 Y_)/\w'=w:=by
 obtain⟨r,rfl,hr,rfl⟩:=h;exact⟨by rw[hr.2 hp],rfl⟩
theorem cY.no {p:Prop} {w:World} (h:cY p w e w') (hp:¬p):e=Y9 (Y7 Y8)/\w'=w:=by
 obtain⟨r,rfl,hr,rfl⟩:=h;cases r
 ·exact⟨rfl,rfl⟩
 ·exact absurd (hr.1 rfl) hp
theorem gi.step {zs:List ByteArray} {k:Nat} {x:ByteArray} (h:gi (zs.take k)) (hx:zs[k]?=Y3 x) (hn:aO x) (hy:∀y,0<k->zs[k - 1]?=Y3 y->Yk y.toList x.toList=Y_):gi (zs.take (k+1)):=by
 intro i z hz;rw[YD] at hz;split at hz
 ·rename_i hi;by_cases e:i=k
  ·subst e;rw[hx] at hz;obtain rfl:=Yd hz;refine⟨hn,λy h0 h1=>hy y h0 ?_⟩;rw[YD,if_pos af] at h1;exact h1
  ·have:=h i z (by rw[YD,if_pos af];exact hz);refine⟨this.1,λy h0 h1=>this.2 y h0 ?_⟩;rw[YD,if_pos af] at h1 ⊢;exact h1
 ·cases hz
theorem iF(a:Option Addr) (len cap:Nat) (zs:List ByteArray) (most:Int) (w:World) (hr:ay w a len cap zs):
  Calls Tryz.prog 139 #[J a len cap,Y4 Y5 most] w (ar (eE zs most) w):=by
 have HR:Hid (ay w a len cap zs):=hr;have hlc:=Yl hr.2.1 hr.2.2.1;have hzl:=hr.1;clear hr;go_enter Tryz.func139,Tryz.ntmps139;go_wp2;go_loopw [5] (λi wr=> ∃k:Nat,k<=len/\i=Y4 Y5 k/\Hid (gi (zs.take k))/\Hid (Below w.heap.size w wr)) (λi _=>len - (intOf i).toNat);case atStart=>exact⟨0,by omega,rfl,λi x h=>by simp at h,Yh _ _⟩
 case round=>
  obtain⟨k,hk,rfl,HE,HB⟩:=hrel;by_cases hlt:k<len
  ·obtain⟨b,o,x,rfl,hb,hx,hc,hsz⟩:=(HR.below HB.out).at hlt;by_cases hn:aO x
   ·have HY:Hid (∀w,Calls Tryz.prog 137 #[I x] w λe w'=>e=Y9 (Y7 Y_)/\w'=w):=λw=>(bU x w hsz).mono λ_ _ h=>h.yes hn;by_cases hk0:0<k
    ·obtain⟨b',o',y,e',hb',hy,hcy,-⟩:=(HR.below HB.out).at (k:=k - 1) af;cases e';have ek:((k:Int) - 1).toNat=k - 1:=af
     cases hless:Yk y.toList x.toList
     ·go_wp2;go_quiet ((go_at_call 137;exact YC (HY.out _)));go_wp2;go_ret;exact⟨Y8,rfl,⟨λh=>bY,λh=>absurd ((h.2 k x hx).2 y hk0 hy) (by rw[hless];decide)⟩,below_drewN HB.out _⟩
     ·go_wp2;go_quiet ((go_at_call 137;exact YC (HY.out _)));go_wp2;exact⟨⟨k+1,by omega,by go_num,HE.step hx hn (λy' _ hy'=>by rw[hy] at hy';obtain rfl:=Yd hy';exact hless),below_drewN HB.out _⟩,by simp[intOf];omega⟩
    ·have hd:decide ((0:Int)<k)=Y8:=by simp;omega
     go_wp2;go_quiet ((go_at_call 137;exact YC (HY.out _)));go_wp2;exact⟨⟨k+1,by omega,by go_num,HE.step hx hn (λy' h0 _=>absurd h0 hk0),below_drewN HB.out _⟩,by simp[intOf];omega⟩
   ·have HY:Hid (∀w,Calls Tryz.prog 137 #[I x] w λe w'=>e=Y9 (Y7 Y8)/\w'=w):=λw=>(bU x w hsz).mono λ_ _ h=>h.no hn;go_wp2;go_quiet ((go_at_call 137;exact YC (HY.out _)));go_wp2;go_ret;exact⟨Y8,rfl,⟨λh=>bY,λh=>absurd (h.2 k x hx).1 hn⟩,below_drewN HB.out _⟩
  ·obtain rfl:k=len:=af
   go_wp2;go_ret;refine⟨_,rfl,?_,HB.out⟩;have hR:=HE.out;rw[YH af] at hR;unfold eE;simp[hR,hzl]
def dA(s:ByteArray):Prop:=s=⟨#[]⟩\/aO s
def Inn(n a b:Int):Prop:=a<=n/\n<=b
theorem p8(n a b:Int) (w:World):
  Calls Tryz.prog 36 #[Y4 Y5 n,Y4 Y5 a,Y4 Y5 b] w (cY (Inn n a b) w):=by
 go_enter Tryz.func36,Tryz.ntmps36;go_wp2;all_goals (go_ret;exact⟨_,rfl,by unfold Inn;simp;omega,rfl⟩)
theorem uv(n:Int) (w:World):
  Calls Tryz.prog 138 #[Y4 Y5 n] w (cY (Inn n 0 1000000) w):=by
 go_enter Tryz.func138,Tryz.ntmps138;exact vO
theorem oK(n:Int) (w:World):
  Calls Tryz.prog 141 #[Y4 Y5 n] w (cY (Inn n 1 1048576) w):=by
 go_enter Tryz.func141,Tryz.ntmps141;exact vO
theorem oJ(n:Int) (w:World):
  Calls Tryz.prog 49 #[Y4 Y5 n] w (cY (Inn n 0 1000000) w):=by
 go_enter Tryz.func49,Tryz.ntmps49;exact vO
theorem aa {p:Prop} (h:p):Hid p:=h
theorem aX {s:ByteArray} (h:¬s=⟨#[]⟩):s.toList.isEmpty=Y8:=by
 have:=bA h;rw[Y2] at this ⊢;cases e:s.data.toList with
 | nil=>exact absurd (by cases s;simp at e;rw[e]) h
 | cons a l=>rfl
theorem Ai:(⟨#[]⟩:ByteArray).toList.isEmpty=Y_:=by rw[Y2];rfl
theorem ix {w:World} {vs:Array Value} (hb:Below (w.alloc (Y6 vs T)).heap.size (w.alloc (Y6 vs T)) w1):
  w1.heap[w.heap.size]?=Y3 (Y6 vs T (0,0))/\Below w.heap.size w w1/\w.heap.size<w1.heap.size:=by
 have hs:(w.alloc (Y6 vs T)).heap.size=w.heap.size+1:=aF
 have h1:=hb.size;refine⟨?_,?_,by omega⟩
 ·rw[hb.block _ af];show (w.heap.push _)[w.heap.size]?=_;simp
 ·exact ((Yh w.heap.size w).alloc (Ye _) _).trans (hb.mono af)
theorem an {w:World} {b:Nat} {vs:Array Value} {f:Nat×Nat} (h:w.heap[b]?=Y3 (Y6 vs T f)) (i:Nat):w.cell? ⟨b,i,U⟩=vs[i]?:=by simp[World.cell?,h]
theorem ck0 {w:World} {b:Nat} {f:Nat×Nat} (h:w.heap[b]?=Y3 (Y6 (v0 ::r).toArray T f)):w.cell? ⟨b,0,U⟩=Y3 v0:=an h 0
theorem ck1 {w:World} {b:Nat} {f:Nat×Nat} (h:w.heap[b]?=Y3 (Y6 (v0::v1 ::r).toArray T f)):w.cell? ⟨b,1,U⟩=Y3 v1:=an h 1
theorem ck2 {w:World} {b:Nat} {f:Nat×Nat} (h:w.heap[b]?=Y3 (Y6 (v0::v1::v2 ::r).toArray T f)):w.cell? ⟨b,2,U⟩=Y3 v2:=an h 2
theorem ck3 {w:World} {b:Nat} {f:Nat×Nat} (h:w.heap[b]?=Y3 (Y6 (v0::v1::v2::v3 ::r).toArray T f)):w.cell? ⟨b,3,U⟩=Y3 v3:=an h 3
theorem ck4 {w:World} {b:Nat} {f:Nat×Nat} (h:w.heap[b]?=Y3 (Y6 (v0::v1::v2::v3::v4 ::r).toArray T f)):w.cell? ⟨b,4,U⟩=Y3 v4:=an h 4
theorem ck5 {w:World} {b:Nat} {f:Nat×Nat} (h:w.heap[b]?=Y3 (Y6 (v0::v1::v2::v3::v4::v5 ::r).toArray T f)):w.cell? ⟨b,5,U⟩=Y3 v5:=an h 5
theorem ck6 {w:World} {b:Nat} {f:Nat×Nat} (h:w.heap[b]?=Y3 (Y6 (v0::v1::v2::v3::v4::v5::v6 ::r).toArray T f)):w.cell? ⟨b,6,U⟩=Y3 v6:=an h 6
theorem ck7 {w:World} {b:Nat} {f:Nat×Nat} {v7:Value} (h:w.heap[b]?=Y3 (Y6 (v0::v1::v2::v3::v4::v5::v6::v7 ::r).toArray T f)):w.cell? ⟨b,7,U⟩=Y3 v7:=an h 7
theorem ak(w:World) (o:Obj):Below w.heap.size w (w.alloc o):=(Yh _ _).alloc (Ye _) o
theorem gZ(s:ByteArray) (w:World) (hs:s.size<=9223372036854775807):
  Calls Tryz.prog 140 #[I s] w (cY (dA s) w):=by
 by_cases h0:s=⟨#[]⟩
 ·subst h0;go_enter Tryz.func140,Tryz.ntmps140;go_wp2;go_ret;exact⟨_,rfl,by unfold dA;simp,rfl⟩
 ·have hq:=aX h0;go_enter Tryz.func140,Tryz.ntmps140;go_wp2_with (go_at_call 137;refine (bU _ _ hs).mono ?_;rintro e w1 ⟨r,rfl,hr,rfl⟩);go_ret;exact⟨r,rfl,by unfold dA;simp[h0,hr],rfl⟩
def w_(n z:ByteArray) (c s u:Int) (zs:List ByteArray):Prop:=aO n/\aO z/\Inn c 0 1000000/\Inn s 0 8/\Inn u 0 1000000/\eE zs 8
theorem n7(n z:ByteArray) (c s u:Int) (d:Bool) (a:Option Addr) (len cap:Nat) (zs:List ByteArray) (w:World) (hn:n.size<=9223372036854775807) (hz:z.size<=9223372036854775807) (hr:ay w a len cap zs):
  Calls Tryz.prog 90 #[Za #[I n,I z,Y4 Y5 c,Y4 Y5 s,Y4 Y5 u,Y7 d,J a len cap]] w (ar (w_ n z c s u zs) w):=by
 have HR:Hid (ay w a len cap zs):=hr;clear hr;go_enter Tryz.func90,Tryz.ntmps90;go_wp2_with fail;refine (bU n _ hn).mono ?_;have z224z:=@aa _ @adw;exact fc
def qy(n z:ByteArray):Prop:=aO n/\dA z
theorem iG(n z:ByteArray) (x y:Bool) (w:World) (hn:n.size<=9223372036854775807) (hz:z.size<=9223372036854775807):
  Calls Tryz.prog 91 #[Za #[I n,Y7 x,Y7 y,I z]] w (ar (qy n z) w):=by
 go_enter Tryz.func91,Tryz.ntmps91;go_wp2_with fail;refine (bU n _ hn).mono ?_;have z224z:=@aa _ @adv;exact fc
def qA(n:ByteArray) (z:Int) (k v:ByteArray):Prop:=aO n/\Inn z 1 1048576/\aO k/\dA v
theorem fK(n:ByteArray) (z:Int) (k:ByteArray) (x:Bool) (v:ByteArray) (w:World) (hn:n.size<=9223372036854775807) (hk:k.size<=9223372036854775807) (hv:v.size<=9223372036854775807):
  Calls Tryz.prog 93 #[Za #[I n,Y4 Y5 z,I k,Y7 x,I v]] w (ar (qA n z k v) w):=by
 go_enter Tryz.func93,Tryz.ntmps93;go_wp2_with fail;refine (bU n _ hn).mono ?_;have z224z:=@aa _ @adu;exact fc
def fi(d:ByteArray) (p:Int):Prop:=(p=0/\d=⟨#[]⟩)\/((p=1\/p=2)/\aO d)
def As(n:ByteArray) (c:Int) (z:ByteArray) (zs:List ByteArray) (d:ByteArray) (p:Int):Prop:=aO n/\Inn c 0 1000000/\dA z/\eE zs 3/\fi d p
theorem eK(d:ByteArray):fi d 0↔d=⟨#[]⟩:=by unfold fi;simp
theorem iT {p:Int} (d:ByteArray) (h:p=1\/p=2):fi d p↔aO d:=by
 unfold fi;constructor
 ·rintro (⟨h1,_⟩|⟨_,h1⟩)
  ·omega
  ·exact h1
 ·exact λh1=>Or.inr ⟨h,h1⟩
theorem qL {p:Int} {d:ByteArray} (h:p<0\/2<p):¬fi d p:=by
 unfold fi;rintro (⟨h1,_⟩|⟨h1,_⟩) <;> omega
theorem fg(s:ByteArray):s.toList.isEmpty=Y_↔s=⟨#[]⟩:=by
 constructor
 ·intro h;by_cases h0:s=⟨#[]⟩
  ·exact h0
  ·rw[aX h0] at h;cases h
 ·rintro rfl;exact Ai
theorem iU(n:ByteArray) (c:Int) (z:ByteArray) (a:Option Addr) (len cap:Nat) (zs:List ByteArray) (d:ByteArray) (p:Int) (w:World) (hn:n.size<=9223372036854775807) (hz:z.size<=9223372036854775807) (hd:d.size<=9223372036854775807) (hr:ay w a len cap zs):
  Calls Tryz.prog 94 #[Za #[I n,Y4 Y5 c,I z,J a len cap,I d,Y4 Y5 p]] w (ar (As n c z zs d p) w):=by
 have HR:Hid (ay w a len cap zs):=hr;clear hr;go_enter Tryz.func94,Tryz.ntmps94;go_wp2_with fail;refine (bU n _ hn).mono ?_;have z224z:=@aa _ @adt;exact fc
def QD(n:ByteArray) (c:Int) (z k:ByteArray) (x:Bool) (m:ByteArray) (y:Bool) (zs:List ByteArray):Prop:=
 aO n/\Inn c 1 1048576/\aO z/\aO k/\dA m/\(y=Y_->m=⟨#[]⟩)/\eE zs (if x=Y_ then 1 else 6)
theorem ic {zs:List ByteArray} {x:Bool} (h:eE zs (if x=Y_ then 1 else 6)):eE zs 6:=by
 refine⟨?_,h.2⟩;have:=h.1;split at this <;> omega
theorem iS(n:ByteArray) (c:Int) (z k:ByteArray) (x:Bool) (m:ByteArray) (y:Bool) (a:Option Addr) (len cap:Nat) (zs:List ByteArray) (w:World) (hn:n.size<=9223372036854775807) (hz:z.size<=9223372036854775807) (hk:k.size<=9223372036854775807) (hm:m.size<=9223372036854775807) (hr:ay w a len cap zs):
  Calls Tryz.prog 92 #[Za #[I n,Y4 Y5 c,I z,I k,Y7 x,I m,Y7 y,J a len cap]] w (ar (QD n c z k x m y zs) w):=by
 have HR:Hid (ay w a len cap zs):=hr;have hzl:=hr.1;have hlc:=Yl hr.2.1 hr.2.2.1;clear hr;cases y
 ·have HY:Hid (Y8=Y_->m=⟨#[]⟩):=λh=>bY;have z627z:=@aa _ @V8;exact pt
 by_cases hm0:m=⟨#[]⟩
 ·subst hm0;have HY:Hid True:=trivial;have z627z:=@aa _ @V7;exact pt
 have hq9:=aX hm0;have z627z:=@aa _ @V9;exact pt
theorem al {w:World} {b:Nat} {vs:Array Value} (h:w.heap[b]?=Y3 (Y6 vs T (0,0))) (i:Nat):w.frozen? ⟨b,i,U⟩=Y8:=by simp[World.frozen?,h]
theorem ah {w:World} {B b:Nat} {v:Value} (hB:B<=b) (h:Below B w w1):Below B w (w1.setCell ⟨b,i,U⟩ v):=h.setCell hB v
theorem ae {w:World} {b:Nat} {o:Obj} (h:w.heap[b]?=Y3 o):b<w.heap.size:=by
 exact OM
theorem upK {w:World} {k:Nat} {o:Obj} (h:Hid (w.heap[k]?=Y3 o)) (hb:Below w.heap.size w w'):Hid (w'.heap[k]?=Y3 o):=(hb.block _ (ae h)).trans h
theorem upB {w w2:World} (h:Hid (Below w.heap.size w w1)) (hb:Below w1.heap.size w1 w2):Hid (Below w.heap.size w w2):=Below.trans h (hb.mono (Below.size h))
theorem sb1 {w:World} {v:Value} (h:Below w.heap.size w w1):Below w.heap.size w (w1.setCell ⟨w.heap.size+1,i,U⟩ v):=ah (by omega) h
theorem sb2 {w:World} {v:Value} (h:Below w.heap.size w w1):Below w.heap.size w (w1.setCell ⟨w.heap.size+1+1,i,U⟩ v):=ah (by omega) h
theorem sb3 {w:World} {v:Value} (h:Below w.heap.size w w1):Below w.heap.size w (w1.setCell ⟨w.heap.size+1+1+1,i,U⟩ v):=ah (by omega) h
theorem d_(w:World) (o p:Obj):((w.alloc o).alloc p).heap[w.heap.size]?=Y3 o:=by
 rw[Ym _ _ _ aF];exact Yg
theorem dZ(w:World) (o p:Obj):((w.alloc o).alloc p).heap[w.heap.size+1]?=Y3 p:=by
 have h:w.heap.size+1=(w.alloc o).heap.size:=aF
 rw[h];exact Yg
theorem qm(w:World) (o p q:Obj):(((w.alloc o).alloc p).alloc q).heap[w.heap.size]?=Y3 o:=by
 rw[Ym _ _ _ bJ,Ym _ _ _ aF];show (w.heap.push _)[w.heap.size]?=_;simp
theorem lF(w:World) (o p q:Obj):(((w.alloc o).alloc p).alloc q).heap[w.heap.size+1]?=Y3 p:=by
 rw[Ym _ _ _ aF];have h:w.heap.size+1=(w.alloc o).heap.size:=aF
 rw[h];show ((w.alloc o).heap.push _)[(w.alloc o).heap.size]?=_;exact Yg
theorem lE(w:World) (o p q:Obj):(((w.alloc o).alloc p).alloc q).heap[w.heap.size+1+1]?=Y3 q:=by
 have h:w.heap.size+1+1=((w.alloc o).alloc p).heap.size:=aF
 rw[h];show (((w.alloc o).alloc p).heap.push _)[((w.alloc o).alloc p).heap.size]?=_;exact Yg
theorem aR(w:World) (o p:Obj):Below w.heap.size w ((w.alloc o).alloc p):=(ak w o).alloc (by simp) p
theorem dj(w:World) (o p q:Obj):Below w.heap.size w (((w.alloc o).alloc p).alloc q):=(aR w o p).alloc (by simp;omega) q
theorem aP {a b:ByteArray} (h:a=b):(a.toList==b.toList)=Y_:=by rw[h];simp
theorem cs5 {w:World} {b:Nat} (h:w.heap[b]?=Y3 (Y6 #[v0,v1,v2,v3,v4] T (0,0))):w.cell? ⟨b,0,U⟩=Y3 v0/\w.cell? ⟨b,1,U⟩=Y3 v1/\w.cell? ⟨b,2,U⟩=Y3 v2/\w.cell? ⟨b,3,U⟩=Y3 v3/\w.cell? ⟨b,4,U⟩=Y3 v4:=⟨an h 0,an h 1,an h 2,an h 3,an h 4⟩
theorem cs6 {w:World} {b:Nat} (h:w.heap[b]?=Y3 (Y6 #[v0,v1,v2,v3,v4,v5] T (0,0))):w.cell? ⟨b,0,U⟩=Y3 v0/\w.cell? ⟨b,1,U⟩=Y3 v1/\w.cell? ⟨b,2,U⟩=Y3 v2/\w.cell? ⟨b,3,U⟩=Y3 v3/\w.cell? ⟨b,4,U⟩=Y3 v4/\w.cell? ⟨b,5,U⟩=Y3 v5:=⟨an h 0,an h 1,an h 2,an h 3,an h 4,an h 5⟩
theorem cs7 {w:World} {b:Nat} (h:w.heap[b]?=Y3 (Y6 #[v0,v1,v2,v3,v4,v5,v6] T (0,0))):w.cell? ⟨b,0,U⟩=Y3 v0/\w.cell? ⟨b,1,U⟩=Y3 v1/\w.cell? ⟨b,2,U⟩=Y3 v2/\w.cell? ⟨b,3,U⟩=Y3 v3/\w.cell? ⟨b,4,U⟩=Y3 v4/\w.cell? ⟨b,5,U⟩=Y3 v5/\w.cell? ⟨b,6,U⟩=Y3 v6:=⟨an h 0,an h 1,an h 2,an h 3,an h 4,an h 5,an h 6⟩
theorem cs8 {w:World} {b:Nat} {v7:Value} (h:w.heap[b]?=Y3 (Y6 #[v0,v1,v2,v3,v4,v5,v6,v7] T (0,0))):w.cell? ⟨b,0,U⟩=Y3 v0/\w.cell? ⟨b,1,U⟩=Y3 v1/\w.cell? ⟨b,2,U⟩=Y3 v2/\w.cell? ⟨b,3,U⟩=Y3 v3/\w.cell? ⟨b,4,U⟩=Y3 v4/\w.cell? ⟨b,5,U⟩=Y3 v5/\w.cell? ⟨b,6,U⟩=Y3 v6/\w.cell? ⟨b,7,U⟩=Y3 v7:=⟨an h 0,an h 1,an h 2,an h 3,an h 4,an h 5,an h 6,an h 7⟩
theorem db(w:World) (o:Obj):(w.alloc o).heap.size=w.heap.size+1:=by simp
theorem bB {w:World} {o:Obj} (h:Below (w.alloc o).heap.size (w.alloc o) w'):w'.heap[w.heap.size]?=Y3 o/\Below w.heap.size w w':=by
 rw[db] at h;exact⟨(h.block _ (Nat.lt_succ_self _)).trans (heap_alloc_new w o),(ak w o).trans (h.mono (Yy _))⟩
theorem eh {w:World} {o p:Obj} (h:Below ((w.alloc o).alloc p).heap.size ((w.alloc o).alloc p) w'):w'.heap[w.heap.size]?=Y3 o/\w'.heap[w.heap.size+1]?=Y3 p/\Below w.heap.size w w':=by
 obtain⟨h1,h2⟩:=bB h;rw[db] at h1;obtain⟨h3,h4⟩:=bB h2;exact⟨h3,h1,h4⟩
def Wd(W:World):Type:={ x:World // Below W.heap.size W x }
def Wd.w(i:Wd W):World:=i.1
theorem Wd.b(i:Wd W):Below W.heap.size W i.w:=i.2
theorem Wd.ne(W:World):Nonempty (Wd W):=⟨⟨W,Yh _ _⟩⟩
theorem Wd.cell(i:Wd W) {b o:Nat} (h:b<W.heap.size):i.w.cell? ⟨b,o,U⟩=W.cell? ⟨b,o,U⟩:=ai i.b h
theorem Wd.slot(i:Wd W) {b o:Nat} {vs:Array Value} {T:TypeId} {f:Nat×Nat} {v:Value} (h:W.heap[b]?=Y3 (Y6 vs T f)) (hv:vs[o]?=Y3 v):i.w.cell? ⟨b,o,U⟩=Y3 v:=by
 have hb:b<W.heap.size:=by
  rcases Nat.lt_or_ge b W.heap.size with h1|h1
  ·exact h1
  ·rw[Array.getElem?_eq_none h1] at h;cases h
 rw[i.cell hb,an h,hv]
theorem sl1 {b:Nat} (h:Hid (W.heap[b]?=Y3 (Y6 (v0 ::r).toArray T (0,0)))):(∀q:Wd W,q.w.cell? ⟨b,0,U⟩=Y3 v0):=λq=>q.slot h rfl
theorem sl2 {b:Nat} (h:Hid (W.heap[b]?=Y3 (Y6 (v0 ::v1 ::r).toArray T (0,0)))):(∀q:Wd W,q.w.cell? ⟨b,0,U⟩=Y3 v0)/\(∀q:Wd W,q.w.cell? ⟨b,1,U⟩=Y3 v1):=⟨λq=>q.slot h rfl,λq=>q.slot h rfl⟩
theorem sl3 {b:Nat} (h:Hid (W.heap[b]?=Y3 (Y6 (v0 ::v1 ::v2 ::r).toArray T (0,0)))):(∀q:Wd W,q.w.cell? ⟨b,0,U⟩=Y3 v0)/\(∀q:Wd W,q.w.cell? ⟨b,1,U⟩=Y3 v1)/\(∀q:Wd W,q.w.cell? ⟨b,2,U⟩=Y3 v2):=⟨λq=>q.slot h rfl,λq=>q.slot h rfl,λq=>q.slot h rfl⟩
theorem sl4 {b:Nat} (h:Hid (W.heap[b]?=Y3 (Y6 (v0 ::v1 ::v2 ::v3 ::r).toArray T (0,0)))):(∀q:Wd W,q.w.cell? ⟨b,0,U⟩=Y3 v0)/\(∀q:Wd W,q.w.cell? ⟨b,1,U⟩=Y3 v1)/\(∀q:Wd W,q.w.cell? ⟨b,2,U⟩=Y3 v2)/\(∀q:Wd W,q.w.cell? ⟨b,3,U⟩=Y3 v3):=⟨λq=>q.slot h rfl,λq=>q.slot h rfl,λq=>q.slot h rfl,λq=>q.slot h rfl⟩
theorem sl5 {b:Nat} (h:Hid (W.heap[b]?=Y3 (Y6 (v0 ::v1 ::v2 ::v3 ::v4 ::r).toArray T (0,0)))):(∀q:Wd W,q.w.cell? ⟨b,0,U⟩=Y3 v0)/\(∀q:Wd W,q.w.cell? ⟨b,1,U⟩=Y3 v1)/\(∀q:Wd W,q.w.cell? ⟨b,2,U⟩=Y3 v2)/\(∀q:Wd W,q.w.cell? ⟨b,3,U⟩=Y3 v3)/\(∀q:Wd W,q.w.cell? ⟨b,4,U⟩=Y3 v4):=⟨λq=>q.slot h rfl,λq=>q.slot h rfl,λq=>q.slot h rfl,λq=>q.slot h rfl,λq=>q.slot h rfl⟩
theorem sl6 {b:Nat} (h:Hid (W.heap[b]?=Y3 (Y6 (v0 ::v1 ::v2 ::v3 ::v4 ::v5 ::r).toArray T (0,0)))):(∀q:Wd W,q.w.cell? ⟨b,0,U⟩=Y3 v0)/\(∀q:Wd W,q.w.cell? ⟨b,1,U⟩=Y3 v1)/\(∀q:Wd W,q.w.cell? ⟨b,2,U⟩=Y3 v2)/\(∀q:Wd W,q.w.cell? ⟨b,3,U⟩=Y3 v3)/\(∀q:Wd W,q.w.cell? ⟨b,4,U⟩=Y3 v4)/\(∀q:Wd W,q.w.cell? ⟨b,5,U⟩=Y3 v5):=⟨λq=>q.slot h rfl,λq=>q.slot h rfl,λq=>q.slot h rfl,λq=>q.slot h rfl,λq=>q.slot h rfl,λq=>q.slot h rfl⟩
theorem sl7 {b:Nat} (h:Hid (W.heap[b]?=Y3 (Y6 (v0 ::v1 ::v2 ::v3 ::v4 ::v5 ::v6 ::r).toArray T (0,0)))):(∀q:Wd W,q.w.cell? ⟨b,0,U⟩=Y3 v0)/\(∀q:Wd W,q.w.cell? ⟨b,1,U⟩=Y3 v1)/\(∀q:Wd W,q.w.cell? ⟨b,2,U⟩=Y3 v2)/\(∀q:Wd W,q.w.cell? ⟨b,3,U⟩=Y3 v3)/\(∀q:Wd W,q.w.cell? ⟨b,4,U⟩=Y3 v4)/\(∀q:Wd W,q.w.cell? ⟨b,5,U⟩=Y3 v5)/\(∀q:Wd W,q.w.cell? ⟨b,6,U⟩=Y3 v6):=⟨λq=>q.slot h rfl,λq=>q.slot h rfl,λq=>q.slot h rfl,λq=>q.slot h rfl,λq=>q.slot h rfl,λq=>q.slot h rfl,λq=>q.slot h rfl⟩
theorem sl8 {b:Nat} {v7:Value} (h:Hid (W.heap[b]?=Y3 (Y6 (v0 ::v1 ::v2 ::v3 ::v4 ::v5 ::v6 ::v7 ::r).toArray T (0,0)))):(∀q:Wd W,q.w.cell? ⟨b,0,U⟩=Y3 v0)/\(∀q:Wd W,q.w.cell? ⟨b,1,U⟩=Y3 v1)/\(∀q:Wd W,q.w.cell? ⟨b,2,U⟩=Y3 v2)/\(∀q:Wd W,q.w.cell? ⟨b,3,U⟩=Y3 v3)/\(∀q:Wd W,q.w.cell? ⟨b,4,U⟩=Y3 v4)/\(∀q:Wd W,q.w.cell? ⟨b,5,U⟩=Y3 v5)/\(∀q:Wd W,q.w.cell? ⟨b,6,U⟩=Y3 v6)/\(∀q:Wd W,q.w.cell? ⟨b,7,U⟩=Y3 v7):=⟨λq=>q.slot h rfl,λq=>q.slot h rfl,λq=>q.slot h rfl,λq=>q.slot h rfl,λq=>q.slot h rfl,λq=>q.slot h rfl,λq=>q.slot h rfl,λq=>q.slot h rfl⟩
theorem bV {a:Act} {w:World} (hm:P.follows .mixedOrders=Y_) (hB:Region.lexB .any l.toArray=Y_)
  (h:wpQuiet P l.toArray (λw'=> ∃i:Wd w,w'=i.w) (λa'=> ∀w',(∃i:Wd w,w'=i.w)->Q .normal a' w') l a):(Code.region id l.toArray Y_).wp P Q a w:=
 wp_region_quiet (C:=λw'=> ∃i:Wd w,w'=i.w) hm hB ⟨⟨_,(Yh w.heap.size w).drew⟩,rfl⟩ iy
theorem Calls.wide {f:FuncId} {args:Array Value} {i:Wd W} {v:Value} (h:Calls P f args i.w λe w'=>e=Y9 v/\Below i.w.heap.size i.w w'):Calls P f args i.w λe w''=>e=Y9 v/\∃j:Wd W,w''=j.w:=
 h.mono λ_ w' ⟨he,hb⟩=>⟨he,⟨w',i.b.trans (hb.mono i.b.size)⟩,rfl⟩
namespace Mk
def gW(u n:Nat) (r:ByteArray):Prop:=n<=u/\(if n=0 then [] else YV n)++r.data.toList=YV u
def dgB(n:Nat):UInt8:=UInt8.ofNat (48+n % 10)
structure Kept (g:Nat) (w w':World):Prop where
 os:w'.os=w.os
 tape:w'.tape=w.tape
 output:w'.output=w.output
 size:w.heap.size<=w'.heap.size
 block:∀k,k<w.heap.size->¬k=g->w'.heap[k]?=w.heap[k]?
end Mk
namespace Rc
inductive Fv where
 | s (b:ByteArray)
 | i (n:Int)
 | b (x:Bool)
 | l (zs:List ByteArray)
def Fv.val:Fv->Option Value
 | .s t=>Y3 (I t)
 | .i n=>Y3 (Y4 Y5 n)
 | .b x=>Y3 (Y7 x)
 | .l _=>U
def Fv.Is(w:World):Fv->Value->Prop
 | .s t,v=>v=I t/\t.size<=9223372036854775807
 | .i n,v=>v=Y4 Y5 n
 | .b x,v=>v=Y7 x
 | .l zs,v=> ∃a len cap,v=J a len cap/\ay w a len cap zs
theorem Fv.Is.below {w:World} {f:Fv} {v:Value} (h:f.Is w v) (hb:Below w.heap.size w w'):f.Is w' v:=by
 cases f with
 | l zs=>obtain⟨a,len,cap,h1,h2⟩:=h;exact⟨a,len,cap,h1,h2.below hb⟩
 | _=>exact h
def RAt(w:World) (b o:Nat) (r:List Fv):Prop:=∀(i:Nat) f,r[i]?=Y3 f->∃v,w.cell? ⟨b,o+i,U⟩=Y3 v/\f.Is w v
theorem RAt.below {w:World} {b o:Nat} {r:List Fv} (h:RAt w b o r) (hl:b<w.heap.size) (hb:Below w.heap.size w w'):RAt w' b o r:=by
 intro i f hi;obtain⟨v,h1,h2⟩:=h i f hi;exact⟨v,(ai hb hl).trans h1,h2.below hb⟩
def aT(w:World) (a:Option Addr) (len cap m:Nat) (rs:List (List Fv)):Prop:=
 rs.length=len/\len<=cap/\cap<=9223372036854775807/\(rs=[]\/∃b o,a=Y3 ⟨b,o,U⟩/\b<w.heap.size/\∀(j:Nat) r,rs[j]?=Y3 r->RAt w b (o+j*m) r)
theorem aT.below {w:World} {len m:Nat} {rs:List (List Fv)} (h:aT w a len cap m rs) (hb:Below w.heap.size w w'):aT w' a len cap m rs:=by
 exact Pu
theorem aT.at {w:World} {len m:Nat} {rs:List (List Fv)} (h:aT w a len cap m rs) {j:Nat} (hj:j<len):
  ∃b o r,a=Y3 ⟨b,o,U⟩/\b<w.heap.size/\rs[j]?=Y3 r/\RAt w b (o+j*m) r:=by
 obtain⟨h1,h2,h3,h5⟩:=h;have hx:rs[j]?=Y3 (rs[j]'(by omega)):=Yi _;exact OO
structure aG (S:Nat->Prop) (w w':World):Prop where
 os:w'.os=w.os
 tape:w'.tape=w.tape
 output:w'.output=w.output
 size:w.heap.size<=w'.heap.size
 block:∀k,k<w.heap.size->¬S k->w'.heap[k]?=w.heap[k]?
theorem aG.refl(S:Nat->Prop) (w:World):aG S w w:=⟨rfl,rfl,rfl,Ye _,λ_ _ _=>rfl⟩
theorem aG.trans {a b c:World} (h:aG S a b) (k:aG S b c):aG S a c:=⟨k.os.trans h.os,k.tape.trans h.tape,k.output.trans h.output,Yl h.size k.size,λi hi hn=>(k.block i (Yj hi h.size) hn).trans (h.block i hi hn)⟩
theorem aG.cr {w:World} (k:Below w.heap.size w w'):aG S w w':=⟨k.os,k.tape,k.output,k.size,λi hi _=>k.block i hi⟩
theorem aG.set {w:World} {v:Value} (h:aG S w w') (h1:S g):aG S w (w'.setCell ⟨g,i,U⟩ v):=
 ⟨h.os,h.tape,h.output,by simpa[YO] using h.size,λk hk hn=>(Ya _ _ _ _ (show k≠g from λe=>hn (e ▸ h1))).trans (h.block k hk hn)⟩
theorem aG.low {X:Nat} {w:World} (h:aG S w w') (hX:X<=w.heap.size) (hS:∀k,S k->X<=k):Below X w w':=⟨h.os,h.tape,h.output,h.size,λk hk=>h.block k (Yj hk hX) (λs=>by have:=hS k s;omega)⟩
def nQ(w:World) (h:Nat) (S:Nat->Prop) (g:Nat) (zs:List ByteArray) (v:Value):Prop:=
 ∃a len cap,v=J a len cap/\zs.length=len/\len<=cap/\cap<=9223372036854775807/\(∀(j:Nat) x,zs[j]?=Y3 x->x.size<=9223372036854775807)/\
  (zs=[]\/(a=Y3 ⟨h,0,U⟩/\S h/\¬h=g/\∃cu,w.heap[h]?=Y3 (Y6 cu 9 (0,0))/\∀(j:Nat) x,zs[j]?=Y3 x->cu[j]?=Y3 (I x)))
theorem nQ.row {w:World} {zs:List ByteArray} {len:Nat} (k:nQ w h S g zs (J a len cap)):ay w a len cap zs:=by
 obtain⟨a',l',c',h1,h2,h3,h4,h5,h6⟩:=k;cases h1;refine⟨h2,h3,h4,h5,h6.imp id ?_⟩;rintro⟨q1,q2,q3,cu,q4,q5⟩;exact⟨h,0,q1,ae q4,λj x hx=>by rw[Yq,an q4];exact q5 j x hx⟩
def Fv.Own(w:World) (h:Nat) (S:Nat->Prop) (g:Nat):Fv->Value->Prop
 | .s t,v=>v=I t/\t.size<=9223372036854775807
 | .i n,v=>v=Y4 Y5 n
 | .b x,v=>v=Y7 x
 | .l zs,v=>nQ w h S g zs v
theorem Fv.Own.is {w:World} {f:Fv} {v:Value} (k:f.Own w h S g v):f.Is w v:=by
 cases f with
 | l zs=>
  obtain⟨a,len,cap,h1,h2⟩:=k;exact⟨a,len,cap,h1,nQ.row (h:=h) (S:=S) (g:=g) (h1 ▸ ⟨a,len,cap,h1,h2⟩)⟩
 | _=>exact k
structure en (w:World) (g m:Nat) (T:TypeId) (rs:List (List Fv)) (S:Nat->Prop) (cur:Array Value) (H:Nat->Nat->Nat):Prop where
 blk:w.heap[g]?=Y3 (Y6 cur T (0,0))
 inS:S g
 len:∀(j:Nat) r,rs[j]?=Y3 r->r.length=m
 cell:∀(j:Nat) r,rs[j]?=Y3 r->∀(i:Nat) f,r[i]?=Y3 f->∃v,cur[j*m+i]?=Y3 v/\f.Own w (H j i) S g v
 inj:∀(j:Nat) r (i:Nat) zs (j':Nat) r' (i':Nat) zs',rs[j]?=Y3 r->r[i]?=Y3 (.l zs)->zs≠[]->rs[j']?=Y3 r'->r'[i']?=Y3 (.l zs')->zs'≠[]->H j i=H j' i'->j=j'/\i=i'
def aw(w:World) (a:Option Addr) (len cap m:Nat) (T:TypeId) (rs:List (List Fv)) (S:Nat->Prop):Prop:=
 rs.length=len/\len<=cap/\cap<=9223372036854775807/\(rs=[]\/∃g cur H,a=Y3 ⟨g,0,U⟩/\en w g m T rs S cur H)
theorem en.az {w:World} {m:Nat} {rs:List (List Fv)} (h:en w g m T rs S cur H) (hk:∀k,k<w.heap.size->S k->w'.heap[k]?=w.heap[k]?) (hs:∀k,k<w.heap.size->S k->S' k):en w' g m T rs S' cur H:=by
 refine⟨(hk g (ae h.blk) h.inS).trans h.blk,hs g (ae h.blk) h.inS,h.len,λj r hj i f hi=>?_,h.inj⟩;obtain⟨v,h1,h2⟩:=h.cell j r hj i f hi;refine⟨v,h1,?_⟩;cases f with
 | l zs=>
  obtain⟨a',l',c',h1,h2,h3,h4,h5,h6⟩:=h2;refine⟨a',l',c',h1,h2,h3,h4,h5,h6.imp id ?_⟩;rintro⟨q1,q2,q3,cu,q4,q5⟩;exact⟨q1,hs _ (ae q4) q2,q3,cu,(hk _ (ae q4) q2).trans q4,q5⟩
 | _=>exact h2
theorem aw.az {w:World} {len m:Nat} {rs:List (List Fv)} (h:aw w a len cap m T rs S) (hk:∀k,k<w.heap.size->S k->w'.heap[k]?=w.heap[k]?) (hs:∀k,k<w.heap.size->S k->S' k):aw w' a len cap m T rs S':=by
 obtain⟨h1,h2,h3,h4⟩:=h;refine⟨h1,h2,h3,h4.imp id ?_⟩;rintro⟨g,cur,H,h5,h6⟩;exact⟨g,cur,H,h5,h6.az hk hs⟩
theorem aw.below {w:World} {len m:Nat} {rs:List (List Fv)} (h:aw w a len cap m T rs S) (hb:Below w.heap.size w w'):aw w' a len cap m T rs S:=h.az (λk hk _=>hb.block k hk) (λ_ _ s=>s)
theorem aw.bl {w:World} {len m:Nat} {rs:List (List Fv)} (h:aw w a len cap m T rs S) (hs:∀k,k<w.heap.size->S k->S' k):aw w a len cap m T rs S':=h.az (λ_ _ _=>rfl) hs
theorem en.rat {w:World} {m:Nat} {rs:List (List Fv)} (h:en w g m T rs S cur H) {j:Nat} {r:List Fv} (hj:rs[j]?=Y3 r):RAt w g (j*m) r:=by
 intro i f hi;obtain⟨v,h1,h2⟩:=h.cell j r hj i f hi;exact⟨v,(an h.blk _).trans h1,h2.is⟩
theorem aw.row {w:World} {len m:Nat} {rs:List (List Fv)} (h:aw w a len cap m T rs S):aT w a len cap m rs:=by
 obtain⟨h1,h2,h3,h4⟩:=h;refine⟨h1,h2,h3,h4.imp id ?_⟩;rintro⟨g,cur,H,h5,h6⟩;exact⟨g,0,h5,ae h6.blk,λj r hj=>by rw[Yq];exact h6.rat hj⟩
theorem aw.nil {w:World} (a:Option Addr) (cap m:Nat) (T:TypeId) (S:Nat->Prop) (h:cap<=9223372036854775807):aw w a 0 cap m T [] S:=⟨rfl,YI _,h,Zc rfl⟩
theorem afD {m j' i':Nat} (hi:i<m) (hi':i'<m) (h:j*m+i=j'*m+i'):j=j'/\i=i':=by
 have hm:0<m:=af
 have e1:(j*m+i) / m=j:=by rw[Nat.mul_comm,Nat.mul_add_div hm,Nat.div_eq_of_lt hi];rfl
 have e2:(j'*m+i') / m=j':=by rw[Nat.mul_comm,Nat.mul_add_div hm,Nat.div_eq_of_lt hi'];rfl
 have:j=j':=by rw[<-e1,<-e2,h]
 subst this;exact⟨rfl,by omega⟩
theorem ch {rs:List α} {k:Nat} {r:α} (hj:j<rs.length):(rs.set j r)[k]?=if j=k then Y3 r else rs[k]?:=by
 rw[YX];by_cases h:j=k
 ·subst h;simp[hj]
 ·simp[h]
section
variable {g m:Nat} {T:TypeId} {S N:Nat->Prop} {w wr w2:World} {rs:List (List Fv)} {j:Nat} {r:List Fv}
theorem eL(hlt:j<rs.length) {f:Fv} {i:Nat} (hil:i<r.length) {j':Nat} {r':List Fv} {i':Nat} {f':Fv} (hj':(rs.set j (r.set i f))[j']?=Y3 r') (hi':r'[i']?=Y3 f'):
  (j'=j/\i'=i/\f'=f)\/(¬(j'=j/\i'=i)/\∃r0,(rs.set j r)[j']?=Y3 r0/\r0[i']?=Y3 f'):=by
 rw[ch hlt] at hj' ⊢;split at hj'
 ·next e=>
  cases hj';rw[if_pos e];rw[YX] at hi';split at hi'
  ·next e2=>
   try rw[if_pos hil] at hi'
   exact Zc ⟨e.symm,e2.symm,(Yd hi').symm⟩
  ·next e2=>exact Zb ⟨λq=>e2 q.2.symm,r,rfl,hi'⟩
 ·next e=>
  rw[if_neg e];exact Zb ⟨λq=>e q.1.symm,r',hj',hi'⟩
theorem Fv.Own.iV {k:Nat} {v:Value} {u:Fv} {z:Value} (hu:u.Own wr h S g z):u.Own (wr.setCell ⟨g,k,U⟩ v) h S g z:=by
 cases u with
 | l zs=>
  obtain⟨a',l',c',k1,k2,k3,k4,k5,k6⟩:=hu;refine⟨a',l',c',k1,k2,k3,k4,k5,k6.imp id ?_⟩;rintro⟨q1,q2,q3,cu,q4,q5⟩;exact⟨q1,q2,q3,cu,(Ya _ _ _ _ q3).trans q4,q5⟩
 | _=>exact hu
end
theorem qS {l:List α} {x:α} (h:l[i]?=Y3 x):l.set i x=l:=by
 apply List.ext_getElem?;intro k;rw[YX];split
 ·next e=>
  subst e;rw[if_pos (Yc.1 h).1,h]
 ·rfl
def mkN1(k:Int):Fv->Int
 | .l zs=>k+zs.length
 | _=>k+1
def mkN:Int->List Fv->Int
 | k,[]=>k
 | k,f ::r=>mkN (mkN1 k f) r
def fl:Int->List (List Fv)->Int
 | k,[]=>k
 | k,r ::rs=>fl (mkN k r) rs
end Rc
abbrev Fact:=Value->World->Prop
def Fact.bH(φ:Fact):Prop:=∀v w w',φ v w->Below w.heap.size w w'->φ v w'
theorem Fact.cV(c:Value):Fact.bH (λv _=>v=c):=λ_ _ _ h _=>h
def aj(a0:Act) (known:List (Tmp×Fact)) (a:Act) (w:World) (t:Tmp):Prop:=
 match known.lookup t with
 | some φ=>φ (a.tmps.getD t undef) w
 | none=>a.tmps.getD t undef=a0.tmps.getD t undef
def Obl(P:Program) (ops:Array Oper) (Q:Exit->Act->World->Prop) (W:World) (a0:Act) (known:List (Tmp×Fact)) (o:Oper) (φ:Fact):Prop:=
 ∀(a:Act) (w:World) (K:Act->World->Prop),a.tmps.size=a0.tmps.size->Below W.heap.size W w->(∀t∈o.looksAt ops,aj a0 known a w t)->
  (∀v w',Below w.heap.size w w'->φ v w'->K (a.put o.dst v) w')->if YM o (yielded ops a.tmps)=Y_ then o.wp P a w K Q else K (a.put o.dst undef) w
def jP(o:Oper):List Tmp:=o.op.operands.toList.filterMap fun | .tmp t=>Y3 t|_=>U
theorem Obl.plain {known:List (Tmp×Fact)} {φ:Fact} (hg:o.guard=U)
  (h:∀(a:Act) (w:World) (K:Act->World->Prop),a.tmps.size=a0.tmps.size->Below W.heap.size W w->(∀t∈jP o,aj a0 known a w t)->(∀v w',Below w.heap.size w w'->φ v w'->K (a.put o.dst v) w')->o.wp P a w K Q):Obl P ops Q W a0 known o φ:=by
 intro a w K h1 h2 h3 h4;have hw:YM o (yielded ops a.tmps)=Y_:=by simp[YM,hg]
 exact OQ
def fG(P:Program) (ops:Array Oper) (Q:Exit->Act->World->Prop) (back:Option Oper) (a:Act) (w:World):Prop:=
 match back with
 | none=>Q .normal a w
 | some o=> ∀K:Act->World->Prop,(∀a w,Q .normal a w->K a w)->if YM o (yielded ops a.tmps)=Y_ then o.wp P a w K Q else K (a.put o.dst undef) w
def aJ(a0:Act) (known:List (Tmp×Fact)) (x:Tmp->Value):Act:=known.foldr (λp b=>b.put (Y3 p.1) (x p.1)) a0
def Fin(P:Program) (ops:Array Oper) (Q:Exit->Act->World->Prop) (W:World) (a0:Act) (back:Option Oper) (known:List (Tmp×Fact)):Prop:=
 ∀(x:Tmp->Value) (w:World),Below W.heap.size W w->(∀p∈known,p.2 (x p.1) w)->fG P ops Q back (aJ a0 known x) w
def kn(d:Option Tmp) (φ:Fact) (known:List (Tmp×Fact)):List (Tmp×Fact):=match d with|Y3 t=>(t,φ) ::known|U=>known
def Grow(P:Program) (ops:Array Oper) (Q:Exit->Act->World->Prop) (W:World) (a0:Act) (back:Option Oper):List Oper->List (Tmp×Fact)->Prop
 | [],known=>Fin P ops Q W a0 back known
 | o ::rest,known=> ∃φ:Fact,φ.bH/\Obl P ops Q W a0 known o φ/\Grow P ops Q W a0 back rest (kn o.dst φ known)
theorem Grow.step {known:List (Tmp×Fact)} {t:Tmp} (φ:Fact) (hd:o.dst=Y3 t) (hφ:φ.bH) (ho:Obl P ops Q W a0 known o φ)
  (h:Grow P ops Q W a0 back rest ((t,φ) ::known)):Grow P ops Q W a0 back (o ::rest) known:=⟨φ,hφ,ho,by rw[hd];exact h⟩
theorem Grow.stepC {known:List (Tmp×Fact)} {t:Tmp} (c:Value) (hd:o.dst=Y3 t) (ho:Obl P ops Q W a0 known o (λv _=>v=c))
  (h:Grow P ops Q W a0 back rest ((t,λv _=>v=c) ::known)):Grow P ops Q W a0 back (o ::rest) known:=Grow.step _ hd (Fact.cV c) ho h
theorem Grow.done {known:List (Tmp×Fact)} (h:Fin P ops Q W a0 back known):Grow P ops Q W a0 back [] known:=h
def growB(n:Nat) (front:List Oper) (back:Option Oper):Bool:=
 let ops:=(front++back.toList).toArray
 decide ((front.filterMap (·.dst)).Nodup) && front.all (λo=>match o.dst with|Y3 t=>decide (t<n)|U=>Y_) &&
 (YT front.length).all (λj=>match front[j]? with
  | some o=>(o.looksAt ops).all (λt=>(YT front.length).all λi=>match front[i]? with
    | some p=>p.dst !=Y3 t || (decide (i<j) && o.after.any λe=>e.on==i && YP .any e)
    | none=>Y_)
  | none=>Y_) &&
 (YT ops.size).all (λj=>match ops[j]? with|Y3 o=>o.after.all (λe=>decide (e.on<j))|U=>Y_) &&
 (match back with|Y3 o=>(YT front.length).all (λi=>o.after.any λe=>e.on==i && YP .any e)|U=>Y_)
section
variable {P:Program} {ops:Array Oper} {Q:Exit->Act->World->Prop} {W:World} {a0:Act} {back:Option Oper}
def knAll:List (Tmp×Fact)->List Oper->List Fact->List (Tmp×Fact)
 | known,o ::l,φ ::φs=>knAll (kn o.dst φ known) l φs
 | known,_,_=>known
theorem cO(known:List (Tmp×Fact)) (φs:List Fact):knAll known [] φs=known:=by cases φs <;> rfl
theorem Grow.spec:∀(l:List Oper) (known:List (Tmp×Fact)),Grow P ops Q W a0 back l known->∃φs:List Fact,φs.length=l.length/\
  (∀(i:Nat) (o:Oper) (φ:Fact),l[i]?=Y3 o->φs[i]?=Y3 φ->φ.bH/\Obl P ops Q W a0 (knAll known (l.take i) (φs.take i)) o φ)/\Fin P ops Q W a0 back (knAll known l φs)
 | [],known,h=>⟨[],rfl,λi o φ h=>by simp at h,by rw[cO];exact h⟩
 | o ::l,known,h=>by
  exact Nx
theorem kB(d:Option Tmp) (φ:Fact) (known:List (Tmp×Fact)) (t:Tmp):(kn d φ known).lookup t=if d=Y3 t then Y3 φ else known.lookup t:=by
 exact Pz
theorem de:∀(l:List Oper) (φs:List Fact) (known:List (Tmp×Fact)) {t:Tmp} {φ:Fact},(knAll known l φs).lookup t=Y3 φ->
  (∃(i:Nat) (o:Oper),l[i]?=Y3 o/\o.dst=Y3 t/\φs[i]?=Y3 φ)\/known.lookup t=Y3 φ
 | [],φs,known,t,φ,h=>by rw[cO] at h;exact Zb h
 | o ::l,[],known,t,φ,h=>Zb h
 | o ::l,ψ ::φs,known,t,φ,h=>by
  exact agG
theorem df:∀(l:List Oper) (φs:List Fact) (known:List (Tmp×Fact)) {t:Tmp},(knAll known l φs).lookup t=U->
  known.lookup t=U/\∀(i:Nat) (o:Oper) (φ:Fact),l[i]?=Y3 o->φs[i]?=Y3 φ->o.dst≠Y3 t
 | [],φs,known,t,h=>by rw[cO] at h;exact⟨h,λi o φ h=>by simp at h⟩
 | o ::l,[],known,t,h=>⟨h,λi o φ _ h=>by simp at h⟩
 | o ::l,ψ ::φs,known,t,h=>by
  exact agS
theorem dU:∀(l:List Oper) (φs:List Fact) (known:List (Tmp×Fact)) {p:Tmp×Fact},p∈knAll known l φs->
  (∃(i:Nat) (o:Oper),l[i]?=Y3 o/\o.dst=Y3 p.1/\φs[i]?=Y3 p.2)\/p∈known
 | [],φs,known,p,h=>by rw[cO] at h;exact Zb h
 | o ::l,[],known,p,h=>Zb h
 | o ::l,ψ ::φs,known,p,h=>by
  exact agO
theorem gT(a:Act) (d t:Tmp) (v:Value):(a.put (Y3 d) v).tmps.getD t undef=if d=t/\t<a.tmps.size then v else a.tmps.getD t undef:=by
 simp only[Act.put,Yp,Array.getElem?_setIfInBounds];by_cases h:d=t
 ·subst h;by_cases h2:d<a.tmps.size
  ·simp[h2]
  ·simp[h2]
 ·simp[h]
theorem size_put(a:Act) (d:Option Tmp) (v:Value):(a.put d v).tmps.size=a.tmps.size:=by cases d <;> simp[Act.put]
theorem fZ(a:Act) (d:Option Tmp) (v:Value):(a.put d v).defers=a.defers:=by cases d <;> simp[Act.put]
theorem dJ(a0:Act) (x:Tmp->Value):∀known,(aJ a0 known x).tmps.size=a0.tmps.size
 | []=>rfl
 | p ::l=>by unfold aJ;rw[List.foldr_cons,size_put];exact dJ a0 x l
theorem dK(a0:Act) (x:Tmp->Value):∀known,(aJ a0 known x).defers=a0.defers
 | []=>rfl
 | p ::l=>by unfold aJ;rw[List.foldr_cons,fZ];exact dK a0 x l
theorem jM(a0 a:Act) (known:List (Tmp×Fact)) (hk:∀p∈known,p.1<a0.tmps.size) (t:Tmp) (h:(∀p∈known,p.1≠t)->a.tmps.getD t undef=a0.tmps.getD t undef):
  (aJ a0 known (λt=>a.tmps.getD t undef)).tmps.getD t undef=a.tmps.getD t undef:=by
 exact ag0
theorem afR {a b:Act} (hs:a.tmps.size=b.tmps.size) (hd:a.defers=b.defers) (h:∀t,a.tmps.getD t undef=b.tmps.getD t undef):a=b:=by
 cases a with|mk at_ ad=>cases b with|mk bt bd=>
 simp only at hs hd h;subst hd;congr 1;apply Array.ext hs;intro i h1 h2;have:=h i;simpa[Array.getD,h1,h2] using this
theorem dm {l:Array Bool} (h:i<l.size):l.getD i Y8=l.getD i Y_:=by simp[Array.getD,h]
structure At (front:List Oper) (φs:List Fact) (W:World) (a0:Act) (listed:Array Bool) (a:Act) (w:World):Prop where
 size:a.tmps.size=a0.tmps.size
 defers:a.defers=a0.defers
 below:Below W.heap.size W w
 known:∀(i:Nat) (o:Oper) (φ:Fact),front[i]?=Y3 o->φs[i]?=Y3 φ->∀t,o.dst=Y3 t->listed.getD i Y8=Y_->φ (a.tmps.getD t undef) w
 other:∀t,(∀(i:Nat) (o:Oper),front[i]?=Y3 o->o.dst=Y3 t->listed.getD i Y8=Y8)->a.tmps.getD t undef=a0.tmps.getD t undef
theorem fF:∀(l:List Oper),(l.filterMap (·.dst)).Nodup->∀{i j:Nat} {o p:Oper} {t:Tmp},l[i]?=Y3 o->l[j]?=Y3 p->o.dst=Y3 t->p.dst=Y3 t->i=j
 | [],_,i,j,o,p,t,h,_,_,_=>by simp at h
 | q ::l,hn,i,j,o,p,t,h1,h2,h3,h4=>by
  have hmem:∀{k:Nat} {r:Oper},l[k]?=Y3 r->r.dst=Y3 t->t∈l.filterMap (·.dst):=λh h'=>List.mem_filterMap.2 ⟨_,Yu h,h'⟩;have hn':(l.filterMap (·.dst)).Nodup:=by
   rw[List.filterMap_cons] at hn;split at hn
   ·exact hn
   ·exact (List.nodup_cons.1 hn).2
  cases i with
  | zero=>
   simp only[List.getElem?_cons_zero,Option.some.injEq] at h1;subst h1
   cases j with
   | zero=>rfl
   | succ j=>
    simp only[List.getElem?_cons_succ] at h2;rw[List.filterMap_cons,h3] at hn;exact absurd (hmem h2 h4) (List.nodup_cons.1 hn).1
  | succ i=>
   simp only[List.getElem?_cons_succ] at h1
   cases j with
   | zero=>
    simp only[List.getElem?_cons_zero,Option.some.injEq] at h2;subst h2;rw[List.filterMap_cons,h4] at hn;exact absurd (hmem h1 h3) (List.nodup_cons.1 hn).1
   | succ j=>
    simp only[List.getElem?_cons_succ] at h2;rw[fF l hn' h1 h2 h3 h4]
theorem At.step {φs:List Fact} {a:Act} {w:World} {φ:Fact} {v:Value} (h:At front φs W a0 listed a w)
  (hn:(front.filterMap (·.dst)).Nodup) (hin:∀o∈front,∀t,o.dst=Y3 t->t<a0.tmps.size) (hmono:∀(i:Nat) (o:Oper) (φ:Fact),front[i]?=Y3 o->φs[i]?=Y3 φ->φ.bH)
  (ho:front[j]?=Y3 o) (hφ:φs[j]?=Y3 φ) (hj:j<listed.size) (hb:Below w.heap.size w w') (hv:φ v w'):At front φs W a0 (listed.setIfInBounds j Y_) (a.put o.dst v) w':=by
 refine⟨(size_put _ _ _).trans h.size,(fZ _ _ _).trans h.defers,h.below.trans (hb.mono h.below.size),?_,?_⟩
 ·intro i p ψ hp hψ t ht hl;by_cases e:j=i
  ·subst e;obtain rfl:o=p:=Yd (ho.symm.trans hp);obtain rfl:φ=ψ:=Yd (hφ.symm.trans hψ);exact OJ
  ·have hl':listed.getD i Y8=Y_:=by
    simpa[Yp,Array.getElem?_setIfInBounds,e] using hl
   have h1:=hmono i p ψ hp hψ _ _ _ (h.known i p ψ hp hψ t ht hl') hb;cases hd:o.dst with
   | none=>exact h1
   | some d=>
    rw[gT,if_neg (λhx=>e (fF front hn ho hp (hd.trans (by rw[hx.1])) ht))];exact h1
 ·exact agY
theorem fX {n:Nat} (h:growB n front back=Y_):
  (front.filterMap (·.dst)).Nodup/\(∀o∈front,∀t,o.dst=Y3 t->t<n)/\
  (∀(j:Nat) (o:Oper),front[j]?=Y3 o->∀t∈o.looksAt (front++back.toList).toArray,∀(i:Nat) (p:Oper),front[i]?=Y3 p->p.dst=Y3 t->i<j/\∃e∈o.after,e.on=i/\YP .any e=Y_)/\
  (∀(j:Nat) o,(front++back.toList).toArray[j]?=Y3 o->∀e∈o.after,e.on<j)/\
  (∀o,back=Y3 o->∀i,i<front.length->∃e∈o.after,e.on=i/\YP .any e=Y_):=by
 unfold growB at h;simp only[YE,decide_eq_true_eq] at h;obtain⟨⟨⟨⟨h1,h2⟩,h3⟩,h4⟩,h5⟩:=h;refine⟨h1,?_,?_,?_,?_⟩
 ·intro o ho t ht;have:=List.all_eq_true.1 h2 o ho;rw[ht] at this;simpa using this
 ·exact ag4
 ·exact PR
 ·intro o ho i hi;subst ho;have:=List.all_eq_true.1 h5 i (List.mem_range.2 hi);obtain⟨k,hk,hx⟩:=Array.any_eq_true.1 this;simp only[YE,beq_iff_eq] at hx;exact⟨_,Array.getElem_mem hk,hx.1,hx.2⟩
theorem iN(hs:listed.size=ops.size) (hlt:∀(j:Nat) o,ops[j]?=Y3 o->∀e∈o.after,e.on<j) (hr:YR .any ops listed=[]):∀i,i<ops.size->listed.getD i Y8=Y_:=by
 intro i;induction i using Nat.strongRecOn with
 | _ i ih=>
  intro hi
  cases hb:listed.getD i Y8 with
  | true=>rfl
  | false=>
   have ho:ops[i]?=Y3 ops[i]:=Array.getElem?_eq_getElem hi;have hm:i∈YR .any ops listed:=mem_ready.2 ⟨by rw[<-dm af];exact hb,_,ho,λe he _=>ih e.on (hlt i _ ho e he) (Nat.lt_trans (hlt i _ ho e he) hi)⟩;rw[hr] at hm
   cases hm
theorem gP(h:listed.toList.count Y8=0) (i:Nat) (hi:i<listed.size):listed.getD i Y8=Y_:=by
 have hm:listed[i]∈listed.toList:=aF
 cases hb:listed[i] with
 | true=>simp[Array.getD,hi,hb]
 | false=>
  rw[hb] at hm;exact absurd (List.count_pos_iff.2 hm) af
theorem count_set(hi:i<listed.size) (hf:listed.getD i Y_=Y8):(listed.setIfInBounds i Y_).toList.count Y8+1=listed.toList.count Y8:=by
 have hb:listed[i]=Y8:=by simpa[Array.getD,hi] using hf
 have hm:Y8∈listed.toList:=by rw[<-hb];simp
 have hp:=List.count_pos_iff.2 hm;rw[Array.toList_setIfInBounds,List.count_set (by simpa using hi)];rw[Array.getElem_toList,hb];simp only[beq_self_eq_true,if_true,show (Y_==Y8)=Y8 from rfl,Bool.false_eq_true,if_false];omega
theorem Fin.last {φs:List Fact} {a:Act} {w:World} (hf:Fin P ops Q W a0 back (knAll [] front φs)) (hlen:φs.length=front.length) (hin:∀o∈front,∀t,o.dst=Y3 t->t<a0.tmps.size)
  (h:At front φs W a0 listed a w) (hall:∀i,i<front.length->listed.getD i Y8=Y_):fG P ops Q back a w:=by
 have h1:=hf (λt=>a.tmps.getD t undef) w h.below (λp hp=>by
  rcases dU front φs [] hp with ⟨i,o,h1,h2,h3⟩|h1
  ·exact h.known i o p.2 h1 h3 p.1 h2 (hall i (Yc.1 h1).1)
  ·simp at h1)
 exact ag_
theorem dy {φs:List Fact} (hops:ops=(front++back.toList).toArray) (hB:growB a0.tmps.size front back=Y_) (hlen:φs.length=front.length)
  (hs:∀(i:Nat) (o:Oper) (φ:Fact),front[i]?=Y3 o->φs[i]?=Y3 φ->φ.bH/\Obl P ops Q W a0 (knAll [] (front.take i) (φs.take i)) o φ) (hf:Fin P ops Q W a0 back (knAll [] front φs)):
  ∀(fuel:Nat) (listed:Array Bool) (a:Act) (w:World),listed.size=ops.size->listed.toList.count Y8<=fuel->(∀o,back=Y3 o->listed.getD front.length Y8=Y8)->At front φs W a0 listed a w->wpAny P .any ops Q fuel listed a w:=by
 have z378z:=@aa _ @abA;exact pF
end
theorem bK(n i:Nat):(Array.replicate n Y8).getD i Y8=Y8:=by
 rw[Yp,Array.getElem?_replicate];split <;> rfl
theorem c_(hm:P.follows .mixedOrders=Y_) (hl:l=front++back.toList) (hB:growB a0.tmps.size front back=Y_)
  (h:Grow P l.toArray Q W a0 back front []):(Code.region id l.toArray Y_).wp P Q a0 W:=by
 obtain⟨φs,hlen,hs,hf⟩:=Grow.spec _ _ h;refine wp_region_any hm (dy (by rw[hl]) hB hlen hs hf _ _ _ _ aF ?_ (λo ho=>?_) ⟨rfl,rfl,(Yh _ _).drew,λi o φ h1 h2 t ht hx=>?_,λt _=>rfl⟩)
 ·exact pV
 ·exact bK _ _
 ·rw[bK] at hx;cases hx
theorem bG {last:Oper} (hm:P.follows .mixedOrders=Y_) (hf:l.dropLast=front) (hb:l.getLast?=Y3 last) (hB:growB a0.tmps.size front (Y3 last)=Y_)
  (h:Grow P l.toArray Q W a0 (Y3 last) front []):(Code.region id l.toArray Y_).wp P Q a0 W:=by
 refine c_ hm ?_ hB h;exact vH
structure Vd where
 n:ByteArray
 c:Int
 z:ByteArray
 k:ByteArray
 x:Bool
 m:ByteArray
 y:Bool
 zs:List ByteArray
def QC(w:World) (g len X Y:Nat):Prop:=
 X<=g/\g<Y/\∃cur:Array Value,w.heap[g]?=Y3 (Y6 cur 95 (0,0))/\cur.size=len*8/\
  ∀j,j<len->∃a l c,cur[j*8+7]?=Y3 (J a l c)/\l<=1048576/\(l=0\/∃h cu,a=Y3 ⟨h,0,U⟩/\X<=h/\h<Y/\¬h=g/\w.heap[h]?=Y3 (Y6 cu 9 (0,0))/\l<=cu.size)
namespace Rc
structure Nd where
 n:ByteArray
 z:ByteArray
 c:Int
 s:Int
 u:Int
 d:Bool
 zs:List ByteArray
def ndF(x:Nd):List Fv:=[.s x.n,.s x.z,.i x.c,.i x.s,.i x.u,.b x.d,.l x.zs]
theorem aZ {w:World} {b o:Nat} {x:Nd} (h:RAt w b o (ndF x)):∃a len cap,ay w a len cap x.zs/\x.n.size<=9223372036854775807/\x.z.size<=9223372036854775807/\w.cell? ⟨b,o,U⟩=Y3 (I x.n)/\w.cell? ⟨b,o+1,U⟩=Y3 (I x.z)/\w.cell? ⟨b,o+2,U⟩=Y3 (Y4 Y5 x.c)/\w.cell? ⟨b,o+3,U⟩=Y3 (Y4 Y5 x.s)/\w.cell? ⟨b,o+4,U⟩=Y3 (Y4 Y5 x.u)/\w.cell? ⟨b,o+5,U⟩=Y3 (Y7 x.d)/\w.cell? ⟨b,o+6,U⟩=Y3 (J a len cap):=by
 obtain⟨v0,h0,rfl,z0⟩:=h 0 _ rfl;obtain⟨v1,h1,rfl,z1⟩:=h 1 _ rfl;obtain⟨v2,h2,rfl⟩:=h 2 _ rfl;obtain⟨v3,h3,rfl⟩:=h 3 _ rfl;obtain⟨v4,h4,rfl⟩:=h 4 _ rfl;obtain⟨v5,h5,rfl⟩:=h 5 _ rfl;obtain⟨v6,h6,a,len,cap,rfl,hr⟩:=h 6 _ rfl;exact⟨a,len,cap,hr,z0,z1,h0,h1,h2,h3,h4,h5,h6⟩
theorem dn {w:World} {len:Nat} {xs:List Nd} (h:aT w a len cap 7 (xs.map ndF)) {j:Nat} (hj:j<len):
  ∃b o x,a=Y3 ⟨b,o,U⟩/\b<w.heap.size/\xs[j]?=Y3 x/\RAt w b (o+j*7) (ndF x):=by
 exact oD
structure Kd where
 n:ByteArray
 x:Bool
 y:Bool
 z:ByteArray
def kdF(x:Kd):List Fv:=[.s x.n,.b x.x,.b x.y,.s x.z]
theorem dh {w:World} {b o:Nat} {x:Kd} (h:RAt w b o (kdF x)):x.n.size<=9223372036854775807/\x.z.size<=9223372036854775807/\w.cell? ⟨b,o,U⟩=Y3 (I x.n)/\w.cell? ⟨b,o+1,U⟩=Y3 (Y7 x.x)/\w.cell? ⟨b,o+2,U⟩=Y3 (Y7 x.y)/\w.cell? ⟨b,o+3,U⟩=Y3 (I x.z):=by
 obtain⟨v0,h0,rfl,z0⟩:=h 0 _ rfl;obtain⟨v1,h1,rfl⟩:=h 1 _ rfl;obtain⟨v2,h2,rfl⟩:=h 2 _ rfl;obtain⟨v3,h3,rfl,z3⟩:=h 3 _ rfl;exact⟨z0,z3,h0,h1,h2,h3⟩
theorem gu {w:World} {len:Nat} {xs:List Kd} (h:aT w a len cap 4 (xs.map kdF)) {j:Nat} (hj:j<len):
  ∃b o x,a=Y3 ⟨b,o,U⟩/\b<w.heap.size/\xs[j]?=Y3 x/\RAt w b (o+j*4) (kdF x):=by
 exact oD
def vdF(x:Vd):List Fv:=[.s x.n,.i x.c,.s x.z,.s x.k,.b x.x,.s x.m,.b x.y,.l x.zs]
theorem bh {w:World} {b o:Nat} {x:Vd} (h:RAt w b o (vdF x)):∃a len cap,ay w a len cap x.zs/\x.n.size<=9223372036854775807/\x.z.size<=9223372036854775807/\x.k.size<=9223372036854775807/\x.m.size<=9223372036854775807/\w.cell? ⟨b,o,U⟩=Y3 (I x.n)/\w.cell? ⟨b,o+1,U⟩=Y3 (Y4 Y5 x.c)/\w.cell? ⟨b,o+2,U⟩=Y3 (I x.z)/\w.cell? ⟨b,o+3,U⟩=Y3 (I x.k)/\w.cell? ⟨b,o+4,U⟩=Y3 (Y7 x.x)/\w.cell? ⟨b,o+5,U⟩=Y3 (I x.m)/\w.cell? ⟨b,o+6,U⟩=Y3 (Y7 x.y)/\w.cell? ⟨b,o+7,U⟩=Y3 (J a len cap):=by
 have z427z:=@aa _ @aa3;exact pC
theorem cj {w:World} {len:Nat} {xs:List Vd} (h:aT w a len cap 8 (xs.map vdF)) {j:Nat} (hj:j<len):
  ∃b o x,a=Y3 ⟨b,o,U⟩/\b<w.heap.size/\xs[j]?=Y3 x/\RAt w b (o+j*8) (vdF x):=by
 exact oD
structure Xd where
 n:ByteArray
 z:Int
 k:ByteArray
 x:Bool
 v:ByteArray
def xdF(x:Xd):List Fv:=[.s x.n,.i x.z,.s x.k,.b x.x,.s x.v]
theorem cn {w:World} {b o:Nat} {x:Xd} (h:RAt w b o (xdF x)):x.n.size<=9223372036854775807/\x.k.size<=9223372036854775807/\x.v.size<=9223372036854775807/\w.cell? ⟨b,o,U⟩=Y3 (I x.n)/\w.cell? ⟨b,o+1,U⟩=Y3 (Y4 Y5 x.z)/\w.cell? ⟨b,o+2,U⟩=Y3 (I x.k)/\w.cell? ⟨b,o+3,U⟩=Y3 (Y7 x.x)/\w.cell? ⟨b,o+4,U⟩=Y3 (I x.v):=by
 have z427z:=@aa _ @aa2;exact pC
theorem eI {w:World} {len:Nat} {xs:List Xd} (h:aT w a len cap 5 (xs.map xdF)) {j:Nat} (hj:j<len):
  ∃b o x,a=Y3 ⟨b,o,U⟩/\b<w.heap.size/\xs[j]?=Y3 x/\RAt w b (o+j*5) (xdF x):=by
 exact oD
structure Pd where
 n:ByteArray
 c:Int
 z:ByteArray
 zs:List ByteArray
 d:ByteArray
 p:Int
def pdF(x:Pd):List Fv:=[.s x.n,.i x.c,.s x.z,.l x.zs,.s x.d,.i x.p]
theorem bD {w:World} {b o:Nat} {x:Pd} (h:RAt w b o (pdF x)):∃a len cap,ay w a len cap x.zs/\x.n.size<=9223372036854775807/\x.z.size<=9223372036854775807/\x.d.size<=9223372036854775807/\w.cell? ⟨b,o,U⟩=Y3 (I x.n)/\w.cell? ⟨b,o+1,U⟩=Y3 (Y4 Y5 x.c)/\w.cell? ⟨b,o+2,U⟩=Y3 (I x.z)/\w.cell? ⟨b,o+3,U⟩=Y3 (J a len cap)/\w.cell? ⟨b,o+4,U⟩=Y3 (I x.d)/\w.cell? ⟨b,o+5,U⟩=Y3 (Y4 Y5 x.p):=by
 have z427z:=@aa _ @aa1;exact pC
theorem cq {w:World} {len:Nat} {xs:List Pd} (h:aT w a len cap 6 (xs.map pdF)) {j:Nat} (hj:j<len):
  ∃b o x,a=Y3 ⟨b,o,U⟩/\b<w.heap.size/\xs[j]?=Y3 x/\RAt w b (o+j*6) (pdF x):=by
 exact oD
structure Cl where
 ns:List Nd
 ks:List Kd
 vs:List Vd
 xs:List Xd
 ps:List Pd
 now:Int
structure Cr where
 n:List (List Fv)
 k:List (List Fv)
 v:List (List Fv)
 x:List (List Fv)
 p:List (List Fv)
def Cl.raw(c:Cl):Cr:=⟨c.ns.map ndF,c.ks.map kdF,c.vs.map vdF,c.xs.map xdF,c.ps.map pdF⟩
structure Ad where
 a1:Option Addr
 l1:Nat
 c1:Nat
 a2:Option Addr
 l2:Nat
 c2:Nat
 a3:Option Addr
 l3:Nat
 c3:Nat
 a4:Option Addr
 l4:Nat
 c4:Nat
 a5:Option Addr
 l5:Nat
 c5:Nat
@[reducible] def clv (d:Ad) (n:Int):Array Value:=#[J d.a1 d.l1 d.c1,J d.a2 d.l2 d.c2,J d.a3 d.l3 d.c3,J d.a4 d.l4 d.c4,J d.a5 d.l5 d.c5,Y4 Y5 n]
@[reducible] def clo6 (a1:Option Addr) (l1 y1:Nat) (a2:Option Addr) (l2 y2:Nat) (a3:Option Addr) (l3 y3:Nat) (a4:Option Addr) (l4 y4:Nat) (a5:Option Addr) (l5 y5:Nat) (n:Int):Array Value:=#[J a1 l1 y1,J a2 l2 y2,J a3 l3 y3,J a4 l4 y4,J a5 l5 y5,Y4 Y5 n]
@[reducible] def trv (d:Ad) (c:Cl) (p:Pd) (n:Nd) (pa:Option Addr) (pl pc:Nat) (na:Option Addr) (nl nc:Nat):Array Value:=#[J d.a1 d.l1 d.c1,J d.a2 d.l2 d.c2,J d.a3 d.l3 d.c3,J d.a4 d.l4 d.c4,J d.a5 d.l5 d.c5,Y4 Y5 c.now,I p.n,Y4 Y5 p.c,I p.z,J pa pl pc,I p.d,Y4 Y5 p.p,I n.n,I n.z,Y4 Y5 n.c,Y4 Y5 n.s,Y4 Y5 n.u,Y7 n.d,J na nl nc]
@[reducible] def vov (v:Vd) (a:Option Addr) (l k:Nat):Array Value:=#[I v.n,Y4 Y5 v.c,I v.z,I v.k,Y7 v.x,I v.m,Y7 v.y,J a l k]
@[reducible] def pov (p:Pd) (a:Option Addr) (l k:Nat):Array Value:=#[I p.n,Y4 Y5 p.c,I p.z,J a l k,I p.d,Y4 Y5 p.p]
@[reducible] def nov (n:Nd) (a:Option Addr) (l k:Nat):Array Value:=#[I n.n,I n.z,Y4 Y5 n.c,Y4 Y5 n.s,Y4 Y5 n.u,Y7 n.d,J a l k]
@[reducible] def xov (x:Xd):Array Value:=#[I x.n,Y4 Y5 x.z,I x.k,Y7 x.x,I x.v]
structure aB (w:World) (d:Ad) (c:Cr):Prop where
 n:aT w d.a1 d.l1 d.c1 7 c.n
 k:aT w d.a2 d.l2 d.c2 4 c.k
 v:aT w d.a3 d.l3 d.c3 8 c.v
 x:aT w d.a4 d.l4 d.c4 5 c.x
 p:aT w d.a5 d.l5 d.c5 6 c.p
theorem aB.below {w:World} {d:Ad} {c:Cr} (h:aB w d c) (hb:Below w.heap.size w w'):aB w' d c:=⟨h.n.below hb,h.k.below hb,h.v.below hb,h.x.below hb,h.p.below hb⟩
structure gX (w:World) (d:Ad) (c:Cr) (S:Nat->Prop) (P:Nat->Nat):Prop where
 n:aw w d.a1 d.l1 d.c1 7 38 c.n (λk=>S k/\P k=1)
 k:aw w d.a2 d.l2 d.c2 4 92 c.k (λk=>S k/\P k=2)
 v:aw w d.a3 d.l3 d.c3 8 95 c.v (λk=>S k/\P k=3)
 x:aw w d.a4 d.l4 d.c4 5 97 c.x (λk=>S k/\P k=4)
 p:aw w d.a5 d.l5 d.c5 6 40 c.p (λk=>S k/\P k=5)
def cX(w:World) (d:Ad) (c:Cr) (S:Nat->Prop):Prop:=∃P,gX w d c S P
theorem gX.row {w:World} {d:Ad} {c:Cr} {P:Nat->Nat} (h:gX w d c S P):aB w d c:=⟨h.n.row,h.k.row,h.v.row,h.x.row,h.p.row⟩
theorem cX.row {w:World} {d:Ad} {c:Cr} (h:cX w d c S):aB w d c:=by obtain⟨P,h⟩:=h;exact h.row
def eV(N:Int) (c:Cr):Int:=(fl (fl (fl (fl (fl N c.n) c.k) c.v) c.x) c.p)
theorem Qg:(Tryz.prog.info? 38).map (λi=>(i.zero,i.size,i.bytes))=Y3 (Y3 (Za #[I ⟨#[]⟩,I ⟨#[]⟩,Y4 Y5 0,Y4 Y5 0,Y4 Y5 0,Y7 Y8,J U 0 0]),7,88):=by kernel_rfl
theorem Qh:(Tryz.prog.info? 92).map (λi=>(i.zero,i.size,i.bytes))=Y3 (Y3 (Za #[I ⟨#[]⟩,Y7 Y8,Y7 Y8,I ⟨#[]⟩]),4,40):=by kernel_rfl
theorem qi:(Tryz.prog.info? 95).map (λi=>(i.zero,i.size,i.bytes))=Y3 (Y3 (Za #[I ⟨#[]⟩,Y4 Y5 0,I ⟨#[]⟩,I ⟨#[]⟩,Y7 Y8,I ⟨#[]⟩,Y7 Y8,J U 0 0]),8,112):=by kernel_rfl
theorem qh:(Tryz.prog.info? 97).map (λi=>(i.zero,i.size,i.bytes))=Y3 (Y3 (Za #[I ⟨#[]⟩,Y4 Y5 0,I ⟨#[]⟩,Y7 Y8,I ⟨#[]⟩]),5,64):=by kernel_rfl
theorem qj:(Tryz.prog.info? 40).map (λi=>(i.zero,i.size,i.bytes))=Y3 (Y3 (Za #[I ⟨#[]⟩,Y4 Y5 0,I ⟨#[]⟩,J U 0 0,I ⟨#[]⟩,Y4 Y5 0]),6,88):=by kernel_rfl
structure bM (c:Cl):Prop where
 l1:c.ns.length<=1048576
 f1:∀(j:Nat) x,c.ns[j]?=Y3 x->x.zs.length<=1048576
 l2:c.ks.length<=1048576
 l3:c.vs.length<=1048576
 f3:∀(j:Nat) x,c.vs[j]?=Y3 x->x.zs.length<=1048576
 l4:c.xs.length<=1048576
 l5:c.ps.length<=1048576
 f5:∀(j:Nat) x,c.ps[j]?=Y3 x->x.zs.length<=1048576
def LFr(w:World) (h:Nat) (S:Nat->Prop) (zs:List ByteArray) (v:Value):Prop:=
 ∃a len cap,v=J a len cap/\zs.length=len/\len<=cap/\cap<=9223372036854775807/\(∀(j:Nat) x,zs[j]?=Y3 x->x.size<=9223372036854775807)/\
  (zs=[]\/(a=Y3 ⟨h,0,U⟩/\S h/\∃cu,w.heap[h]?=Y3 (Y6 cu 9 (0,0))/\∀(j:Nat) x,zs[j]?=Y3 x->cu[j]?=Y3 (I x)))
theorem LFr.az {w:World} {zs:List ByteArray} {v:Value} (k:LFr w h S zs v) (hk:∀cu,S h->w.heap[h]?=Y3 (Y6 cu 9 (0,0))->w'.heap[h]?=w.heap[h]?) (hs:h<w.heap.size->S h->S' h):LFr w' h S' zs v:=by
 obtain⟨a',l',c',h1,h2,h3,h4,h5,h6⟩:=k;refine⟨a',l',c',h1,h2,h3,h4,h5,h6.imp id ?_⟩;rintro⟨q1,q2,cu,q4,q5⟩;exact⟨q1,hs (ae q4) q2,cu,(hk cu q2 q4).trans q4,q5⟩
def Fv.Fr(w:World) (h:Nat) (S:Nat->Prop):Fv->Value->Prop
 | .s t,v=>v=I t/\t.size<=9223372036854775807
 | .i n,v=>v=Y4 Y5 n
 | .b x,v=>v=Y7 x
 | .l zs,v=>LFr w h S zs v
theorem Fv.Fr.az {w:World} {f:Fv} {v:Value} (k:f.Fr w h S v) (hk:∀cu,S h->w.heap[h]?=Y3 (Y6 cu 9 (0,0))->w'.heap[h]?=w.heap[h]?) (hs:h<w.heap.size->S h->S' h):f.Fr w' h S' v:=by
 cases f with
 | l zs=>exact LFr.az k hk hs
 | _=>exact k
theorem Fv.Fr.own {w:World} {f:Fv} {v:Value} (k:f.Fr w h S v) (hg:w.heap[g]?=Y3 (Y6 cur T (0,0))) (hT:¬T=9):f.Own w h S g v:=by
 cases f with
 | l zs=>
  obtain⟨a',l',c',h1,h2,h3,h4,h5,h6⟩:=k;refine⟨a',l',c',h1,h2,h3,h4,h5,h6.imp id ?_⟩;rintro⟨q1,q2,cu,q4,q5⟩;refine⟨q1,q2,?_,cu,q4,q5⟩;rintro rfl;rw[hg] at q4
  cases q4
  exact hT rfl
 | _=>exact k
theorem Fv.Own.fr {w:World} {f:Fv} {v:Value} (k:f.Own w h S g v):f.Fr w h S v:=by
 cases f with
 | l zs=>
  obtain⟨a',l',c',h1,h2,h3,h4,h5,h6⟩:=k;refine⟨a',l',c',h1,h2,h3,h4,h5,h6.imp id ?_⟩;rintro⟨q1,q2,q3,cu,q4,q5⟩;exact⟨q1,q2,cu,q4,q5⟩
 | _=>exact k
theorem Fv.Fr.one {w:World} {f:Fv} {v:Value} (k:f.Fr w h S v):v.oneCell'=Y_:=by
 cases f with
 | l zs=>obtain⟨a',l',c',rfl,_⟩:=k;rfl
 | s t=>obtain⟨rfl,_⟩:=k;rfl
 | i n=>cases (show v=Y4 Y5 n from k);rfl
 | b x=>cases (show v=Y7 x from k);rfl
structure aQ (w:World) (S:Nat->Prop) (m:Nat) (rs:List (List Fv)) (vss:List (List Value)) (H:Nat->Nat->Nat):Prop where
 len:vss.length=rs.length
 all:∀(j:Nat) vs,vss[j]?=Y3 vs->vs.length=m
 rl:∀(j:Nat) r,rs[j]?=Y3 r->r.length=m
 cell:∀(j:Nat) r vs,rs[j]?=Y3 r->vss[j]?=Y3 vs->∀(i:Nat) f,r[i]?=Y3 f->∃v,vs[i]?=Y3 v/\f.Fr w (H j i) S v
 inj:∀(j:Nat) r (i:Nat) zs (j':Nat) r' (i':Nat) zs',rs[j]?=Y3 r->r[i]?=Y3 (.l zs)->zs≠[]->rs[j']?=Y3 r'->r'[i']?=Y3 (.l zs')->zs'≠[]->H j i=H j' i'->j=j'/\i=i'
section
variable {w w':World} {S S':Nat->Prop} {m:Nat} {rs:List (List Fv)} {vss:List (List Value)} {H:Nat->Nat->Nat}
theorem aQ.nil(w:World) (S:Nat->Prop) (m:Nat) (H:Nat->Nat->Nat):aQ w S m [] [] H:=⟨rfl,λj vs h=>by simp at h,λj r h=>by simp at h,λj r vs h=>by simp at h,λj r i zs j' r' i' zs' h=>by simp at h⟩
theorem aQ.az(h:aQ w S m rs vss H) (hk:∀k cu,S k->w.heap[k]?=Y3 (Y6 cu 9 (0,0))->w'.heap[k]?=w.heap[k]?) (hs:∀k,k<w.heap.size->S k->S' k):aQ w' S' m rs vss H:=
 ⟨h.len,h.all,h.rl,λj r vs h1 h2 i f h3=>by
  obtain⟨v,h4,h5⟩:=h.cell j r vs h1 h2 i f h3;exact⟨v,h4,h5.az (hk _) (hs _)⟩,h.inj⟩
theorem aQ.below(h:aQ w S m rs vss H) (hb:Below w.heap.size w w'):aQ w' S m rs vss H:=h.az (λk _ _ q=>hb.block k (ae q)) (λ_ _ s=>s)
theorem aQ.grown(h:aQ w S m rs vss H) {base n:Nat} {T:TypeId} {v:Value} {xs:List Value} (ho:w.ownsRow base T m v n xs) (hT:¬T=9) (hg:w.grownBy w' v.ownBlock):aQ w' S m rs vss H:=by
 refine h.az (λk cu _ q=>hg.block k (ae q) (λe=>?_)) (λ_ _ s=>s);rcases ho.2 with ⟨rfl,_⟩|⟨g,cap,cur,rfl,_,hgg,_⟩
 ·cases e
 ·cases e;simp only[] at q;rw[hgg] at q;cases q;exact hT rfl
theorem aQ.lt(h:aQ w S m rs vss H) {j:Nat} {r:List Fv} {i:Nat} {zs:List ByteArray} (h1:rs[j]?=Y3 r) (h2:r[i]?=Y3 (.l zs)) (h3:zs≠[]):H j i<w.heap.size:=by
 have hj:j<vss.length:=by rw[h.len];exact (Yc.1 h1).1
 obtain⟨v,_,a,len,cap,_,_,_,_,_,h9⟩:=h.cell j r _ h1 (Yi hj) i _ h2;rcases h9 with h9|⟨_,_,cu,q4,_⟩
 ·exact absurd h9 h3
 ·exact ae q4
theorem aQ.sel(h:aQ w S m rs vss H) {rs':List (List Fv)} {vss':List (List Value)} (f:Nat->Nat) (hl:vss'.length=rs'.length) (hr:∀j,j<rs'.length->rs'[j]?=rs[f j]?) (hv:∀j,j<rs'.length->vss'[j]?=vss[f j]?)
  (hf:∀j j',j<rs'.length->j'<rs'.length->f j=f j'->j=j'):aQ w S m rs' vss' (λj=>H (f j)):=by
 have lt1:∀{j:Nat} {r},rs'[j]?=Y3 r->j<rs'.length:=λh=>(Yc.1 h).1;have lt2:∀{j:Nat} {r},vss'[j]?=Y3 r->j<rs'.length:=λh=>by rw[<-hl];exact (Yc.1 h).1
 refine⟨hl,λj vs h1=>h.all (f j) vs (by rw[<-hv j (lt2 h1)];exact h1),λj r h1=>h.rl (f j) r (by rw[<-hr j (lt1 h1)];exact h1),λj r vs h1 h2=>h.cell (f j) r vs (by rw[<-hr j (lt1 h1)];exact h1) (by rw[<-hv j (lt1 h1)];exact h2),?_⟩;intro j r i zs j' r' i' zs' h1 h2 h3 h4 h5 h6 h7;obtain⟨e1,e2⟩:=h.inj (f j) r i zs (f j') r' i' zs' (by rw[<-hr j (lt1 h1)];exact h1) h2 h3 (by rw[<-hr j' (lt1 h4)];exact h4) h5 h6 h7;exact⟨hf j j' (lt1 h1) (lt1 h4) e1,e2⟩
theorem aQ.push(h:aQ w S m rs vss H) {r:List Fv} {vs:List Value} {hh:Nat->Nat} (hr:r.length=m) (hvs:vs.length=m) (hc:∀(i:Nat) f,r[i]?=Y3 f->∃v,vs[i]?=Y3 v/\f.Fr w (hh i) S v)
  (hn:∀(i:Nat) zs,r[i]?=Y3 (.l zs)->zs≠[]->∀(j:Nat) r' (i':Nat) zs',rs[j]?=Y3 r'->r'[i']?=Y3 (.l zs')->zs'≠[]->¬H j i'=hh i)
  (h1:∀(i i':Nat) zs zs',r[i]?=Y3 (.l zs)->zs≠[]->r[i']?=Y3 (.l zs')->zs'≠[]->i=i'):
  aQ w S m (rs++[r]) (vss++[vs]) (λj=>if j=rs.length then hh else H j):=by
 have at1:∀{α:Type} {l:List α} {x y:α} {j:Nat},(l++[x])[j]?=Y3 y->(j=l.length/\y=x)\/(j<l.length/\l[j]?=Y3 y):=by
  intro α l x y j hj;by_cases e:j<l.length
  ·rw[Yv e] at hj;exact Zb ⟨e,hj⟩
  ·rw[List.getElem?_append_right af] at hj;rcases Nat.eq_zero_or_pos (j - l.length) with e0|e0
   ·rw[e0] at hj;exact Zc ⟨by omega,by simpa using hj.symm⟩
   ·rw[List.getElem?_eq_none bJ] at hj;cases hj
 refine⟨by simp[h.len],λj v hv=>?_,λj r' hj=>?_,λj r' v hj hv i f hf=>?_,λj r1 i zs j' r2 i' zs' a1 a2 a3 b1 b2 b3 e=>?_⟩
 ·rcases at1 hv with ⟨_,rfl⟩|⟨_,hv⟩
  ·exact hvs
  ·exact h.all j v hv
 ·rcases at1 hj with ⟨_,rfl⟩|⟨_,hj⟩
  ·exact hr
  ·exact h.rl j r' hj
 ·rcases at1 hj with ⟨e1,rfl⟩|⟨e1,hj⟩
  ·rcases at1 hv with ⟨_,rfl⟩|⟨e2,hv⟩
   ·simp only[e1,if_true];exact hc i f hf
   ·have:=h.len;omega
  ·rcases at1 hv with ⟨e2,rfl⟩|⟨e2,hv⟩
   ·have:=h.len;omega
   ·simp only[if_neg (show¬j=rs.length by omega)];exact h.cell j r' v hj hv i f hf
 ·rcases at1 a1 with ⟨e1,rfl⟩|⟨e1,a4⟩ <;> rcases at1 b1 with ⟨e2,rfl⟩|⟨e2,b4⟩
  ·exact⟨by omega,h1 _ _ _ _ a2 a3 b2 b3⟩
  ·simp only[e1,if_true,if_neg (show¬j'=rs.length by omega)] at e;exact absurd e.symm (hn i zs a2 a3 j' r2 i' zs' b4 b2 b3)
  ·simp only[e2,if_true,if_neg (show¬j=rs.length by omega)] at e;exact absurd e (hn i' zs' b2 b3 j r1 i zs a4 a2 a3)
  ·simp only[if_neg (show¬j=rs.length by omega),if_neg (show¬j'=rs.length by omega)] at e;exact h.inj j r1 i zs j' r2 i' zs' a4 a2 a3 b4 b2 b3 e
end
theorem fY {m:Nat} :∀{vss:List (List α)},(∀(j:Nat) vs,vss[j]?=Y3 vs->vs.length=m)->∀{j:Nat} {vs:List α} {i:Nat} {u:α},vss[j]?=Y3 vs->vs[i]?=Y3 u->vss.flatten[j*m+i]?=Y3 u
 | [],_,j,vs,i,u,h,_=>by simp at h
 | x ::vss,hl,0,vs,i,u,h,hu=>by
  obtain rfl:x=vs:=iy
  have hx:=hl 0 x rfl;have hi:=(Yc.1 hu).1;rw[List.flatten_cons,Yv af,Nat.zero_mul,Yq];exact hu
 | x ::vss,hl,j+1,vs,i,u,h,hu=>by
  have hx:=hl 0 x rfl;rw[List.flatten_cons,List.getElem?_append_right (by rw[hx,Nat.succ_mul];omega),hx,show (j+1)*m+i - m=j*m+i by rw[Nat.succ_mul];omega];exact fY (λj' vs' h'=>hl (j'+1) vs' (by simpa using h')) iy hu
theorem jS {m:Nat} :∀{vss:List (List α)},(∀(j:Nat) vs,vss[j]?=Y3 vs->vs.length=m)->∀{k:Nat} {u:α},vss.flatten[k]?=Y3 u->∃(j i:Nat) (vs:List α),vss[j]?=Y3 vs/\vs[i]?=Y3 u/\k=j*m+i
 | [],_,k,u,h=>by simp at h
 | x ::vss,hl,k,u,h=>by
  have hx:=hl 0 x rfl;rw[List.flatten_cons] at h;by_cases e:k<m
  ·rw[Yv af] at h;exact⟨0,k,x,rfl,h,by omega⟩
  ·rw[List.getElem?_append_right af,hx] at h;obtain⟨j,i,vs,h1,h2,h3⟩:=jS (λj' vs' h'=>hl (j'+1) vs' (by simpa using h')) h;exact⟨j+1,i,vs,by simpa using h1,h2,by rw[Nat.succ_mul];omega⟩
theorem eR {m:Nat} :∀{vss:List (List α)},(∀(j:Nat) vs,vss[j]?=Y3 vs->vs.length=m)->vss.flatten.length=vss.length*m
 | [],_=>by simp
 | x ::vss,hl=>by
  have hx:=hl 0 x rfl;rw[List.flatten_cons,List.length_append,eR (λj' vs' h'=>hl (j'+1) vs' (by simpa using h')),hx,YY,Nat.succ_mul];omega
theorem aQ.one {w:World} {m:Nat} {rs:List (List Fv)} (h:aQ w S m rs vss H):∀u∈vss.flatten,u.oneCell'=Y_:=by
 intro u hu;obtain⟨k,hk,rfl⟩:=List.mem_iff_getElem.1 hu;obtain⟨j,i,vs,h1,h2,_⟩:=jS h.all (Yi hk);have hj:j<rs.length:=by rw[<-h.len];exact (Yc.1 h1).1
 have hr:=Yi hj;have hi:i<(rs[j]).length:=by rw[h.rl j _ hr,<-h.all j vs h1];exact (Yc.1 h2).1
 obtain⟨v,h3,h4⟩:=h.cell j _ vs hr h1 i _ (Yi hi);rw[h2] at h3;cases h3;exact h4.one
theorem aQ.own {w:World} {m:Nat} {rs:List (List Fv)} (h:aQ w S m rs vss H) {base n:Nat} {v:Value} (ho:w.ownsRow base T m v n vss.flatten) (hn:n=rs.length) (hT:¬T=9) (hS:∀g,v.ownBlock=Y3 g->S g):
  ∃a cap,v=J a rs.length cap/\aw w a rs.length cap m T rs S:=by
 subst hn;rcases ho.2 with ⟨rfl,h0⟩|⟨g,cap,cur,rfl,_,hgg,h1,h2,h3,h4⟩
 ·obtain rfl:rs=[]:=YN h0;exact⟨U,0,rfl,aw.nil _ _ _ _ _ af⟩
 ·refine⟨_,cap,rfl,rfl,h1,by unfold maxLen at h2;omega,Zb ⟨g,cur,H,rfl,hgg,hS g rfl,h.rl,λj r hj i f hi=>?_,h.inj⟩⟩;have hjl:j<vss.length:=by rw[h.len];exact (Yc.1 hj).1
  have hv:=Yi hjl;obtain⟨u,h5,h6⟩:=h.cell j r _ hj hv i f hi;have h7:=fY h.all hv h5;rw[<-h4,YD] at h7;split at h7
  ·exact⟨u,by simpa using h7,h6.own hgg hT⟩
  ·cases h7
theorem aw.i_ {w:World} {m:Nat} {len:Nat} {rs:List (List Fv)} (h:aw w a len cap m T rs S):
  ∃vss H,aQ w S m rs vss H/\∀(k:Nat) u,vss.flatten[k]?=Y3 u->∃g,a=Y3 ⟨g,0,U⟩/\S g/\w.cell? ⟨g,k,U⟩=Y3 u:=by
 obtain⟨h1,h2,h3,h4⟩:=h;rcases h4 with rfl|⟨g,cur,H,rfl,h5⟩
 ·exact⟨[],λ_ _=>0,aQ.nil _ _ _ _,λk u hu=>by simp at hu⟩
 ·have hget:∀(j i:Nat),((YT rs.length).map λj=>(YT m).map λi=>cur.getD (j*m+i) undef)[j]?=if j<rs.length then Y3 ((YT m).map λi=>cur.getD (j*m+i) undef) else U:=by
   intro j _;rw[Yt];split
   ·next e=>rw[List.getElem?_range e];rfl
   ·next e=>rw[List.getElem?_eq_none (by simpa using e)];rfl
  have hval:∀(j:Nat) r,rs[j]?=Y3 r->∀(i:Nat),i<m->∃f v,r[i]?=Y3 f/\cur[j*m+i]?=Y3 v/\f.Own w (H j i) S g v/\((YT m).map λi=>cur.getD (j*m+i) undef)[i]?=Y3 v:=by
   intro j r hr i hi;have hl:=h5.len j r hr;have hf:=Yi (l:=r) (i:=i) af;obtain⟨v,q1,q2⟩:=h5.cell j r hr i _ hf;refine⟨_,v,hf,q1,q2,?_⟩;rw[Yt,List.getElem?_range hi];simp[Yp,q1]
  have hvrecs:aQ w S m rs ((YT rs.length).map λj=>(YT m).map λi=>cur.getD (j*m+i) undef) H:=by
   refine⟨by simp,λj vs hv=>?_,h5.len,λj r vs hr hv i f hf=>?_,h5.inj⟩
   ·rw[hget j 0] at hv;split at hv
    ·cases hv;simp
    ·cases hv
   ·rw[hget j 0,if_pos (Yc.1 hr).1] at hv;cases hv;have hi:i<m:=by rw[<-h5.len j r hr];exact (Yc.1 hf).1
    obtain⟨f',v,q1,q2,q3,q4⟩:=hval j r hr i hi;rw[hf] at q1;cases q1;exact⟨v,q4,q3.fr⟩
  refine⟨_,H,hvrecs,λk u hu=>⟨g,rfl,h5.inS,?_⟩⟩;obtain⟨j,i,vs,e1,e2,rfl⟩:=jS hvrecs.all hu;rw[hget j 0] at e1;split at e1
  ·next e=>
   cases e1;have hi:i<m:=by have:=(Yc.1 e2).1;simpa using this
   obtain⟨f',v,q1,q2,q3,q4⟩:=hval j _ (Yi e) i hi;rw[e2] at q4;cases q4;exact (an h5.blk _).trans q2
  ·cases e1
theorem dw:∀x:List UInt8,Yk x x=Y8
 | []=>rfl
 | a ::x=>by simp[Yk,dw x]
theorem b8:∀x y z:List UInt8,Yk x y=Y_->Yk y z=Y_->Yk x z=Y_
 | _,[],_,h,_=>by cases ‹List UInt8› <;> simp[Yk] at h
 | _,_ ::_,[],_,h=>by simp[Yk] at h
 | [],_ ::_,_ ::_,_,_=>rfl
 | a ::x,b ::y,c ::z,h,k=>by
  simp only[Yk,Bool.or_eq_true,decide_eq_true_eq,YE,beq_iff_eq] at h k ⊢;rcases h with h|⟨rfl,h⟩
  ·rcases k with k|⟨rfl,k⟩
   ·exact Zc (UInt8.lt_trans h k)
   ·exact Zc h
  ·rcases k with k|⟨rfl,k⟩
   ·exact Zc k
   ·exact Zb ⟨rfl,b8 x y z h k⟩
section
variable {α:Type} {nm:α->ByteArray} {xs:List α} {t:ByteArray}
def aH(nm:α->ByteArray) (xs:List α):Prop:=∀(j:Nat) x y,xs[j+1]?=Y3 x->xs[j]?=Y3 y->Yk (nm y).toList (nm x).toList=Y_
theorem aH.lt(h:aH nm xs) {i j:Nat} {x y:α} (hij:i<j) (hi:xs[i]?=Y3 x) (hj:xs[j]?=Y3 y):Yk (nm x).toList (nm y).toList=Y_:=by
 induction j generalizing y with
 | zero=>omega
 | succ j ih=>
  by_cases e:i=j
  ·subst e;exact h i y x hj hi
  ·have hl:j<xs.length:=by have:=(Yc.1 hj).1;omega
   have hz:xs[j]?=Y3 (xs[j]'hl):=Yi _;exact b8 _ _ _ (ih af hz) (h j y _ hj hz)
theorem aH.inj(h:aH nm xs) {i j:Nat} {x y:α} (hi:xs[i]?=Y3 x) (hj:xs[j]?=Y3 y) (e:nm x=nm y):i=j/\x=y:=by
 have hij:i=j:=by
  rcases Nat.lt_trichotomy i j with k|k|k
  ·have:=h.lt k hi hj;rw[e,dw] at this;cases this
  ·exact k
  ·have:=h.lt k hj hi;rw[e,dw] at this;cases this
 subst hij;rw[hi] at hj;exact⟨rfl,Yd hj⟩
def pl(nm:α->ByteArray) (xs:List α) (t:ByteArray):Nat:=xs.findIdx (λx=> !Yk (nm x).toList t.toList)
def hit(nm:α->ByteArray) (xs:List α) (t:ByteArray):Bool:=match xs[pl nm xs t]? with|Y3 x=>(nm x).toList==t.toList|U=>Y8
theorem oG {k:Nat} {x:α} (h:∀(j:Nat) y,j<k->xs[j]?=Y3 y->Yk (nm y).toList t.toList=Y_) (hx:xs[k]?=Y3 x) (hl:Yk (nm x).toList t.toList=Y8):pl nm xs t=k:=by
 have hk:k<xs.length:=(Yc.1 hx).1;have hxe:xs[k]=x:=(Yc.1 hx).2;unfold pl;rw[List.findIdx_eq hk];refine⟨by rw[hxe,hl];rfl,λj hj=>?_⟩;rw[h j _ hj (Yi af)];rfl
theorem fU(h:∀(j:Nat) y,xs[j]?=Y3 y->Yk (nm y).toList t.toList=Y_):pl nm xs t=xs.length:=by
 unfold pl;rw[List.findIdx_eq_length];intro x hx;obtain⟨j,hj,rfl⟩:=List.mem_iff_getElem.1 hx;rw[h j _ (Yi hj)];rfl
theorem dp {a b:ByteArray} (h:(a.toList==b.toList)=Y_):a=b:=by
 by_cases e:a=b
 ·exact e
 ·rw[bA e] at h;cases h
theorem a_(hr:aH nm xs) {j:Nat} {x:α} (hx:xs[j]?=Y3 x) (hn:nm x=t):pl nm xs t=j/\hit nm xs t=Y_:=by
 have h:pl nm xs t=j:=oG (λi y hi hy=>by rw[<-hn];exact hr.lt hi hy hx) hx (by rw[hn];exact dw _);refine⟨h,?_⟩;unfold hit;rw[h,hx];exact aP hn
theorem cv(h:hit nm xs t=Y_):∃x,xs[pl nm xs t]?=Y3 x/\nm x=t:=by
 unfold hit at h;split at h
 ·next x hx=>exact⟨x,hx,dp h⟩
 ·cases h
def eT(ok:α->Prop) (nm:α->ByteArray) (xs:List α) (most:Int):Prop:=(xs.length:Int)<=most/\(∀(j:Nat) x,xs[j]?=Y3 x->ok x)/\aH nm xs
end
theorem ar.yes {p:Prop} {w:World} (h:ar p w e w') (hp:p):e=Y9 (Y7 Y_)/\Below w.heap.size w w':=by
 obtain⟨r,rfl,hr,hb⟩:=h;exact⟨by rw[hr.2 hp],hb⟩
theorem ar.no {p:Prop} {w:World} (h:ar p w e w') (hp:¬p):e=Y9 (Y7 Y8)/\Below w.heap.size w w':=by
 obtain⟨r,rfl,hr,hb⟩:=h;cases r
 ·exact⟨rfl,hb⟩
 ·exact absurd (hr.1 rfl) hp
theorem ar.t {p:Prop} {w:World} (hp:p) (hb:Below w.heap.size w w'):ar p w (Y9 (Y7 Y_)) w':=⟨Y_,rfl,⟨λ_=>hp,λ_=>rfl⟩,hb⟩
theorem ar.f {p:Prop} {w:World} (hp:¬p) (hb:Below w.heap.size w w'):ar p w (Y9 (Y7 Y8)) w':=⟨Y8,rfl,⟨λh=>(by cases h),λh=>absurd h hp⟩,hb⟩
def vV(x:Nd):Prop:=w_ x.n x.z x.c x.s x.u x.zs
def wk(x:Kd):Prop:=qy x.n x.z
def qJ(v:Vd):Prop:=QD v.n v.c v.z v.k v.x v.m v.y v.zs
def gB(x:Xd):Prop:=qA x.n x.z x.k x.v
def uf(x:Pd):Prop:=As x.n x.c x.z x.zs x.d x.p
def Bw(y W:World):Prop:=Below y.heap.size y W
theorem Bw.refl(y:World):Bw y y:=Yh _ _
theorem Bw.below {y W':World} (h:Bw y W) (hb:Below W.heap.size W W'):Bw y W':=Below.trans h (hb.mono (Below.size h))
theorem Bw.out {y:World} (h:Bw y W):Below y.heap.size y W:=h
def bN(w:World) (a:Option Addr) (l c:Nat) (zs:List ByteArray) (S:Nat->Prop):Prop:=
 ay w a l c zs/\(zs=[]\/∃g cur,a=Y3 ⟨g,0,U⟩/\S g/\w.heap[g]?=Y3 (Y6 cur 9 (0,0)))
theorem bN.az {w:World} {l c:Nat} {zs:List ByteArray} (h:bN w a l c zs S) (hk:∀k,k<w.heap.size->S k->w'.heap[k]?=w.heap[k]?) (hs:∀k,k<w.heap.size->S k->S' k):bN w' a l c zs S':=by
 obtain⟨⟨h1,h2,h3,h4,h5⟩,h6⟩:=h;rcases h6 with rfl|⟨g,cur,rfl,hS,hg⟩
 ·exact⟨⟨h1,h2,h3,h4,Zc rfl⟩,Zc rfl⟩
 ·have hg':=(hk g (ae hg) hS).trans hg;refine⟨⟨h1,h2,h3,h4,h5.imp id ?_⟩,Zb ⟨g,cur,rfl,hs g (ae hg) hS,hg'⟩⟩;rintro⟨b,o,e,hlt,hc⟩;cases e;exact⟨g,0,rfl,ae hg',λj x hx=>by have:=hc j x hx;rw[an hg] at this;rw[an hg'];exact this⟩
theorem bN.below {w:World} {l c:Nat} {zs:List ByteArray} (h:bN w a l c zs S) (hb:Below w.heap.size w w'):bN w' a l c zs S:=h.az (λk hk _=>hb.block k hk) (λ_ _ s=>s)
theorem bN.bl {w:World} {l c:Nat} {zs:List ByteArray} (h:bN w a l c zs S) (hs:∀k,k<w.heap.size->S k->S' k):bN w a l c zs S':=h.az (λ_ _ _=>rfl) hs
theorem bN.row {w:World} {l c:Nat} {zs:List ByteArray} (h:bN w a l c zs S):ay w a l c zs:=h.1
theorem bN.fk {w:World} {n:Nat} {v:Value} {zs:List ByteArray} (h:w.ownsRow base 9 1 v n (zs.map Yn)) (hs:∀(j:Nat) x,zs[j]?=Y3 x->x.size<=9223372036854775807):∃a c,v=J a n c/\bN w a n c zs (λk=>base<=k):=by
 obtain⟨hl,h⟩:=h;have hl':zs.length=n:=by simpa using hl
 rcases h with ⟨rfl,rfl⟩|⟨g,cap,cur,rfl,hbg,hg,hnc,hcm,hsz,htk⟩
 ·obtain rfl:zs=[]:=YN hl';exact⟨U,0,rfl,⟨rfl,Ye _,by omega,λj x hx=>by simp at hx,Zc rfl⟩,Zc rfl⟩
 ·refine⟨Y3 ⟨g,0,U⟩,cap,rfl,⟨hl',hnc,by unfold maxLen at hcm;omega,hs,Zb ⟨g,0,rfl,ae hg,λj x hx=>?_⟩⟩,Zb ⟨g,cur,rfl,hbg,hg⟩⟩;exact PJ
theorem cA {w:World} {n m:Nat} {v:Value} {xs:List Value} (h:w.ownsRow base T m v n xs) (hb:Below w.heap.size w w'):w'.ownsRow base T m v n xs:=by
 refine⟨h.1,h.2.imp id ?_⟩;rintro⟨g,cap,cur,h1,h2,h3,h4⟩;exact⟨g,cap,cur,h1,h2,(hb.block _ (ae h3)).trans h3,h4⟩
theorem P2:∀(r:List Fv) (k:Int),(∀(i:Nat) zs,r[i]?=Y3 (.l zs)->zs.length<=1048576)->mkN k r<=k+r.length*1048577
 | [],k,_=>by simp[mkN]
 | f ::r,k,h=>by
  have h1:=P2 r (mkN1 k f) (λi zs hi=>h (i+1) zs (by simpa using hi));have h2:mkN1 k f<=k+1048577:=by
   cases f with
   | l zs=>have:=h 0 zs rfl;simp only[mkN1];omega
   | _=>simp only[mkN1];omega
  simp only[mkN,YY];omega
theorem Ae {m:Nat} :∀(rs:List (List Fv)) (k:Int),(∀(j:Nat) r,rs[j]?=Y3 r->r.length<=m/\∀(i:Nat) zs,r[i]?=Y3 (.l zs)->zs.length<=1048576)->fl k rs<=k+rs.length*(m*1048577)
 | [],k,_=>by simp[fl]
 | r ::rs,k,h=>by
  have h1:=Ae rs (mkN k r) (λj r' hj=>h (j+1) r' (by simpa using hj));obtain⟨h2,h3⟩:=h 0 r rfl;have h4:=P2 r k h3;have h5:r.length*1048577<=m*1048577:=Nat.mul_le_mul_right _ h2;have h6:((rs.length+1:Nat):Int)*(m*1048577)=rs.length*(m*1048577)+m*1048577:=by
   rw[Int.natCast_add];simp[Int.add_mul]
  simp only[fl,YY];rw[h6];omega
theorem gU {F:α->List Fv} {xs:List α} {m:Nat} (hm:∀x,(F x).length<=m) (hl:∀(j:Nat) x,xs[j]?=Y3 x->∀(i:Nat) zs,(F x)[i]?=Y3 (.l zs)->zs.length<=1048576) (hx:xs.length<=1048576) (hm8:m<=8) (k:Int):fl k (xs.map F)<=k+8796101410816:=by
 have h:=Ae (m:=m) (xs.map F) k (λj r hj=>by
  rw[Yt] at hj;obtain⟨x,h1,rfl⟩:=Yz.1 hj
  exact⟨hm x,hl j x h1⟩)
 rw[Yr] at h;have h2:xs.length*(m*1048577)<=1048576*(8*1048577):=Nat.mul_le_mul hx (Nat.mul_le_mul_right _ hm8);have h3:((xs.length*(m*1048577):Nat):Int)=(xs.length:Int)*((m:Int)*1048577):=by rw[Int.natCast_mul,Int.natCast_mul];rfl
 rw[<-h3] at h;omega
end Rc
namespace Ap
def b_(zs:List ByteArray) (w:World) (a:Option Addr) (len cap:Nat) (w':World):Prop:=
 ay w' a len cap zs/\(zs=[]\/∃g cur,a=Y3 ⟨g,0,U⟩/\w.heap.size<=g/\w'.heap[g]?=Y3 (Y6 cur 9 (0,0)))/\Below w.heap.size w w'
theorem Ab {w:World} {ad:Addr} {len:Nat} {zs:List ByteArray} (h:ay w (Y3 ad) len cap zs):∀j u,(zs.map Yn)[j]?=Y3 u->w.cell? (ad.add j)=Y3 u:=by
 intro j u hu;rw[Yt] at hu;obtain⟨x,hx,rfl⟩:=Yz.1 hu;rcases h.2.2.2.2 with h|⟨b,o,e,_,hc⟩
 ·subst h;simp at hx
 ·cases e;rw[Yo];exact hc j x hx
theorem b_.set {zs:List ByteArray} {w:World} {l p b X:Nat} {v:Value} (h:ay w' a l p zs/\(zs=[]\/∃g cur,a=Y3 ⟨g,0,U⟩/\X<=g/\w'.heap[g]?=Y3 (Y6 cur 9 (0,0)))/\Below w.heap.size w w') (hb:w.heap.size<=b) (hX:b<X):
  ay (w'.setCell ⟨b,i,U⟩ v) a l p zs/\(zs=[]\/∃g cur,a=Y3 ⟨g,0,U⟩/\X<=g/\(w'.setCell ⟨b,i,U⟩ v).heap[g]?=Y3 (Y6 cur 9 (0,0)))/\Below w.heap.size w (w'.setCell ⟨b,i,U⟩ v):=by
 obtain⟨⟨h1,h2,h3,h4,h5⟩,h6,h7⟩:=h;refine⟨⟨h1,h2,h3,h4,?_⟩,?_,h7.setCell hb v⟩
 ·rcases h6 with h6|⟨g,cur,rfl,hg,hh⟩
  ·exact Zc h6
  ·rcases h5 with h5|⟨g',o,e,hl,hc⟩
   ·exact Zc h5
   ·cases e;have hs:(w'.setCell ⟨b,i,U⟩ v).heap[g]?=w'.heap[g]?:=Ya _ _ _ _ (show g≠b by omega);exact Zb ⟨g,0,rfl,by simpa[YO] using hl,λj x hx=>by have:=hc j x hx;simp only[World.cell?,hs] at this ⊢;exact this⟩
 ·rcases h6 with h6|⟨g,cur,rfl,hg,hh⟩
  ·exact Zc h6
  ·exact Zb ⟨g,cur,rfl,hg,(Ya _ _ _ _ (show g≠b by omega)).trans hh⟩
theorem akk(n:ByteArray) (c:Int) (z:ByteArray) (k:ByteArray) (x:Bool) (m:ByteArray) (y:Bool) (a:Option Addr) (len cap:Nat) (zs:List ByteArray) (w:World) (hr:ay w a len cap zs) (hl:len<=8001):
  Calls Tryz.prog 55 #[Za #[I n,Y4 Y5 c,I z,I k,Y7 x,I m,Y7 y,J a len cap]] w λe w'=> ∃a' l p,e=Y9 (Za #[I n,Y4 Y5 c,I z,I k,Y7 x,I m,Y7 y,J a' l p])/\b_ zs w a' l p w':=by
 have hown:(((w.alloc (Y6 #[I n,Y4 Y5 c,I z,I k,Y7 x,I m,Y7 y,J a len cap] 95)).alloc (Y6 #[I ⟨#[]⟩,Y4 Y5 0,I ⟨#[]⟩,I ⟨#[]⟩,Y7 Y8,I ⟨#[]⟩,Y7 Y8,J U 0 0] 95)).alloc (Y6 #[] 9)).ownsRow (w.heap.size+1+1) 9 1 (J (Y3 ⟨w.heap.size+1+1,0,U⟩) 0 0) 0 []:=⟨rfl,Zb ⟨w.heap.size+1+1,0,#[],rfl,Ye _,lE _ _ _ _,Ye _,by unfold maxLen;omega,rfl,rfl⟩⟩;have HOW:=aa hown;have hr3:=hr.below (dj w (Y6 #[I n,Y4 Y5 c,I z,I k,Y7 x,I m,Y7 y,J a len cap] 95) (Y6 #[I ⟨#[]⟩,Y4 Y5 0,I ⟨#[]⟩,I ⟨#[]⟩,Y7 Y8,I ⟨#[]⟩,Y7 Y8,J U 0 0] 95) (Y6 #[] 9));have HZ:=aa hr.2.2.2.1;have hzl:=hr.1;have HR3:=aa hr3;clear hown hr3;obtain⟨i0,hi,hz0,hz1,hz2⟩:=info_parts ig;cases a with
 | none=>
  obtain rfl:zs=[]:=by
   rcases hr.2.2.2.2 with h|⟨b,o,e,_⟩
   ·exact h
   ·cases e
  obtain rfl:len=0:=by simpa using hzl.symm
  clear hr HOW HR3 hi hz0 hz1 hz2
  go_enter Tryz.func55,Tryz.ntmps55
  go_wp2
  exact bodyPost_ret (v:=Za #[I n,Y4 Y5 c,I z,I k,Y7 x,I m,Y7 y,J (Y3 ⟨w.heap.size+1+1,0,U⟩) 0 0]) (by simp[results,Tryz.results55,go_sem]) rfl ⟨_,_,_,rfl,⟨rfl,Ye _,by omega,λj x hx=>by simp at hx,Zc rfl⟩,Zc rfl,dj _ _ _ _⟩
 | some ad=>
  have HN:=aa (Ab HR3.out);clear hr
  go_enter Tryz.func55,Tryz.ntmps55
  go_wp2_with (first|(at_builtin;refine wpList_append_own _ rfl _ _ 36 rfl (w.heap.size+1+1) 9 i0 (I ⟨#[]⟩) 1 16 Tryz.underlying36 hi hz0 hz1 hz2 rfl ag _ 0 _ rfl HOW.out ad len cap (zs.map Yn) rfl ?c1 HN.out ?c3 ?c4 ?c5 aF ?_))
  case c1=>simpa using hzl
  case c3=>intro u hu;obtain⟨x,_,rfl⟩:=List.mem_map.1 hu;rfl
  case c4=>unfold maxLen;omega
  case c5=>omega
  intro v' w3 hown3 hgrow hv;have hb3:=(Yh (w.heap.size+1+1) _).grown hgrow aF (λk hk=>by simp[YJ] at hk;omega);have g0:=(hb3.block w.heap.size af).trans (qm _ _ _ _);have g1:=(hb3.block (w.heap.size+1) af).trans (lF _ _ _ _)
  obtain⟨a',l,p,rfl,hq⟩:∃a' l p,v'=J a' l p/\(ay w3 a' l p zs/\(zs=[]\/∃g cur,a'=Y3 ⟨g,0,U⟩/\w.heap.size+1+1<=g/\w3.heap[g]?=Y3 (Y6 cur 9 (0,0)))/\Below w.heap.size w w3):=by
   have hbw:=(dj w _ _ _).trans (hb3.mono af);have ho:=hown3;obtain⟨hl1,h⟩:=ho;have hl':=hzl
   rcases h with ⟨rfl,h0⟩|⟨g,cp,cur,rfl,hbg,hg,hnc,hcm,hsz,htk⟩
   ·obtain rfl:zs=[]:=YN af;exact⟨U,0,0,rfl,⟨rfl,Ye _,by omega,λj x hx=>by simp at hx,Zc rfl⟩,Zc rfl,hbw⟩
   ·refine⟨Y3 ⟨g,0,U⟩,len,cp,rfl,⟨hl',hnc,by unfold maxLen at hcm;omega,HZ.out,Zb ⟨g,0,rfl,ae hg,λj x hx=>?_⟩⟩,Zb ⟨g,cur,rfl,hbg,hg⟩,hbw⟩;rw[Yq,an hg]
    have hj:j<len:=by have:=(Yc.1 hx).1;omega
    have e1:(cur.toList.take (len*1))[j]?=Y3 (I x):=by rw[htk];simp[hx]
    rw[YD,if_pos af] at e1
    simpa using e1
  have HQ:=aa hq;have d0:=ck0 g0;have d1:=ck1 g0;have d2:=ck2 g0;have d3:=ck3 g0;have d4:=ck4 g0;have d5:=ck5 g0;have d6:=ck6 g0;have d7:=ck7 g0;have df7:=al g0 7;have e0:=ck0 g1;have ef0:=al g1 0;have e1:=ck1 g1;have ef1:=al g1 1;have e2:=ck2 g1;have ef2:=al g1 2;have e3:=ck3 g1;have ef3:=al g1 3;have e4:=ck4 g1;have ef4:=al g1 4;have e5:=ck5 g1;have ef5:=al g1 5;have e6:=ck6 g1;have ef6:=al g1 6;have e7:=ck7 g1;have ef7:=al g1 7;have HQ2:=aa (b_.set (b_.set (b_.set (b_.set (b_.set (b_.set (b_.set (b_.set (b_.set HQ.out (b:=w.heap.size) (i:=7) af af (v:=J a' l p)) (b:=w.heap.size+1) (i:=0) af af (v:=(I n))) (b:=w.heap.size+1) (i:=1) af af (v:=(Y4 Y5 c))) (b:=w.heap.size+1) (i:=2) af af (v:=(I z))) (b:=w.heap.size+1) (i:=3) af af (v:=(I k))) (b:=w.heap.size+1) (i:=4) af af (v:=(Y7 x))) (b:=w.heap.size+1) (i:=5) af af (v:=(I m))) (b:=w.heap.size+1) (i:=6) af af (v:=(Y7 y))) (b:=w.heap.size+1) (i:=7) af af (v:=(J a' l p)));clear hown3 hgrow hv hb3 g0 g1 hq;go_wp2_with fail;refine bodyPost_ret (v:=Za #[I n,Y4 Y5 c,I z,I k,Y7 x,I m,Y7 y,J a' l p]) (by simp[results,Tryz.results55,go_sem, *]) rfl ⟨a',l,p,rfl,HQ2.1,?_,HQ2.2.2⟩
  rcases HQ2.2.1 with h|⟨g,cur,h1,h2,h3⟩
  ·exact Zc h
  ·exact Zb ⟨g,cur,h1,by omega,h3⟩
end Ap
namespace Rc
theorem bN.fr {w:World} {l c:Nat} {zs:List ByteArray} (h:bN w a l c zs S):∃g,LFr w g S zs (J a l c):=by
 obtain⟨⟨h1,h2,h3,h4,h5⟩,h6⟩:=h;rcases h6 with rfl|⟨g,cur,rfl,hS,hg⟩
 ·exact⟨0,_,_,_,rfl,h1,h2,h3,h4,Zc rfl⟩
 ·refine⟨g,_,_,_,rfl,h1,h2,h3,h4,h5.imp id ?_⟩;rintro⟨b,o,e,hlt,hc⟩;cases e;exact⟨rfl,hS,cur,hg,λj x hx=>by have:=hc j x hx;rw[an hg,Yq] at this;exact this⟩
theorem LFr.lt {w:World} {zs:List ByteArray} {v:Value} (k:LFr w h S zs v) (hz:zs≠[]):S h/\h<w.heap.size:=by
 obtain⟨a',l',c',h1,h2,h3,h4,h5,h6⟩:=k;rcases h6 with h6|⟨_,q2,cu,q4,_⟩
 ·exact absurd h6 hz
 ·exact⟨q2,ae q4⟩
theorem eP(w:World) (vs:List Value) (T:TypeId):∀(j:Nat) u,vs[j]?=Y3 u->(w.alloc (Y6 vs.toArray T)).cell? ((⟨w.heap.size,0,U⟩:Addr).add j)=Y3 u:=by
 intro j u hu;rw[Yo,an (heap_alloc_new w _),Yq];simpa using hu
theorem aQ.app {w:World} {m:Nat} {rs:List (List Fv)} {n:Nat} {v:Value} {xs:List Value} (h:aQ w S m rs vss H) (hb:Below w.heap.size w W) (ho:W.ownsRow base T m v n xs) (hT:¬T=9) (hg:W.grownBy w' v.ownBlock)
  {r:List Fv} {vs:List Value} {hh:Nat} (hr:r.length=m) (hvs:vs.length=m) (hc:∀(i:Nat) f,r[i]?=Y3 f->∃v,vs[i]?=Y3 v/\f.Fr W hh S v) (hfr:∀(i:Nat) zs,r[i]?=Y3 (.l zs)->zs≠[]->w.heap.size<=hh)
  (h1:∀(i i':Nat) zs zs',r[i]?=Y3 (.l zs)->zs≠[]->r[i']?=Y3 (.l zs')->zs'≠[]->i=i'):aQ w' S m (rs++[r]) (vss++[vs]) (λj=>if j=rs.length then λ_=>hh else H j):=
 ((h.below hb).push hr hvs hc (λi zs a b j r' i' zs' c d e q=>by have q1:=h.lt c d e;have q2:=hfr i zs a b;omega) h1).grown ho hT hg
theorem AZ {x:Nd} {zs:List ByteArray} (h:(ndF x)[i]?=Y3 (.l zs)):i=6/\zs=x.zs:=by
 rcases i with _|_|_|_|_|_|_|i
 ·cases h
 ·cases h
 ·cases h
 ·cases h
 ·cases h
 ·cases h
 ·cases h;exact⟨rfl,rfl⟩
 ·simp[ndF] at h
theorem ahh {w:World} {x:Nd} {Q:Nat->Prop} {l c:Nat} (hn:x.n.size<=9223372036854775807) (hz:x.z.size<=9223372036854775807) (hl:LFr w g Q x.zs (J a l c)):∀(i:Nat) f,(ndF x)[i]?=Y3 f->∃v,[I x.n,I x.z,Y4 Y5 x.c,Y4 Y5 x.s,Y4 Y5 x.u,Y7 x.d,J a l c][i]?=Y3 v/\f.Fr w g Q v:=by
 intro i f h;rcases i with _|_|_|_|_|_|_|i
 ·cases h;exact⟨_,rfl,rfl,hn⟩
 ·cases h;exact⟨_,rfl,rfl,hz⟩
 ·cases h;exact⟨_,rfl,rfl⟩
 ·cases h;exact⟨_,rfl,rfl⟩
 ·cases h;exact⟨_,rfl,rfl⟩
 ·cases h;exact⟨_,rfl,rfl⟩
 ·cases h;exact⟨_,rfl,hl⟩
 ·simp[ndF] at h
theorem AB {x:Vd} {zs:List ByteArray} (h:(vdF x)[i]?=Y3 (.l zs)):i=7/\zs=x.zs:=by
 rcases i with _|_|_|_|_|_|_|_|i
 ·cases h
 ·cases h
 ·cases h
 ·cases h
 ·cases h
 ·cases h
 ·cases h
 ·cases h;exact⟨rfl,rfl⟩
 ·simp[vdF] at h
theorem af8 {w:World} {x:Vd} {Q:Nat->Prop} {l c:Nat} (hn:x.n.size<=9223372036854775807) (hz:x.z.size<=9223372036854775807) (hk:x.k.size<=9223372036854775807) (hm:x.m.size<=9223372036854775807) (hl:LFr w g Q x.zs (J a l c)):∀(i:Nat) f,(vdF x)[i]?=Y3 f->∃v,[I x.n,Y4 Y5 x.c,I x.z,I x.k,Y7 x.x,I x.m,Y7 x.y,J a l c][i]?=Y3 v/\f.Fr w g Q v:=by
 intro i f h;rcases i with _|_|_|_|_|_|_|_|i
 ·cases h;exact⟨_,rfl,rfl,hn⟩
 ·cases h;exact⟨_,rfl,rfl⟩
 ·cases h;exact⟨_,rfl,rfl,hz⟩
 ·cases h;exact⟨_,rfl,rfl,hk⟩
 ·cases h;exact⟨_,rfl,rfl⟩
 ·cases h;exact⟨_,rfl,rfl,hm⟩
 ·cases h;exact⟨_,rfl,rfl⟩
 ·cases h;exact⟨_,rfl,hl⟩
 ·simp[vdF] at h
theorem AW {x:Pd} {zs:List ByteArray} (h:(pdF x)[i]?=Y3 (.l zs)):i=3/\zs=x.zs:=by
 rcases i with _|_|_|_|_|_|i
 ·cases h
 ·cases h
 ·cases h
 ·cases h;exact⟨rfl,rfl⟩
 ·cases h
 ·cases h
 ·simp[pdF] at h
theorem ahg {w:World} {x:Pd} {Q:Nat->Prop} {l c:Nat} (hn:x.n.size<=9223372036854775807) (hz:x.z.size<=9223372036854775807) (hd:x.d.size<=9223372036854775807) (hl:LFr w g Q x.zs (J a l c)):∀(i:Nat) f,(pdF x)[i]?=Y3 f->∃v,[I x.n,Y4 Y5 x.c,I x.z,J a l c,I x.d,Y4 Y5 x.p][i]?=Y3 v/\f.Fr w g Q v:=by
 intro i f h;rcases i with _|_|_|_|_|_|i
 ·cases h;exact⟨_,rfl,rfl,hn⟩
 ·cases h;exact⟨_,rfl,rfl⟩
 ·cases h;exact⟨_,rfl,rfl,hz⟩
 ·cases h;exact⟨_,rfl,hl⟩
 ·cases h;exact⟨_,rfl,rfl,hd⟩
 ·cases h;exact⟨_,rfl,rfl⟩
 ·simp[pdF] at h
def amu(xs:List Nd) (t:ByteArray) (w:World) (e:Ending) (w':World):Prop:=
 Below w.heap.size w w'/\((∃(j:Nat) (x:Nd),xs[j]?=Y3 x/\x.n=t/\e=Y9 (Y4 Y5 j))\/((∀(j:Nat) x,xs[j]?=Y3 x->¬x.n=t)/\e=Y9 (Y4 Y5 (-1))))
theorem iQ(d:Ad) (now:Int) (xs:List Nd) (t:ByteArray) (w:World) (hr:aT w d.a1 d.l1 d.c1 7 (xs.map ndF)):
  Calls Tryz.prog 28 #[Za #[J d.a1 d.l1 d.c1,J d.a2 d.l2 d.c2,J d.a3 d.l3 d.c3,J d.a4 d.l4 d.c4,J d.a5 d.l5 d.c5,Y4 Y5 now],I t] w (amu xs t w):=by
 have HR:=aa hr;have hxl:xs.length=d.l1:=fe
 have hlc:=Yl hr.2.1 hr.2.2.1;clear hr;go_enter Tryz.func28,Tryz.ntmps28;go_wp2;go_loopw [5] (λi wr=> ∃k:Nat,k<=d.l1/\i=Y4 Y5 k/\wr=w.alloc (Y6 #[J d.a1 d.l1 d.c1,J d.a2 d.l2 d.c2,J d.a3 d.l3 d.c3,J d.a4 d.l4 d.c4,J d.a5 d.l5 d.c5,Y4 Y5 now] 29)/\Hid (∀(j:Nat) z,j<k->xs[j]?=Y3 z->¬z.n=t)) (λi _=>d.l1 - (intOf i).toNat);case atStart=>exact⟨0,by omega,rfl,rfl,λ_ _ h=>absurd h af⟩
 case round=>
  obtain⟨k,hk,rfl,rfl,HE⟩:=hrel;by_cases hlt:k<d.l1
  ·obtain⟨b,o,x,ha,hb,hx,hat⟩:=dn HR.out hlt;obtain⟨va,vl,vc,hvr,-,-,c0,-,-,-,-,-,-⟩:=aZ hat;have HX:=aa hx;clear hat hx hvr;exact tV
  ·obtain rfl:k=d.l1:=af
   exact tO
def amv(xs:List Kd) (t:ByteArray) (w:World) (e:Ending) (w':World):Prop:=
 Below w.heap.size w w'/\((∃(j:Nat) (x:Kd),xs[j]?=Y3 x/\x.n=t/\e=Y9 (Y4 Y5 j))\/((∀(j:Nat) x,xs[j]?=Y3 x->¬x.n=t)/\e=Y9 (Y4 Y5 (-1))))
theorem iR(d:Ad) (now:Int) (xs:List Kd) (t:ByteArray) (w:World) (hr:aT w d.a2 d.l2 d.c2 4 (xs.map kdF)):
  Calls Tryz.prog 96 #[Za #[J d.a1 d.l1 d.c1,J d.a2 d.l2 d.c2,J d.a3 d.l3 d.c3,J d.a4 d.l4 d.c4,J d.a5 d.l5 d.c5,Y4 Y5 now],I t] w (amv xs t w):=by
 have HR:=aa hr;have hxl:xs.length=d.l2:=fe
 have hlc:=Yl hr.2.1 hr.2.2.1;clear hr;go_enter Tryz.func96,Tryz.ntmps96;go_wp2;go_loopw [5] (λi wr=> ∃k:Nat,k<=d.l2/\i=Y4 Y5 k/\wr=w.alloc (Y6 #[J d.a1 d.l1 d.c1,J d.a2 d.l2 d.c2,J d.a3 d.l3 d.c3,J d.a4 d.l4 d.c4,J d.a5 d.l5 d.c5,Y4 Y5 now] 29)/\Hid (∀(j:Nat) z,j<k->xs[j]?=Y3 z->¬z.n=t)) (λi _=>d.l2 - (intOf i).toNat);case atStart=>exact⟨0,by omega,rfl,rfl,λ_ _ h=>absurd h af⟩
 case round=>
  obtain⟨k,hk,rfl,rfl,HE⟩:=hrel;by_cases hlt:k<d.l2
  ·obtain⟨b,o,x,ha,hb,hx,hat⟩:=gu HR.out hlt;obtain⟨-,-,c0,-,-,-⟩:=dh hat;have HX:=aa hx;clear hat hx;exact tV
  ·obtain rfl:k=d.l2:=af
   exact tO
def ams(xs:List Vd) (t:ByteArray) (w:World) (e:Ending) (w':World):Prop:=
 Below w.heap.size w w'/\((∃(j:Nat) (x:Vd),xs[j]?=Y3 x/\x.n=t/\e=Y9 (Y4 Y5 j))\/((∀(j:Nat) x,xs[j]?=Y3 x->¬x.n=t)/\e=Y9 (Y4 Y5 (-1))))
theorem iP(d:Ad) (now:Int) (xs:List Vd) (t:ByteArray) (w:World) (hr:aT w d.a3 d.l3 d.c3 8 (xs.map vdF)):
  Calls Tryz.prog 97 #[Za #[J d.a1 d.l1 d.c1,J d.a2 d.l2 d.c2,J d.a3 d.l3 d.c3,J d.a4 d.l4 d.c4,J d.a5 d.l5 d.c5,Y4 Y5 now],I t] w (ams xs t w):=by
 have HR:=aa hr;have hxl:xs.length=d.l3:=fe
 have hlc:=Yl hr.2.1 hr.2.2.1;clear hr;go_enter Tryz.func97,Tryz.ntmps97;go_wp2;go_loopw [5] (λi wr=> ∃k:Nat,k<=d.l3/\i=Y4 Y5 k/\wr=w.alloc (Y6 #[J d.a1 d.l1 d.c1,J d.a2 d.l2 d.c2,J d.a3 d.l3 d.c3,J d.a4 d.l4 d.c4,J d.a5 d.l5 d.c5,Y4 Y5 now] 29)/\Hid (∀(j:Nat) z,j<k->xs[j]?=Y3 z->¬z.n=t)) (λi _=>d.l3 - (intOf i).toNat);case atStart=>exact⟨0,by omega,rfl,rfl,λ_ _ h=>absurd h af⟩
 case round=>
  obtain⟨k,hk,rfl,rfl,HE⟩:=hrel;by_cases hlt:k<d.l3
  ·obtain⟨b,o,x,ha,hb,hx,hat⟩:=cj HR.out hlt;obtain⟨va,vl,vc,hvr,-,-,-,-,c0,-,-,-,-,-,-,-⟩:=bh hat;have HX:=aa hx;clear hat hx hvr;exact tV
  ·obtain rfl:k=d.l3:=af
   exact tO
def amr(xs:List Xd) (t:ByteArray) (w:World) (e:Ending) (w':World):Prop:=
 Below w.heap.size w w'/\((∃(j:Nat) (x:Xd),xs[j]?=Y3 x/\x.n=t/\e=Y9 (Y4 Y5 j))\/((∀(j:Nat) x,xs[j]?=Y3 x->¬x.n=t)/\e=Y9 (Y4 Y5 (-1))))
theorem ft(d:Ad) (now:Int) (xs:List Xd) (t:ByteArray) (w:World) (hr:aT w d.a4 d.l4 d.c4 5 (xs.map xdF)):
  Calls Tryz.prog 95 #[Za #[J d.a1 d.l1 d.c1,J d.a2 d.l2 d.c2,J d.a3 d.l3 d.c3,J d.a4 d.l4 d.c4,J d.a5 d.l5 d.c5,Y4 Y5 now],I t] w (amr xs t w):=by
 have HR:=aa hr;have hxl:xs.length=d.l4:=fe
 have hlc:=Yl hr.2.1 hr.2.2.1;clear hr;go_enter Tryz.func95,Tryz.ntmps95;go_wp2;go_loopw [5] (λi wr=> ∃k:Nat,k<=d.l4/\i=Y4 Y5 k/\wr=w.alloc (Y6 #[J d.a1 d.l1 d.c1,J d.a2 d.l2 d.c2,J d.a3 d.l3 d.c3,J d.a4 d.l4 d.c4,J d.a5 d.l5 d.c5,Y4 Y5 now] 29)/\Hid (∀(j:Nat) z,j<k->xs[j]?=Y3 z->¬z.n=t)) (λi _=>d.l4 - (intOf i).toNat);case atStart=>exact⟨0,by omega,rfl,rfl,λ_ _ h=>absurd h af⟩
 case round=>
  obtain⟨k,hk,rfl,rfl,HE⟩:=hrel;by_cases hlt:k<d.l4
  ·obtain⟨b,o,x,ha,hb,hx,hat⟩:=eI HR.out hlt;obtain⟨-,-,-,c0,-,-,-,-⟩:=cn hat;have HX:=aa hx;clear hat hx;exact tV
  ·obtain rfl:k=d.l4:=af
   exact tO
theorem cN {s:ByteArray} (h:s=⟨#[]⟩):s.toList.isEmpty=Y_:=by rw[h];exact Ai
def nS(c:Cl) (t s:ByteArray):Prop:=∃(i j:Nat) (x:Xd) (v:Vd),c.xs[i]?=Y3 x/\x.n=t/\c.vs[j]?=Y3 v/\v.n=s/\x.v=s/\v.m=t/\x.z<=v.c/\v.k=x.k/\v.x=x.x
def QV(c:Cl) (v:Vd):Prop:=hit Kd.n c.ks v.k=Y_/\(v.m=⟨#[]⟩\/nS c v.m v.n)
def QX(c:Cl) (x:Xd):Prop:=hit Kd.n c.ks x.k=Y_/\(x.v=⟨#[]⟩\/nS c x.n x.v)
def xi(c:Cl):Prop:=(∀(j:Nat) v,c.vs[j]?=Y3 v->QV c v)/\(∀(j:Nat) x,c.xs[j]?=Y3 x->QX c x)
def InL(zs:List ByteArray) (t:ByteArray):Prop:=∃j:Nat,zs[j]?=Y3 t
def aY(c:Cl) (t:ByteArray) (v:Vd):Prop:=∃(i j:Nat) (x:Xd),c.xs[i]?=Y3 x/\x.n=t/\c.vs[j]?=Y3 v/\v.n=x.v
def cpuOf(t:ByteArray):List Pd->Int
 | []=>0
 | p ::ps=>(if p.d=t then p.c else 0)+cpuOf t ps
theorem jV(t:ByteArray):∀ps qs:List Pd,cpuOf t (ps++qs)=cpuOf t ps+cpuOf t qs
 | [],qs=>by simp[cpuOf]
 | p ::ps,qs=>by simp[cpuOf,jV t ps];omega
theorem f_ {t:ByteArray} {ps:List Pd} {k:Nat} {p:Pd} (h:ps[k]?=Y3 p):cpuOf t (ps.take (k+1))=cpuOf t (ps.take k)+(if p.d=t then p.c else 0):=by
 rw[YL,h,jV];simp[cpuOf]
def Au(c:Cl) (t:ByteArray):Prop:=∀(i j:Nat) p q,c.ps[i]?=Y3 p->c.ps[j]?=Y3 q->¬p.d=⟨#[]⟩->¬q.d=⟨#[]⟩->InL p.zs t->InL q.zs t->p.d=q.d
theorem aY.inj {c:Cl} {t:ByteArray} {v v':Vd} (hx:aH Xd.n c.xs) (hv:aH Vd.n c.vs) (h:aY c t v) (h':aY c t v'):v=v':=by
 obtain⟨i,j,x,e1,e2,e3,e4⟩:=h;obtain⟨i',j',x',f1,f2,f3,f4⟩:=h';obtain⟨_,rfl⟩:=hx.inj e1 f1 (e2.trans f2.symm);exact (hv.inj e3 f3 (e4.trans f4.symm)).2
def ahk(c:Cl) (p:Pd):Prop:=∃(i:Nat) (n:Nd),c.ns[i]?=Y3 n/\n.n=p.d/\(p.z=⟨#[]⟩\/p.z=n.z)/\∀(j:Nat) t,p.zs[j]?=Y3 t->∃v,aY c t v/\v.z=n.z
def alL(c:Cl) (p:Pd):Prop:=∃(i:Nat) (n:Nd),c.ns[i]?=Y3 n/\n.n=p.d/\n.d=Y8/\∀(j:Nat) t,p.zs[j]?=Y3 t->∃v,aY c t v/\InL n.zs v.n
def QI(c:Cl) (n:Nd):Prop:=∀(j:Nat) t,n.zs[j]?=Y3 t->∃(i:Nat) (v:Vd),c.vs[i]?=Y3 v/\v.n=t/\(n.d=Y_\/InL v.zs n.n)
open Classical in
noncomputable def onOf (t:ByteArray):List Vd->Int
 | []=>0
 | v ::vs=>(if InL v.zs t then 1 else 0)+onOf t vs
theorem eg(t:ByteArray):∀vs us:List Vd,onOf t (vs++us)=onOf t vs+onOf t us
 | [],us=>by simp[onOf]
 | v ::vs,us=>by simp[onOf,eg t vs];omega
open Classical in
theorem kv {t:ByteArray} {vs:List Vd} {k:Nat} {v:Vd} (h:vs[k]?=Y3 v):onOf t (vs.take (k+1))=onOf t (vs.take k)+(if InL v.zs t then 1 else 0):=by
 rw[YL,h,eg];simp[onOf]
def PQ1(c:Cl) (p:Pd):Prop:=(∀(j:Nat) t,p.zs[j]?=Y3 t->hit Xd.n c.xs t=Y_)/\(p.d=⟨#[]⟩\/ahk c p)
def PQ2(c:Cl) (n:Nd):Prop:=cpuOf n.n c.ps<=n.c
def PQ3(c:Cl) (v:Vd):Prop:=v.x=Y_->¬v.m=⟨#[]⟩->Au c v.m
def qv(c:Cl):Prop:=(∀(j:Nat) z,c.ps[j]?=Y3 z->PQ1 c z)/\(∀(j:Nat) z,c.ns[j]?=Y3 z->PQ2 c z)/\(∀(j:Nat) z,c.vs[j]?=Y3 z->PQ3 c z)
def AQ1(c:Cl) (v:Vd):Prop:=∀(j:Nat) t,v.zs[j]?=Y3 t->∃(i:Nat) (n:Nd),c.ns[i]?=Y3 n/\n.n=t/\n.z=v.z
def AQ2(c:Cl) (n:Nd):Prop:=onOf n.n c.vs<=n.s
def oU(c:Cl):Prop:=(∀(j:Nat) z,c.vs[j]?=Y3 z->AQ1 c z)/\(∀(j:Nat) z,c.ns[j]?=Y3 z->AQ2 c z)
def MQ2(c:Cl) (p:Pd):Prop:=p.p=2->alL c p
def nF(c:Cl):Prop:=(∀(j:Nat) z,c.ns[j]?=Y3 z->QI c z)/\(∀(j:Nat) z,c.ps[j]?=Y3 z->MQ2 c z)
def cM(c:Cl):Prop:=eT vV Nd.n c.ns 6/\eT wk Kd.n c.ks 8/\eT qJ Vd.n c.vs 8/\eT gB Xd.n c.xs 8/\eT uf Pd.n c.ps 8
def av(c:Cl):Prop:=Inn c.now 0 1000000/\cM c/\xi c/\qv c/\oU c/\nF c
theorem cM.ne {c:Cl} (h:cM c) (j:Nat) (v:Vd) (hv:c.vs[j]?=Y3 v):¬v.n=⟨#[]⟩:=λe=>by
 have h1:=(h.2.2.1.2.1 j v hv).1.1;rw[e] at h1;exact absurd h1 ag
theorem cM.cpu {c:Cl} (h:cM c) (j:Nat) (p:Pd) (hp:c.ps[j]?=Y3 p):0<=p.c/\p.c<=1000000:=(h.2.2.2.2.2.1 j p hp).2.1
theorem bW(a:Option Addr) (len cap:Nat) (zs:List ByteArray) (t:ByteArray) (w:World) (hr:ay w a len cap zs):
  Calls Tryz.prog 102 #[J a len cap,I t] w (ar (InL zs t) w):=by
 have HR:=aa hr;have hlc:=Yl hr.2.1 hr.2.2.1;have hzl:=hr.1;clear hr;go_enter Tryz.func102,Tryz.ntmps102;go_wp2;go_loop [5] (λi=> ∃k:Nat,k<=len/\i=Y4 Y5 k/\Hid (∀(j:Nat) x,j<k->zs[j]?=Y3 x->¬x=t)) (λi=>len - (intOf i).toNat);case atStart=>exact⟨0,by omega,rfl,λ_ _ h=>absurd h af⟩
 case round=>
  obtain⟨k,hk,rfl,HE⟩:=hrel;by_cases hlt:k<len
  ·obtain⟨b,o,x,rfl,hb,hx,hc,hsz⟩:=HR.at hlt;have HX:=aa hx;clear hx;by_cases hn:x=t
   ·have hq:=aP hn;have HN:=aa hn;clear hn;go_wp2;go_ret;exact ar.t ⟨k,by rw[HX.out,HN.out]⟩ (Yh _ _)
   ·have hq:=bA hn;have HN:=aa hn;clear hn;go_wp2;refine⟨⟨k+1,by omega,by go_num,λj z hj hz=>?_⟩,by simp[intOf];omega⟩;exact N8
  ·obtain rfl:len=k:=af
   go_wp2;go_ret;exact ar.f (λ⟨j,hj⟩=>HE.out j t tF hj rfl) (Yh _ _)
theorem fu(d:Ad) (now:Int) (xs:List Nd) (t:ByteArray) (w:World) (hr:aT w d.a1 d.l1 d.c1 7 (xs.map ndF)) (hs:aH Nd.n xs) {j:Nat} {x:Nd} (hx:xs[j]?=Y3 x) (hn:x.n=t):
  Calls Tryz.prog 28 #[Za #[J d.a1 d.l1 d.c1,J d.a2 d.l2 d.c2,J d.a3 d.l3 d.c3,J d.a4 d.l4 d.c4,J d.a5 d.l5 d.c5,Y4 Y5 now],I t] w λe w'=>e=Y9 (Y4 Y5 j)/\Below w.heap.size w w':=by
 refine (iQ d now xs t w hr).mono ?_;exact tQ
theorem AF(d:Ad) (now:Int) (xs:List Nd) (t:ByteArray) (w:World) (hr:aT w d.a1 d.l1 d.c1 7 (xs.map ndF)) (hn:∀(j:Nat) x,xs[j]?=Y3 x->¬x.n=t):
  Calls Tryz.prog 28 #[Za #[J d.a1 d.l1 d.c1,J d.a2 d.l2 d.c2,J d.a3 d.l3 d.c3,J d.a4 d.l4 d.c4,J d.a5 d.l5 d.c5,Y4 Y5 now],I t] w λe w'=>e=Y9 (Y4 Y5 (-1))/\Below w.heap.size w w':=by
 refine (iQ d now xs t w hr).mono ?_;exact tN
theorem dF(d:Ad) (now:Int) (xs:List Kd) (t:ByteArray) (w:World) (hr:aT w d.a2 d.l2 d.c2 4 (xs.map kdF)) (hs:aH Kd.n xs) {j:Nat} {x:Kd} (hx:xs[j]?=Y3 x) (hn:x.n=t):
  Calls Tryz.prog 96 #[Za #[J d.a1 d.l1 d.c1,J d.a2 d.l2 d.c2,J d.a3 d.l3 d.c3,J d.a4 d.l4 d.c4,J d.a5 d.l5 d.c5,Y4 Y5 now],I t] w λe w'=>e=Y9 (Y4 Y5 j)/\Below w.heap.size w w':=by
 refine (iR d now xs t w hr).mono ?_;exact tQ
theorem nW(d:Ad) (now:Int) (xs:List Kd) (t:ByteArray) (w:World) (hr:aT w d.a2 d.l2 d.c2 4 (xs.map kdF)) (hn:∀(j:Nat) x,xs[j]?=Y3 x->¬x.n=t):
  Calls Tryz.prog 96 #[Za #[J d.a1 d.l1 d.c1,J d.a2 d.l2 d.c2,J d.a3 d.l3 d.c3,J d.a4 d.l4 d.c4,J d.a5 d.l5 d.c5,Y4 Y5 now],I t] w λe w'=>e=Y9 (Y4 Y5 (-1))/\Below w.heap.size w w':=by
 refine (iR d now xs t w hr).mono ?_;exact tN
theorem ed(d:Ad) (now:Int) (xs:List Vd) (t:ByteArray) (w:World) (hr:aT w d.a3 d.l3 d.c3 8 (xs.map vdF)) (hs:aH Vd.n xs) {j:Nat} {x:Vd} (hx:xs[j]?=Y3 x) (hn:x.n=t):
  Calls Tryz.prog 97 #[Za #[J d.a1 d.l1 d.c1,J d.a2 d.l2 d.c2,J d.a3 d.l3 d.c3,J d.a4 d.l4 d.c4,J d.a5 d.l5 d.c5,Y4 Y5 now],I t] w λe w'=>e=Y9 (Y4 Y5 j)/\Below w.heap.size w w':=by
 refine (iP d now xs t w hr).mono ?_;exact tQ
theorem g_(d:Ad) (now:Int) (xs:List Vd) (t:ByteArray) (w:World) (hr:aT w d.a3 d.l3 d.c3 8 (xs.map vdF)) (hn:∀(j:Nat) x,xs[j]?=Y3 x->¬x.n=t):
  Calls Tryz.prog 97 #[Za #[J d.a1 d.l1 d.c1,J d.a2 d.l2 d.c2,J d.a3 d.l3 d.c3,J d.a4 d.l4 d.c4,J d.a5 d.l5 d.c5,Y4 Y5 now],I t] w λe w'=>e=Y9 (Y4 Y5 (-1))/\Below w.heap.size w w':=by
 refine (iP d now xs t w hr).mono ?_;exact tN
theorem eJ(d:Ad) (now:Int) (xs:List Xd) (t:ByteArray) (w:World) (hr:aT w d.a4 d.l4 d.c4 5 (xs.map xdF)) (hs:aH Xd.n xs) {j:Nat} {x:Xd} (hx:xs[j]?=Y3 x) (hn:x.n=t):
  Calls Tryz.prog 95 #[Za #[J d.a1 d.l1 d.c1,J d.a2 d.l2 d.c2,J d.a3 d.l3 d.c3,J d.a4 d.l4 d.c4,J d.a5 d.l5 d.c5,Y4 Y5 now],I t] w λe w'=>e=Y9 (Y4 Y5 j)/\Below w.heap.size w w':=by
 refine (ft d now xs t w hr).mono ?_;exact tQ
theorem eG(d:Ad) (now:Int) (xs:List Xd) (t:ByteArray) (w:World) (hr:aT w d.a4 d.l4 d.c4 5 (xs.map xdF)) (hn:∀(j:Nat) x,xs[j]?=Y3 x->¬x.n=t):
  Calls Tryz.prog 95 #[Za #[J d.a1 d.l1 d.c1,J d.a2 d.l2 d.c2,J d.a3 d.l3 d.c3,J d.a4 d.l4 d.c4,J d.a5 d.l5 d.c5,Y4 Y5 now],I t] w λe w'=>e=Y9 (Y4 Y5 (-1))/\Below w.heap.size w w':=by
 refine (ft d now xs t w hr).mono ?_;exact tN
def alI(c:Cl) (t:ByteArray) (w:World) (e:Ending) (w':World):Prop:=
 Below w.heap.size w w'/\((∃(j:Nat) (v:Vd),c.vs[j]?=Y3 v/\aY c t v/\e=Y9 (Y4 Y5 j))\/((∀v,¬aY c t v)/\e=Y9 (Y4 Y5 (-1))))
theorem kb(d:Ad) (c:Cl) (t:ByteArray) (w:World) (hr:aB w d c.raw) (hx:aH Xd.n c.xs) (hv:aH Vd.n c.vs) (hne:∀(j:Nat) v,c.vs[j]?=Y3 v->¬v.n=⟨#[]⟩):
  Calls Tryz.prog 98 #[Za #[J d.a1 d.l1 d.c1,J d.a2 d.l2 d.c2,J d.a3 d.l3 d.c3,J d.a4 d.l4 d.c4,J d.a5 d.l5 d.c5,Y4 Y5 c.now],I t] w (alI c t w):=by
 have z519z:=@aa _ @XN;exact cK
theorem fv(d:Ad) (c:Cl) (t:ByteArray) (w:World) (hr:aB w d c.raw) (hx:aH Xd.n c.xs) (hv:aH Vd.n c.vs) (hne:∀(j:Nat) v,c.vs[j]?=Y3 v->¬v.n=⟨#[]⟩) {j:Nat} {v:Vd} (hj:c.vs[j]?=Y3 v) (hb:aY c t v):
  Calls Tryz.prog 98 #[Za #[J d.a1 d.l1 d.c1,J d.a2 d.l2 d.c2,J d.a3 d.l3 d.c3,J d.a4 d.l4 d.c4,J d.a5 d.l5 d.c5,Y4 Y5 c.now],I t] w λe w'=>e=Y9 (Y4 Y5 j)/\Below w.heap.size w w':=by
 refine (kb d c t w hr hx hv hne).mono ?_;rintro e w' ⟨hw,h⟩;rcases h with ⟨i,u,h1,h2,rfl⟩|⟨h1,rfl⟩
 ·obtain rfl:=aY.inj hx hv h2 hb;obtain⟨rfl,_⟩:=hv.inj h1 hj rfl;exact⟨rfl,hw⟩
 ·exact absurd hb (h1 v)
theorem fL(d:Ad) (c:Cl) (t:ByteArray) (w:World) (hr:aB w d c.raw) (hx:aH Xd.n c.xs) (hv:aH Vd.n c.vs) (hne:∀(j:Nat) v,c.vs[j]?=Y3 v->¬v.n=⟨#[]⟩) (hb:∀v,¬aY c t v):
  Calls Tryz.prog 98 #[Za #[J d.a1 d.l1 d.c1,J d.a2 d.l2 d.c2,J d.a3 d.l3 d.c3,J d.a4 d.l4 d.c4,J d.a5 d.l5 d.c5,Y4 Y5 c.now],I t] w λe w'=>e=Y9 (Y4 Y5 (-1))/\Below w.heap.size w w':=by
 refine (kb d c t w hr hx hv hne).mono ?_;rintro e w' ⟨hw,h⟩;rcases h with ⟨i,u,h1,h2,rfl⟩|⟨h1,rfl⟩
 ·exact absurd h2 (hb u)
 ·exact⟨rfl,hw⟩
theorem aY.at {c:Cl} {t:ByteArray} {v:Vd} (h:aY c t v):∃j:Nat,c.vs[j]?=Y3 v:=by
 obtain⟨_,j,_,_,_,h,_⟩:=h;exact⟨j,h⟩
theorem j7(d:Ad) (now:Int) (ps:List Pd) (t:ByteArray) (w:World) (hr:aT w d.a5 d.l5 d.c5 6 (ps.map pdF)) (hl:ps.length<=8) (hp:∀(j:Nat) p,ps[j]?=Y3 p->0<=p.c/\p.c<=1000000):
  Calls Tryz.prog 100 #[Za #[J d.a1 d.l1 d.c1,J d.a2 d.l2 d.c2,J d.a3 d.l3 d.c3,J d.a4 d.l4 d.c4,J d.a5 d.l5 d.c5,Y4 Y5 now],I t] w λe w'=>e=Y9 (Y4 Y5 (cpuOf t ps))/\Below w.heap.size w w':=by
 have z421z:=@aa _ @aa7;exact yU
theorem xt(d:Ad) (now:Int) (vs:List Vd) (t:ByteArray) (w:World) (hr:aT w d.a3 d.l3 d.c3 8 (vs.map vdF)) (hl:vs.length<=8):
  Calls Tryz.prog 101 #[Za #[J d.a1 d.l1 d.c1,J d.a2 d.l2 d.c2,J d.a3 d.l3 d.c3,J d.a4 d.l4 d.c4,J d.a5 d.l5 d.c5,Y4 Y5 now],I t] w λe w'=>e=Y9 (Y4 Y5 (onOf t vs))/\Below w.heap.size w w':=by
 obtain⟨a1,l1,y1,a2,l2,y2,a3,l3,y3,a4,l4,y4,a5,l5,y5⟩:=d;dsimp only at hr ⊢;have HR:=aa hr;have hxl:vs.length=l3:=fe
 clear hr;go_enter Tryz.func101,Tryz.ntmps101;go_wp2;go_loopw [5,6] (λq i wr=> ∃(k:Nat) (s:Int),k<=l3/\q=Y4 Y5 s/\i=Y4 Y5 k/\Hid (s=onOf t (vs.take k))/\0<=s/\s<=k/\Hid (Below w.heap.size w wr)/\Hid (wr.heap[w.heap.size]?=Y3 (Y6 (clo6 a1 l1 y1 a2 l2 y2 a3 l3 y3 a4 l4 y4 a5 l5 y5 now) 29 (0,0)))) (λ_ i _=>l3 - (intOf i).toNat);case atStart=>exact⟨0,0,by omega,rfl,rfl,rfl,by omega,by omega,ak _ _,Yg⟩
 case round=>
  obtain⟨k,s,hk,rfl,rfl,HS,hs0,hs1,HB,Bk⟩:=hrel;have kk:=ck2 Bk;by_cases hlt:k<l3
  ·obtain⟨b,o,v,rfl,hb,hx,hat⟩:=cj (HR.below HB.out) hlt;have z278z:=@aa _ @acP;exact fS
  ·obtain rfl:l3=k:=af
   exact vQ
def oT(c:Cl) (p q:Pd):Prop:=p.d=⟨#[]⟩\/q.d=⟨#[]⟩\/p.d=q.d\/∀(j:Nat) t,p.zs[j]?=Y3 t->∀v,aY c t v->v.x=Y_->¬InL q.zs t
theorem hJ(d:Ad) (c:Cl) (p q:Pd) (pa:Option Addr) (pl pc:Nat) (qa:Option Addr) (ql qc:Nat) (w:World) (hr:aB w d c.raw) (hx:aH Xd.n c.xs) (hv:aH Vd.n c.vs) (hne:∀(j:Nat) v,c.vs[j]?=Y3 v->¬v.n=⟨#[]⟩) (hp:ay w pa pl pc p.zs) (hq:ay w qa ql qc q.zs):
  Calls Tryz.prog 99 #[Za #[J d.a1 d.l1 d.c1,J d.a2 d.l2 d.c2,J d.a3 d.l3 d.c3,J d.a4 d.l4 d.c4,J d.a5 d.l5 d.c5,Y4 Y5 c.now],Za #[I p.n,Y4 Y5 p.c,I p.z,J pa pl pc,I p.d,Y4 Y5 p.p],Za #[I q.n,Y4 Y5 q.c,I q.z,J qa ql qc,I q.d,Y4 Y5 q.p]] w (ar (oT c p q) w):=by
 have z519z:=@aa _ @XM;exact cK
theorem AO(d:Ad) (c:Cl) (w:World) (hr:aB w d c.raw):
  Calls Tryz.prog 50 #[Za #[J d.a1 d.l1 d.c1,J d.a2 d.l2 d.c2,J d.a3 d.l3 d.c3,J d.a4 d.l4 d.c4,J d.a5 d.l5 d.c5,Y4 Y5 c.now]] w (ar (cM c) w):=by
 have z445z:=@aa _ @aaR;exact cf
def af0(c:Cl) (t:ByteArray):Prop:=∃(i:Nat) (k:Kd),c.ks[i]?=Y3 k/\k.n=t
def SV(c:Cl) (v:Vd):Prop:=af0 c v.k/\(v.m=⟨#[]⟩\/∃(i:Nat) (x:Xd),c.xs[i]?=Y3 x/\x.n=v.m/\x.v=v.n)
def SX(c:Cl) (x:Xd):Prop:=af0 c x.k/\(x.v=⟨#[]⟩\/∃(j:Nat) (v:Vd),c.vs[j]?=Y3 v/\v.n=x.v/\v.m=x.n/\x.z<=v.c/\v.k=x.k/\v.x=x.x)
def xh(c:Cl):Prop:=(∀(j:Nat) z,c.vs[j]?=Y3 z->SV c z)/\(∀(j:Nat) z,c.xs[j]?=Y3 z->SX c z)
theorem uU(d:Ad) (c:Cl) (w:World) (hr:aB w d c.raw) (hks:aH Kd.n c.ks) (hxs:aH Xd.n c.xs) (hvs:aH Vd.n c.vs):
  Calls Tryz.prog 51 #[Za #[J d.a1 d.l1 d.c1,J d.a2 d.l2 d.c2,J d.a3 d.l3 d.c3,J d.a4 d.l4 d.c4,J d.a5 d.l5 d.c5,Y4 Y5 c.now]] w (ar (xh c) w):=by
 have z445z:=@aa _ @aaQ;exact cf
end Rc
end Go.Proofs.YtiplhgedmjoliaaGreatDoor
