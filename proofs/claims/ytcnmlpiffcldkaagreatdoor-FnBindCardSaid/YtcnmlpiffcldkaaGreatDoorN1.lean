import Derived.Test.YtcnmlpiffcldkaaGreatDoorRows
import Derived.WalkKit
import Derived.WalkSpells
import Derived.OwnWalk
import Derived.Outline
import Derived.Laws.Cover1
import Derived.Lib.BufferWrite
import Derived.Laws.CopyOwn
import Derived.Deep.QuietTactic
import Derived.BigQuiet
import Derived.WalkSmall
import Derived.Laws.IdiomStrings
import Derived.Laws.AppendOwn
import Derived.Laws.AppendOwnNone
import Derived.Deep.AppendLies
import Derived.LaidEql
import Derived.Stop.Asserts
import Derived.RowKitTokens
import Derived.RegionTactic
import Derived.Lib.Overlaps
import Derived.Lib.SliceRun
import Derived.Lib.AppendZerosOnto
import Derived.Deep.RegionLaw
import Derived.Shelf.RegionOpenPlain
import Derived.Maps.OwnSet
import Derived.DeepKeys4
import Derived.WideKeyEntry
import Derived.OpenShut
import Derived.Lib.Bytealg
import Derived.Deep.RegionWith
import Derived.RangeFuncNested
import Derived.RangeFuncBound
import Derived.RangeFuncCalls
import Derived.RangeFuncLeaves
import Derived.Shelf.Abstract
import Derived.Shelf.RegionOpen
import Derived.OwnWalkIn
import Derived.TacticsInMore
import Derived.LoopNIn
import Derived.LoopIn
import Derived.ScopeJumps
import Derived.WalkMore
import Derived.Deep.CutRange
import Derived.Laws.StructEq
import Derived.BigRegion
import Derived.ChangeAlike
import Derived.Laws.Rows
import Derived.Lib.VarintMem
import Derived.Lib.Hide
import Derived.Lib.Slices
import Derived.Deep.Cut
import Derived.Stop.LaidErr
import Derived.ChangeVars
/-
 What NameRight of the program and of the specification answer: yes just where a text is a name: 1 to 20 bytes, the first a lower letter, the others lower letters, digits or '_'; at every text.
-/
set_option maxRecDepth 100000
set_option maxHeartbeats 12800000
open Bool renaming false→Zg,true→Zi
open Go.Ending renaming returned→Zh
open Go.IntKind renaming i64→O
open Go.Obj renaming cells→Ze
open Go.Value renaming string→I,slice→U,int→V,bool→Zf,agg→Zj,pointer→Zm,tuple→Zn
open Option renaming none→J,some→M
open Or renaming inr→Zk,inl→Zl
open And renaming intro→Yb
open Array renaming getElem?_push_size→Yf, getD_eq_getD_getElem?→Ys, getElem?_eq_some_iff→YA, getElem?_setIfInBounds→YH
open Bool renaming and_eq_true→YI
open Go.Act renaming put→Y0
open Go.Addr renaming add_lit→Ym
open Go.Builtin renaming append_→YY
open Go.Calls renaming quiet_of_same→YD
open Go.Lib renaming toList_data→Za
open Go.Op renaming bytesLess→Yk
open Go.Region renaming wanted→YR, ready→YU, binds→YW
open Go.RowKit.Below renaming heap_setCell→Ya, refl→Yh, heap_alloc→Yj
open Go.Value renaming string→Yn, ownBlock→YK
open Go.World renaming setCell→YV, cell?→YX
open List renaming getElem?_eq_some_iff→Yc, lookup→Yg, getElem?_eq_getElem→Yi, length_map→Yq, setIfInBounds_toArray→Yr, getElem?_map→Yt, getElem?_append_left→Yu, mem_of_getElem?→Yv, drop_eq_nil_of_le→Yw, set_cons_zero→Yx, set_cons_succ→Yy, take_of_length_le→YB, getElem?_take→YC, length_take→YF, getElem?_of_mem→YG, forall_mem_cons→YL, take_add_one→YM, getElem?_drop→YN, eq_nil_of_length_eq_zero→YO, length_append→YP, foldr→YQ, mem_cons→YT, range→Y3, getElem?_set→Y9
open Nat renaming le_refl→Ye, lt_of_lt_of_le→Yl, le_trans→Yo, zero_add→Yp, le_succ→Yz, zero_le→YJ
open Option renaming map_eq_some_iff→YE
open Option.some renaming inj→Yd, injEq→YZ
open UInt8 renaming lt_iff_toNat_lt→Y7
namespace Go.Proofs.YtcnmlpiffcldkaaGreatDoor
variable {p:Prop}
namespace Mk
end Mk
open Go.RowKit Mk
variable {α:Type} {H:Nat->Nat->Nat} {P:Program} {Q:Exit->Act->World->Prop} {S S':Nat->Prop} {T:TypeId} {W w' w1:World} {a:Option Addr} {a0:Act} {back:Option Oper} {base cap g h i id o:Nat} {cur:Array Value} {e:Ending} {front l rest:List Oper} {ops:Array Oper} {r:List Value} {v0 v1 v2 v3 v4 v5 v6:Value} {vss:List (List Value)}
theorem af(h:p:=by omega):p:=h
theorem ag(h:p:=by decide):p:=h
theorem dO(h:p:=by have:=(Yc.1 hz).1;omega):p:=h
theorem bU(h:p:=by first|trivial|rfl):p:=h
theorem aW(h:p:=by kernel_rfl):p:=h
theorem aF(h:p:=by simp):p:=h
theorem bg(h:p:=by simp;omega):p:=h
theorem bJ(h:p:=by cases h):p:=h
theorem ef(h:p:=by simpa using hr.1):p:=h
theorem AR(h:p:=by rw[YC,if_pos hij];exact Yi _):p:=h
theorem uT(h:p:=by have:=(Yc.1 hj).1;omega):p:=h
theorem uS(h:p:=by rw[Nat.sub_add_cancel hk0];exact HXx.out):p:=h
theorem AN(h:p:=by have:=(Yc.1 ht).1;omega):p:=h
theorem AM(h:p:=by rw[YC,if_pos hij];exact hp):p:=h
theorem j_(h:p:=by simpa using h):p:=h
theorem OI(h:p:=by simpa using (show (c.vs.map vdF).length=l3 from hr.v.1)):p:=h
theorem OH(h:p:=by simpa using (show (c.ks.map kdF).length=l2 from hr.k.1)):p:=h
theorem OG(h:p:=by simpa using (show (c.ps.map pdF).length=l5 from hr.p.1)):p:=h
theorem vp(h:p:=by
 have HB:=ZW;have Bk:=Ck;clear ek;go_wp2_with fail;refine⟨⟨k+1,by omega,by go_num,λj z hj hz=>?_,λj z y hj hz hy=>?_,HB.out,Bk.out⟩,by simp[intOf];omega⟩
 ·exact Pw
 ·by_cases e:j+1=k
  ·have hj:j=k - 1:=af
   subst hj;rw[Nat.sub_add_cancel hk0,HXx.out] at hz;obtain rfl:=Yd hz;rw[HXy.out] at hy;obtain rfl:=Yd hy;exact Zz
  ·exact HO.out j z y af hz hy):p:=h
theorem vn(h:p:=by
 by_cases hn:x.n=t
 ·have hq:=aP hn;have HN:=G hn;clear hn;go_wp2;go_ret;exact⟨aj _ _,Zl ⟨k,x,HX.out,HN.out,rfl⟩⟩
 ·have hq:=bu hn;have HN:=G hn;clear hn;go_wp2;refine⟨⟨k+1,by omega,by go_num,by rw[ha],λj z hj hz=>?_⟩,by simp[intOf];omega⟩;exact Pv):p:=h
theorem vm(h:p:=by
 have HB:=ZW;have Bk:=Ck;clear hd;go_wp2_with fail;refine⟨⟨k+1,by omega,by go_num,λj z hj hz=>?_,λj z y hj hz hy=>?_,HB.out,Bk.out⟩,by simp[intOf];omega⟩
 ·exact Pw
 ·by_cases e:j+1=k
  ·exact absurd hk0 af
  ·exact HO.out j z y af hz hy):p:=h
theorem aiC(h:p:=by
 have aoU:=@G _ @acP;exact gw):p:=h
theorem aiz(h:p:=by
 have aoU:=@G _ @acO;exact gw):p:=h
theorem amE(h:p:=by
 have aoU:=@G _ @acN;exact gw):p:=h
theorem aiy(h:p:=by
 have e:aL a0 (knAll [] front φs) (λt=>a.tmps.getD t undef)=a:=by
  refine ahe ((dU _ _ _).trans h.size.symm) ((dV _ _ _).trans h.defers.symm) (λt=>ke a0 a _ (λp hp=>?_) t (λhn=>?_))
  ·rcases eo front φs [] hp with ⟨i,o,h1,h2,h3⟩|h1
   ·exact Z6 o (Yv h1) _ h2
   ·simp at h1
  ·refine h.other t (λi o ho hd=>?_);exfalso;have hi:=(Yc.1 ho).1;have hφ:φs[i]?=M (φs[i]'(by omega)):=Yi _;cases hk:(knAll [] front φs).lookup t with
   | none=>exact (df front φs [] hk).2 i o _ ho hφ hd
   | some φ=>
    have:∃p∈knAll [] front φs,p.1=t:=by
     revert hk
     generalize knAll [] front φs=l
     intro hk
     induction l with
     | nil=>simp at hk
     | cons p l ih=>
      rw[List.lookup_cons] at hk
      cases hb:t==p.1 with
      | true=>exact⟨p,by simp,(by simpa using hb:t=p.1).symm⟩
      | false=>
       rw[hb] at hk;obtain⟨q,hq,he⟩:=ih hk;exact⟨q,by simp[hq],he⟩
    obtain⟨p,hp,he⟩:=this;exact hn p hp he
 rw[e] at h1;exact h1):p:=h
theorem amB(h:p:=by
 have aoU:=@G _ @acM;exact gw):p:=h
theorem Pe(h:p:=by
 obtain⟨φ,hφ,ho,hr⟩:=h;obtain⟨φs,hl,hs,hf⟩:=Grow.spec l _ hr;refine⟨φ ::φs,by simp[hl],?_,hf⟩;intro i o' φ' h1 h2;cases i with
 | zero=>
  simp only[List.getElem?_cons_zero,YZ] at h1 h2;subst h1;subst h2;exact⟨hφ,ho⟩
 | succ i=>
  simp only[List.getElem?_cons_succ] at h1 h2
  simpa[knAll] using hs i o' φ' h1 h2):p:=h
theorem pe(h:p:=by
 obtain⟨b,o,r,h1,h2,h3,h4⟩:=h.at hj;rw[Yt] at h3;obtain⟨x,h5,rfl⟩:=YE.1 h3;exact⟨b,o,x,h1,h2,h5,h4⟩):p:=h
theorem vf(h:p:=by
 rintro e w' ⟨hb,h⟩;rcases h with ⟨i,y,h1,h2,rfl⟩|⟨h1,rfl⟩
 ·obtain⟨rfl,_⟩:=hs.inj h1 hx (h2.trans hn.symm);exact⟨rfl,hb⟩
 ·exact absurd hn (h1 j x hx)):p:=h
theorem amz(h:p:=by
 have aoU:=@G _ @acL;exact gw):p:=h
theorem aip(h:p:=by
 intro j o ho t ht i p hp hd;have aum:=@G _ @ac1;exact Aa):p:=h
theorem aim(h:p:=by
 induction known with
 | nil=>exact (h (λp hp=>by simp at hp)).symm
 | cons p l ih=>
  have e:aL a0 (p ::l) (λt=>a.tmps.getD t undef)=(aL a0 l (λt=>a.tmps.getD t undef)).put (M p.1) (a.tmps.getD p.1 undef):=rfl;rw[e,kt,dU]
  by_cases hp:p.1=t
  ·subst hp;rw[if_pos ⟨rfl,hk p aF⟩]
  ·rw[if_neg (λh=>hp h.1)]
   exact ih (λq hq=>hk q (by simp[hq])) (λhn=>h (λq hq=>by
    rcases YT.1 hq with rfl|hq
    ·exact hp
    ·exact hn q hq))):p:=h
theorem vd(h:p:=by
 go_wp2;go_ret;exact⟨aj _ _,Zk ⟨λj z hz=>HE.out j z dO hz,rfl⟩⟩):p:=h
theorem aik(h:p:=by
 intro t ht;have ZE:o.dst≠M t:=λhd=>by
  have:=ht j o ho hd;simp[Ys,hj] at this
 have h1:=h.other t (λi p hp hd=>by
  have h2:=ht i p hp hd
  have e:¬j=i:=λe=>by subst e;exact ZE (by rw[Yd (ho.symm.trans hp)];exact hd)
  simpa[Ys,YH,e] using h2)
 exact Px):p:=h
theorem u_(h:p:=by
 rintro e w' ⟨hb,h⟩;rcases h with ⟨i,y,h1,h2,rfl⟩|⟨h1,rfl⟩
 ·exact absurd h2 (hn i y h1)
 ·exact⟨rfl,hb⟩):p:=h
theorem aib(h:p:=by
 obtain⟨h1,h2⟩:=df l φs (kn o.dst ψ known) h;rw[kX] at h1;by_cases hd:o.dst=M t
 ·rw[if_pos hd] at h1;cases h1
 ·rw[if_neg hd] at h1;refine⟨h1,λi o' φ h3 h4=>?_⟩;cases i with
  | zero=>simp only[List.getElem?_cons_zero,YZ] at h3;subst h3;exact hd
  | succ i=>exact h2 i o' φ (by simpa using h3) (by simpa using h4)):p:=h
theorem AZ(h:p:=by
 go_wp2;go_round;case rel=>exact⟨k+1,by omega,by go_num,po Zo HB.out HA.out⟩
 case measure=>simp[intOf];omega):p:=h
theorem ah8(h:p:=by
 rcases eo l φs (kn o.dst ψ known) h with ⟨i,o',h1,h2,h3⟩|h
 ·exact Zl ⟨i+1,o',by simpa using h1,h2,by simpa using h3⟩
 ·cases hd:o.dst with
  | none=>rw[hd] at h;exact Zk h
  | some d=>
   rw[hd] at h;simp only[kn,YT] at h
   rcases h with rfl|h
   ·exact Zl ⟨0,o,rfl,hd,rfl⟩
   ·exact Zk h):p:=h
theorem Rj(h:p:=by
 rcases de l φs (kn o.dst ψ known) h with ⟨i,o',h1,h2,h3⟩|h
 ·exact Zl ⟨i+1,o',by simpa using h1,h2,by simpa using h3⟩
 ·rw[kX] at h;by_cases hd:o.dst=M t
  ·rw[if_pos hd] at h;exact Zl ⟨0,o,rfl,hd,by simpa using h⟩
  ·rw[if_neg hd] at h;exact Zk h):p:=h
theorem qS(h:p:=by
 have:=List.count_le_length (a:=Zg) (l:=(Array.replicate l.toArray.size Zg).toList);simp at this ⊢):p:=h
theorem Rf(h:p:=by
 intro j o ho e he;have hj:j<(front++back.toList).toArray.size:=(YA.1 ho).1;have:=List.all_eq_true.1 h4 j (List.mem_range.2 hj);rw[ho] at this;have:=Array.all_eq_true.1 this;obtain⟨k,hk,rfl⟩:=Array.mem_iff_getElem.1 he;simpa using this k hk):p:=h
theorem xB(h:p:=by
 go_wp2;go_ret;exact⟨congrArg (λz=>Ending.returned (V O z)) (HS.trans (by rw[YB af])),HB.out⟩):p:=h
theorem xA(h:p:=by
 cases hk:back with
 | none=>rw[hk] at h1;exact h1
 | some o=>
  have h2:=hb o hk;rw[ZL _ (by rw[Zq,hk];simp)] at h2
  cases h2):p:=h
theorem xw(h:p:=by
 go_wp2_with (go_at_call 104;refine (mh _ _ _ _).mono ?_;rintro e w1 ⟨r,rfl,hr,rfl⟩);go_ret;exact⟨r,rfl,hr,rfl⟩):p:=h
theorem Q7(h:p:=by
 rw[Yp,al hg];have hj:j<n:=by have:=(Yc.1 hx).1;omega
 have e1:(cur.toList.take (n*1))[j]?=M (I x):=by rw[htk];simp[hx]
 rw[YC,if_pos af] at e1;simpa using e1):p:=h
theorem nR(h:p:=by
 obtain⟨q,h1,h2⟩:=apf 0 _ rfl;obtain⟨rfl,-⟩:=h2;exact h1):p:=h
theorem Q1(h:p:=by
 by_cases h:∃v,aX c t v
 ·exact Zl h
 ·exact Zk (λv hv=>h ⟨v,hv⟩)):p:=h
theorem QW(h:p:=by
 cases d with
 | none=>simp[kn]
 | some d=>
  simp only[kn,YZ,List.lookup_cons]
  by_cases h:d=t
  ·subst h;simp
  ·rw[if_neg h]
   have:(t==d)=Zg:=by simpa using λe=>h e.symm
   rw[this]):p:=h
theorem QP(h:p:=by
 obtain⟨h1,h2,h3,h5⟩:=h;refine⟨h1,h2,h3,?_⟩;rcases h5 with h5|⟨b,o,rfl,Zo,hc⟩
 ·exact Or.inl h5
 ·exact Or.inr ⟨b,o,rfl,Yl Zo hb.size,λj v hv=>(hc j v hv).below Zo hb⟩):p:=h
theorem ak5(h:p:=by
 have HN:=G (λh=>hq (hr.2 h));clear hsl hb ZN hr;go_wp2_with fail;go_ret;exact⟨Zg,rfl,⟨λh=>bJ,λh=>(HN.out (eY h.2.2.2.2.2.2)).elim⟩,HB.out⟩):p:=h
theorem qP(h:p:=by
 go_wp2;go_ret;exact⟨Zg,rfl,by unfold aN;simp;omega,rfl⟩):p:=h
theorem qO(h:p:=by
 go_wp2;go_ret;exact ar.t ⟨HQ1.out,ν.out⟩ HB.out):p:=h
theorem xj(h:p:=by
 obtain⟨l',rfl⟩:=List.getLast?_eq_some_iff.1 hb;rw[<-hf];simp):p:=h
theorem Qm(h:p:=by
 go_wp2;go_ret;refine⟨Zi,rfl,?_,rfl⟩;simp only[true_iff];exact⟨by omega,by omega,λi h=>HA.out i h af⟩):p:=h
theorem P_(h:p:=by
 rw[if_pos hw];exact h a w K h1 h2 (λt ht=>h3 t (by unfold Oper.looksAt;exact List.mem_append_left _ ht)) h4):p:=h
theorem P8(h:p:=by
 rcases h5 with h5|⟨b,o,rfl,Zo,hc⟩
 ·subst h5;simp at h1;omega
 ·exact⟨b,o,_,rfl,Zo,hx,hc j _ hx⟩):p:=h
theorem P6(h:p:=by
 show _=_;rw[kU HX.out,if_neg (λh=>by have:=HI.2 h;cases this),<-HS.out,Int.add_zero]):p:=h
theorem P5(h:p:=by
 rcases Nat.lt_or_ge b w.heap.size with h1|h1
 ·exact h1
 ·rw[Array.getElem?_eq_none h1] at h;cases h):p:=h
theorem P0(h:p:=by
 rw[ht,kt,if_pos ⟨rfl,by rw[h.size];exact Z6 o (Yv ho) t ht⟩];exact hv):p:=h
theorem PG(h:p:=by
 obtain⟨h6,h7⟩:=this;obtain⟨k,hk,hx⟩:=Array.any_eq_true.1 h7;simp only[YI,beq_iff_eq] at hx;exact⟨h6,_,Array.getElem_mem hk,hx.1,hx.2⟩):p:=h
theorem PE(h:p:=by
 rintro e w1 ⟨r,rfl,hr,rfl⟩;go_wp2_with fail;go_ret;exact⟨r,rfl,⟨λh=>⟨h0.out,h1.out,h2.out,hr.1 h⟩,λh=>hr.2 h.2.2.2⟩,aj _ _⟩):p:=h
theorem PC(h:p:=by
 rintro e w1 ⟨r,rfl,hr,rfl⟩;go_wp2_with fail;go_ret;exact⟨r,rfl,⟨λh=>⟨h0.out,hr.1 h⟩,λh=>hr.2 h.2⟩,aj _ _⟩):p:=h
theorem Px(h:p:=by
 cases hd:o.dst with
 | none=>exact h1
 | some d=>
  rw[kt,if_neg (λhx=>ZE (hd.trans (by rw[hx.1])))];exact h1):p:=h
theorem Pw(h:p:=by
 by_cases e:j=k
 ·subst e;rw[HXx.out] at hz;obtain rfl:=Yd hz;exact ZQ.out
 ·exact HQ.out j z af hz):p:=h
theorem Pv(h:p:=by
 by_cases e:j=k
 ·subst e;rw[HX.out] at hz;obtain rfl:=Yd hz;exact HN.out
 ·exact HE.out j z af hz):p:=h
theorem Pr(h:p:=by
 go_wp2;go_ret;exact⟨Zg,rfl,⟨λh=>bJ,λh=>absurd (h.2.2.2.2.2.1 rfl) hm0⟩,aj _ _⟩):p:=h
theorem B1(h:p:=by
 have aun:=@G _ @VP;exact zi):p:=h
theorem qK(h:p:=by
 have auo:=@G _ @acX;exact zZ):p:=h
theorem uZ(h:p:=by
 have HW:=HB;have k0:=λq:Wd wr=>q.slot (o:=0) Gk.out rfl;have k1:=λq:Wd wr=>q.slot (o:=1) Gk.out rfl;have k2:=λq:Wd wr=>q.slot (o:=2) Gk.out rfl;have k3:=λq:Wd wr=>q.slot (o:=3) Gk.out rfl;have k4:=λq:Wd wr=>q.slot (o:=4) Gk.out rfl;have k5:=λq:Wd wr=>q.slot (o:=5) Gk.out rfl;exact Yb HW (Yb k0 (Yb k1 (Yb k2 (Yb k3 (Yb k4 k5)))))):p:=h
theorem amh(h:p:=by
 have v1w:=λq:Wd w2=>(q.cell hbv).trans v1;have v3w:=λq:Wd w2=>(q.cell hbv).trans v3;have v4w:=λq:Wd w2=>(q.cell hbv).trans v4;have v5w:=λq:Wd w2=>(q.cell hbv).trans v5;have hne0:=Wd.ne w2;exact Yb v1w (Yb v3w (Yb v4w (Yb v5w hne0)))):p:=h
theorem OU(h:p:=by
 have HW:=HB;have k1:=λq:Wd wr=>q.slot (o:=1) Gk.out rfl;have auo:=@G _ @acW;exact zZ):p:=h
theorem OT(h:p:=by
 have aq8:=@G _ @I5;exact tA):p:=h
theorem uX(h:p:=by
 have x5:=λq:Wd wr=>(q.cell hb).trans c5;have x6:=λq:Wd wr=>(q.cell hb).trans c6;exact Yb x5 x6):p:=h
theorem AU(h:p:=by
 have Gk:=Bk;have Gr:=Br;have HW:=HB;exact Yb Gk (Yb Gr HW)):p:=h
theorem uW(h:p:=by
 have yw:=λq:Wd wr=>(q.cell hb).trans y0;have hne0:=Wd.ne wr;exact Yb yw hne0):p:=h
theorem ama(h:p:=by
 have ZW:=upB HW q.b;have Ck:=upK Gk q.b;exact Yb ZW Ck):p:=h
theorem lq(h:p:=by
 have ZW:=upB HW q1.b;have Ck:=upK Gk q1.b;exact Yb ZW Ck):p:=h
theorem i_(h:p:=by
 have ZX:=upB HW q2.b;have Ck:=upK Gk q2.b;exact Yb ZX Ck):p:=h
theorem ahI(h:p:=by
 have yw:=λq:Wd w1=>(q.cell hbv).trans hcv;have hne0:=Wd.ne w1;have Zv:=G (λq:Wd w1=>eB ⟨a1,l1,y1,a2,l2,y2,(M ⟨b,o,J⟩),l3,y3,(M ⟨b4,o4,J⟩),l4,y4,a5,l5,y5⟩ c.now c.ks v.k q.w (HR.k.below (HW.trans (q.b.mono HW.size))) HKS.out HG1.out HG2.out);exact Yb yw (Yb hne0 Zv)):p:=h
theorem uV(h:p:=by
 have HW:=HB;have k3:=λq:Wd wr=>q.slot (o:=3) Gk.out rfl;exact Yb HW k3):p:=h
theorem OK(h:p:=by
 have HW:=HB;have k4:=λq:Wd wr=>q.slot (o:=4) Gk.out rfl;exact Yb HW k4):p:=h
theorem O6(h:p:=by
 have hne0:=Wd.ne w1;have Zv:=G (λq:Wd w1=>eB ⟨a1,l1,y1,a2,l2,y2,(M ⟨b,o,J⟩),l3,y3,a4,l4,y4,a5,l5,y5⟩ c.now c.ks v.k q.w (HR.k.below (HW.trans (q.b.mono HW.size))) HKS.out HG1.out HG2.out);exact Yb hne0 Zv):p:=h
theorem nO(h:p:=by
 have hd:decide ((0:Int)<k)=Zg:=by simp;omega
 have Gk:=Bk;exact Yb hd Gk):p:=h
theorem jg(h:p:=by
 have HX:=G hx;have HV:=G hv;have HNE:=G ZE;exact Yb HX (Yb HV HNE)):p:=h
theorem akz(h:p:=by
 have Gk:Hid (wr.heap[w.heap.size]?=M (Ze (Zd (M ⟨b,o,J⟩) l1 y1 a2 l2 y2 a3 l3 y3 a4 l4 y4 a5 l5 y5 c.now) 29 (0,0))):=Bk.out;have HW:=HB;have k0:=λq:Wd wr=>q.slot (o:=0) Gk.out rfl;exact Yb Gk (Yb HW k0)):p:=h
theorem aky(h:p:=by
 have Gk:Hid (wr.heap[w.heap.size]?=M (Ze (Zd a1 l1 y1 a2 l2 y2 (M ⟨b,o,J⟩) l3 y3 a4 l4 y4 a5 l5 y5 c.now) 29 (0,0))):=Bk.out;have HW:=HB;have k2:=λq:Wd wr=>q.slot (o:=2) Gk.out rfl;exact Yb Gk (Yb HW k2)):p:=h
theorem nN(h:p:=by
 have Ck:=upK Gk q1.b;have Br:=upK Gr q1.b;exact Yb Ck Br):p:=h
theorem wU(h:p:=by
 have HR:=G hr;have aqI:=@G _ @ac4;exact lW):p:=h
theorem alZ(h:p:=by
 rintro _ ⟨q2,rfl⟩;obtain⟨ZX,Ck⟩:=i_;have Cx:=upK Gx q2.b;have Cy:=upK Gy q2.b;clear hne0 HW HB k2 x3 y3 tw vw Gk Gx Gy Bk Bx By;have aup:=@G _ @WL;exact zD):p:=h
theorem alY(h:p:=by
 rintro _ ⟨q2,rfl⟩;obtain⟨ZX,Ck⟩:=i_;have Cx:=upK Gx q2.b;have Cy:=upK Gy q2.b;clear hne0 HW HB k2 x3 y3 Gk Gx Gy Bk Bx By;have aup:=@G _ @WK;exact zD):p:=h
theorem alX(h:p:=by
 rintro _ ⟨qz,rfl⟩;have Z7:=upB HW qz.b;have Ck:=upK Gk qz.b;have Br:=upK Gr qz.b;clear hne0 HB k2 r0 r1 r2 r3 r4 v1w v3w v4w v5w Bk pr v1 v3 v4 v5 hbv;have HB:=Z7;have Bk:=Ck;clear q1 q2 q3 q4;have an3:=@G _ @abL;exact dI):p:=h
theorem alW(h:p:=by
 rintro _ ⟨q1,rfl⟩;have Z7:=upB HW q1.b;obtain⟨Ck,Br⟩:=nN;clear hne0 HB k2 r0 r1 r2 r3 r4 Bk pr;have HB:=Z7;have Bk:=Ck;go_wp2;go_ret;refine ar.f (λh=>?_) HB.out;rcases (h.2 k x HXx.out).2 with h2|⟨i,y,h2,h3,_⟩
 ·exact HEm.out h2
 ·exact HH.out i y h2 h3):p:=h
theorem alV(h:p:=by
 have aqJ:=@G _ @aaI;exact lT):p:=h
theorem alU(h:p:=by
 have aqJ:=@G _ @aaH;exact lT):p:=h
theorem alT(h:p:=by
 have aqJ:=@G _ @aaG;exact lT):p:=h
theorem alS(h:p:=by
 have aqJ:=@G _ @aaF;exact lT):p:=h
theorem bF(h:p:=by
 go_wp2_with fail;have aqK:=@G _ @WB;exact lQ):p:=h
theorem aj0(h:p:=by
 have auq:=@G _ @Wk;exact zx):p:=h
theorem ajZ(h:p:=by
 have auq:=@G _ @Wj;exact zx):p:=h
theorem ajY(h:p:=by
 have aq9:=@G _ @Xv;exact qo):p:=h
theorem ajX(h:p:=by
 have aq9:=@G _ @Xu;exact qo):p:=h
theorem ajW(h:p:=by
 repeat (go_big_quiet_step (first|(go_at_call 105;exact Calls.wide (Zv.out _))|fail))
 have τ:=@G _ @XX;exact bP):p:=h
theorem ajV(h:p:=by
 repeat (go_big_quiet_step (first|(go_at_call 105;exact Calls.wide (Zv.out _))|fail))
 have τ:=@G _ @XW;exact bP):p:=h
theorem ajU(h:p:=by
 repeat (go_big_quiet_step (first|(go_at_call 105;exact Calls.wide (Zv.out _))|fail))
 have τ:=@G _ @XV;exact bP):p:=h
theorem ajT(h:p:=by
 repeat (go_big_quiet_step (first|(go_at_call 105;exact Calls.wide (Zv.out _))|fail))
 have τ:=@G _ @XU;exact bP):p:=h
theorem ajS(h:p:=by
 repeat (go_big_quiet_step (first|(go_at_call 106;exact Calls.wide (Zv.out _))|fail))
 have τ:=@G _ @XT;exact bP):p:=h
theorem ajR(h:p:=by
 repeat (go_big_quiet_step (first|(go_at_call 106;exact Calls.wide (Zv.out _))|fail))
 have τ:=@G _ @XS;exact bP):p:=h
theorem ajQ(h:p:=by
 repeat (go_big_quiet_step (first|(go_at_call 106;exact Calls.wide (Zv.out _))|fail))
 have τ:=@G _ @XR;exact bP):p:=h
theorem ajP(h:p:=by
 repeat (go_big_quiet_step (first|(go_at_call 106;exact Calls.wide (Zv.out _))|fail))
 have τ:=@G _ @XQ;exact bP):p:=h
theorem ajO(h:p:=by
 repeat (go_big_quiet_step (first|(go_at_call 107;exact Calls.wide (Zv.out _))|fail))
 have τ:=@G _ @XP;exact bP):p:=h
theorem ajN(h:p:=by
 repeat (go_big_quiet_step (first|(go_at_call 107;exact Calls.wide (Zv.out _))|fail))
 have τ:=@G _ @XO;exact bP):p:=h
theorem ajM(h:p:=by
 repeat (go_big_quiet_step (first|(go_at_call 107;exact Calls.wide (Zv.out _))|fail))
 have τ:=@G _ @XN;exact bP):p:=h
theorem ajL(h:p:=by
 repeat (go_big_quiet_step (first|(go_at_call 107;exact Calls.wide (Zv.out _))|fail))
 have τ:=@G _ @XM;exact bP):p:=h
theorem ajK(h:p:=by
 repeat (go_big_quiet_step (first|(go_at_call 108;exact Calls.wide (Zv.out _))|fail))
 have τ:=@G _ @XL;exact bP):p:=h
theorem ajJ(h:p:=by
 repeat (go_big_quiet_step (first|(go_at_call 108;exact Calls.wide (Zv.out _))|fail))
 have τ:=@G _ @XK;exact bP):p:=h
theorem ajI(h:p:=by
 repeat (go_big_quiet_step (first|(go_at_call 108;exact Calls.wide (Zv.out _))|fail))
 have τ:=@G _ @XJ;exact bP):p:=h
theorem ajH(h:p:=by
 repeat (go_big_quiet_step (first|(go_at_call 108;exact Calls.wide (Zv.out _))|fail))
 have τ:=@G _ @XI;exact bP):p:=h
theorem ajG(h:p:=by
 repeat (go_big_quiet_step (first|(go_at_call 109;exact Calls.wide (Zv.out _))|fail))
 have τ:=@G _ @XH;exact bP):p:=h
theorem ajF(h:p:=by
 repeat (go_big_quiet_step (first|(go_at_call 109;exact Calls.wide (Zv.out _))|fail))
 have τ:=@G _ @XG;exact bP):p:=h
theorem ajE(h:p:=by
 repeat (go_big_quiet_step (first|(go_at_call 109;exact Calls.wide (Zv.out _))|fail))
 have τ:=@G _ @XF;exact bP):p:=h
theorem ajD(h:p:=by
 repeat (go_big_quiet_step (first|(go_at_call 109;exact Calls.wide (Zv.out _))|fail))
 have τ:=@G _ @XE;exact bP):p:=h
theorem ajC(h:p:=by
 have aoD:=@G _ @abA;exact fx):p:=h
theorem ajB(h:p:=by
 have apY:=@G _ @M6;exact nA):p:=h
theorem ajA(h:p:=by
 have aoD:=@G _ @abz;exact fx):p:=h
theorem ajz(h:p:=by
 have apY:=@G _ @M5;exact nA):p:=h
theorem ajy(h:p:=by
 have aoD:=@G _ @aby;exact fx):p:=h
theorem aB(h:p:=by
 have ο:=@G _ @Lk;exact b_):p:=h
theorem afa(h:p:=by
 have aq_:=@G _ @Pr;exact qv):p:=h
theorem ae_(h:p:=by
 have aq_:=@G _ @aa8;exact qv):p:=h
theorem ae9(h:p:=by
 have aq_:=@G _ @aa7;exact qv):p:=h
theorem qH(h:p:=by
 go_enter Tryz.func107,Tryz.ntmps107;go_wp2_with fail;refine (bW n _ hn).mono ?_;rintro e w1 ⟨r,rfl,hr,rfl⟩;by_cases hq:r=Zi;case neg=>
  exact aiC
 have h0:=G (hr.1 hq);subst hq;clear hr;go_wp2_with fail;refine (pw c _).mono ?_;have aoV:=@G _ @aa3;exact gu):p:=h
theorem ae8(h:p:=by
 refine (bW z _ hz).mono ?_;have aoV:=@G _ @aa2;exact gu):p:=h
theorem ae7(h:p:=by
 refine (iC z _ hz).mono ?_;exact PC):p:=h
theorem ae6(h:p:=by
 refine (pw z _).mono ?_;have aoV:=@G _ @aa1;exact gu):p:=h
theorem ae5(h:p:=by
 refine (vJ c _).mono ?_;have aoV:=@G _ @aa0;exact gu):p:=h
theorem fz(h:p:=by
 rintro e w1 ⟨r,rfl,hr,rfl⟩;by_cases hq:r=Zi;case neg=>
  exact aiC
 have h0:=G (hr.1 hq);subst hq;clear hr;go_wp2_with fail;exact aoE):p:=h
theorem aed(h:p:=by
 have HX:=G hx;have HT:=G Zx;clear Zc hx z0 z2 z3 z5 Zx;go_wp2_with fail;refine (bZ va vl vc v.zs t _ HT.out).mono ?_;rintro e w1 ⟨r,rfl,hi,ZG⟩;replace Bk:=upK Bk ZG;replace HB:=upB HB ZG;clear ZG;have HI:=G hi;clear hi hb kk c0 c1 c2 c3 c4 c5 c6 c7;cases r
 ·go_wp2;refine⟨⟨k+1,s,by omega,rfl,by go_num,?_,by omega,by omega,HB.out,Bk.out⟩,by simp[intOf];omega⟩;exact P6
 ·go_wp2;refine⟨⟨k+1,s+1,by omega,by go_num,by go_num,?_,by omega,by omega,HB.out,Bk.out⟩,by simp[intOf];omega⟩;show _=_;rw[kU HX.out,if_pos (HI.1 bU),<-HS.out]):p:=h
theorem gA(h:p:=by
 obtain⟨va,vl,vc,Zx,z0,z2,z3,z5,c0,c1,c2,c3,c4,c5,c6,c7⟩:=bm Zc;exact aoW):p:=h
theorem adm(h:p:=by
 have apJ:∀(listed:Array Bool) (a:Act) (w:World),listed.size=ops.size->(∀i,i<ops.size->listed.getD i Zg=Zi)->(∀o,back=M o->listed.getD front.length Zg=Zg)->At front φs W a0 listed a w->Q .normal a w:=by
  intro listed a w hz ZL hb h;have h1:=hf.last hlen Z6 h (λi hi=>ZL i af);exact xA
 intro fuel;induction fuel with
 | zero=>
  intro listed a w hz hc hb h;have ZL:∀i,i<ops.size->listed.getD i Zg=Zi:=λi hi=>il af i af;refine⟨?_,apJ listed a w hz ZL hb h⟩
  cases hr:YU .any ops listed with
  | nil=>rfl
  | cons j js=>
   have hm:j∈YU .any ops listed:=by rw[hr];simp
   obtain⟨h1,o,ho,-⟩:=mem_ready.1 hm;have hj:=(YA.1 ho).1;rw[<-cR af,ZL j hj] at h1
   cases h1
 | succ fuel ih=>
  intro listed a w hz hc hb h;refine⟨λhr=>apJ listed a w hz (gK hz Zo hr) hb h,λj hj=>?_⟩;obtain⟨hun,o,ho,ZL⟩:=mem_ready.1 hj;have hjs:j<ops.size:=(YA.1 ho).1;have hcs:=count_set (listed:=listed) (i:=j) af hun
  by_cases hjf:j<front.length
  ·have hof:front[j]?=M o:=by rw[an_] at ho;simpa[Yu hjf] using ho
   have hφ:φs[j]?=M (φs[j]'(by omega)):=Yi _;obtain⟨hm,hob⟩:=hs j o _ hof hφ
   have aoi:∀t∈o.looksAt ops,slotFact a0 (knAll [] (front.take j) (φs.take j)) a w t:=by
    intro t ht;unfold slotFact
    cases hk:(knAll [] (front.take j) (φs.take j)).lookup t with
    | some φ=>
     rcases de _ _ _ hk with ⟨i,p,h1,h2,h3⟩|h1
     ·have hij:i<j:=by have:=(Yc.1 h1).1;simp at this;omega
      rw[YC,if_pos hij] at h1 h3;obtain⟨-,e,he,hon,hbi⟩:=aoO j o hof t ht i p h1 h2;have hl:=ZL e he hbi;rw[hon] at hl;exact h.known i p φ h1 h3 t h2 hl
     ·simp at h1
    | none=>
     refine h.other t (λi p hp hd=>?_)
     exfalso
     obtain⟨hij,-⟩:=aoO j o hof t ht i p hp hd;have hi:=(Yc.1 hp).1;exact (df _ _ _ hk).2 i p (φs[i]'(by omega)) AM AR hd
   have h1:=hob a w (wpAny P .any ops Q fuel (listed.setIfInBounds j Zi)) h.size h.below aoi (λv w' δ hv=>by
    refine ih _ _ _ (by simpa using hz) af (λo' ho'=>?_) (h.step hn Z6 (λi o φ h1 h2=>(hs i o φ h1 h2).1) hof hφ af δ hv);have h2:=hb o' ho'
    have e:¬j=front.length:=af
    simpa[Ys,YH,e] using h2)
   unfold wpOp;rw[ho]
   simp only
   split
   ·rename_i hw;rw[if_pos hw] at h1;exact Zl h1
   ·rename_i hw;rw[if_neg hw] at h1;exact h1
  ·cases hk:back with
   | none=>rw[hk] at Zq;simp at Zq;omega
   | some b=>
    have hjn:j=front.length:=by rw[hk] at Zq;simp at Zq;omega
    subst hjn
    have hob:o=b:=by
     rw[an_,hk] at ho
     simp at ho
     exact ho.symm
    subst hob
    have hfl:∀i,i<front.length->listed.getD i Zg=Zi:=λi hi=>by
     obtain⟨e,he,hon,hbi⟩:=ara o hk i hi;have:=ZL e he hbi
     rwa [hon] at this
    have h1:=hf.last hlen Z6 h hfl;rw[hk] at h1
    have h2:=h1 (wpAny P .any ops Q fuel (listed.setIfInBounds front.length Zi)) (λa' w' hq=>by
     have hr:YU .any ops (listed.setIfInBounds front.length Zi)=[]:=by
      cases hr:YU .any ops (listed.setIfInBounds front.length Zi) with
      | nil=>rfl
      | cons i is=>
       have hm:i∈YU .any ops (listed.setIfInBounds front.length Zi):=by rw[hr];simp
       obtain⟨h3,o',ho',-⟩:=mem_ready.1 hm;have hi:=(YA.1 ho').1
       exfalso
       by_cases e:front.length=i
       ·subst e
        simp[Ys,show front.length<listed.size from by omega] at h3
       ·have h4:=hfl i (by rw[hk] at Zq;simp at Zq;omega);rw[cR af] at h4
        simp[Ys,e] at h3 h4
        rw[h3] at h4
        cases h4
     cases fuel with
     | zero=>exact⟨hr,hq⟩
     | succ fuel=>exact⟨λ_=>hq,λi hi=>by rw[hr] at hi;cases hi⟩)
    unfold wpOp;rw[ho]
    simp only
    split
    ·rename_i hw;rw[if_pos hw] at h2;exact Zl h2
    ·rename_i hw;rw[if_neg hw] at h2;exact h2):p:=h
theorem qC(h:p:=by
 obtain⟨hn,Z6,aoO,Zo,ara⟩:=gE hB;rw[<-an_] at aoO Zo;have Zq:ops.size=front.length+back.toList.length:=by rw[an_];simp
 exact arb):p:=h
theorem ac5(h:p:=by
 have hm3:l3<=9223372036854775807:=Yo hr.v.2.1 hr.v.2.2.1;have arc:=@G _ @L3;exact t_):p:=h
theorem ac4(h:p:=by
 exact Yb HR hl3):p:=h
theorem lW(h:p:=by
 have hl3:c.vs.length=l3:=OI
 exact aqI):p:=h
theorem ac1(h:p:=by
 have:=List.all_eq_true.1 this t ht;have:=List.all_eq_true.1 this i (List.mem_range.2 hi);rw[hp] at this;simp only[hd,bne_self_eq_false,Bool.false_or,YI,decide_eq_true_eq] at this;exact PG):p:=h
theorem Aa(h:p:=by
 have hj:j<front.length:=(Yc.1 ho).1;have hi:i<front.length:=(Yc.1 hp).1;have:=List.all_eq_true.1 h3 j (List.mem_range.2 hj);rw[ho] at this;exact aum):p:=h
theorem acZ(h:p:=by
 go_enter Tryz.func112,Tryz.ntmps112;go_wp2;go_loopw [5,6] (λq i wr=> ∃(k:Nat) (s:Int),k<=l5/\q=V O s/\i=V O k/\Hid (s=cpuOf t (ps.take k))/\0<=s/\s<=k*1000000/\wr=w.alloc (Ze #[U a1 l1 y1,U a2 l2 y2,U a3 l3 y3,U a4 l4 y4,U a5 l5 y5,V O now] 29)) (λ_ i _=>l5 - (intOf i).toNat);case atStart=>exact⟨0,0,by omega,rfl,rfl,rfl,by omega,by omega,rfl⟩
 case round=>
  obtain⟨k,s,hk,rfl,rfl,HS,hs0,hs1,rfl⟩:=hrel;by_cases Zo:k<l5
  ·obtain⟨b,o,p,rfl,hb,hx,Zc⟩:=db HR.out Zo;have aoX:=@G _ @IF;exact ia
  ·obtain rfl:l5=k:=af
   go_wp2;go_ret;exact⟨congrArg (λz=>Ending.returned (V O z)) (HS.trans (by rw[YB af])),aj _ _⟩):p:=h
theorem z_(h:p:=by
 have ard:=@G _ @VI;exact qf):p:=h
theorem acX(h:p:=by
 have x4:=λq:Wd wr=>(q.cell hb).trans c4;exact Yb x0 (Yb x1 (Yb x2 (Yb x3 x4)))):p:=h
theorem acW(h:p:=by
 exact Yb HW (Yb k1 (Yb x0 (Yb x1 (Yb x2 x3))))):p:=h
theorem zZ(h:p:=by
 have x0:=λq:Wd wr=>(q.cell hb).trans c0;have x1:=λq:Wd wr=>(q.cell hb).trans c1;have x2:=λq:Wd wr=>(q.cell hb).trans c2;have x3:=λq:Wd wr=>(q.cell hb).trans c3;exact auo):p:=h
theorem acP(h:p:=by
 exact⟨Zg,rfl,⟨λh=>bJ,λh=>(HN.out (h.1)).elim⟩,aj _ _⟩):p:=h
theorem acO(h:p:=by
 exact⟨Zg,rfl,⟨λh=>bJ,λh=>(HN.out (h.2.2.1)).elim⟩,aj _ _⟩):p:=h
theorem acN(h:p:=by
 exact⟨Zg,rfl,⟨λh=>bJ,λh=>(HN.out (h.2.1)).elim⟩,aj _ _⟩):p:=h
theorem acM(h:p:=by
 exact⟨Zg,rfl,⟨λh=>bJ,λh=>(HN.out (h.2.2.2.1)).elim⟩,aj _ _⟩):p:=h
theorem acL(h:p:=by
 exact⟨Zg,rfl,⟨λh=>bJ,λh=>(HN.out (h.2.2.2.2.1)).elim⟩,aj _ _⟩):p:=h
theorem gw(h:p:=by
 have HN:=G (λh=>hq (hr.2 h));clear hr;go_wp2_with fail;go_ret;exact aoU):p:=h
theorem acG(h:p:=by
 obtain⟨v3,h3,rfl,z3⟩:=h 3 _ rfl;obtain⟨v4,h4,rfl⟩:=h 4 _ rfl;obtain⟨v5,h5,rfl,z5⟩:=h 5 _ rfl;obtain⟨v6,h6,rfl⟩:=h 6 _ rfl;obtain⟨v7,h7,a,len,cap,rfl,hr⟩:=h 7 _ rfl;exact⟨a,len,cap,hr,z0,z2,z3,z5,h0,h1,h2,h3,h4,h5,h6,h7⟩):p:=h
theorem acF(h:p:=by
 obtain⟨v3,h3,rfl⟩:=h 3 _ rfl;obtain⟨v4,h4,rfl,z4⟩:=h 4 _ rfl;exact⟨z0,z2,z4,h0,h1,h2,h3,h4⟩):p:=h
theorem acE(h:p:=by
 obtain⟨v3,h3,a,len,cap,rfl,hr⟩:=h 3 _ rfl;obtain⟨v4,h4,rfl,z4⟩:=h 4 _ rfl;obtain⟨v5,h5,rfl⟩:=h 5 _ rfl;exact⟨a,len,cap,hr,z0,z2,z4,h0,h1,h2,h3,h4,h5⟩):p:=h
theorem qA(h:p:=by
 obtain⟨v0,h0,rfl,z0⟩:=h 0 _ rfl;obtain⟨v1,h1,rfl⟩:=h 1 _ rfl;obtain⟨v2,h2,rfl,z2⟩:=h 2 _ rfl;exact arf):p:=h
theorem ack(h:p:=by
 have HR:=G hr;have hl4:c.xs.length=l4:=by simpa using (show (c.xs.map xdF).length=l4 from hr.x.1)
 clear hr;obtain⟨HX,HV,HNE⟩:=jg;have HB:=G (Yh w.heap.size w);clear hx hv ZE;go_enter Tryz.func37,Tryz.ntmps37;go_wp2_with fail;refine (gZ ⟨a1,l1,y1,a2,l2,y2,a3,l3,y3,a4,l4,y4,a5,l5,y5⟩ c.now c.xs t _ (HR.x.below (aj _ _))).mono ?_;rintro e w1 ⟨hb,hf⟩;have aov:=@G _ @Ob;exact fT):p:=h
theorem acj(h:p:=by
 obtain⟨HR,hl3⟩:=wU;clear hr;obtain⟨HX,HV,HNE⟩:=jg;have HP:=G hp;have HQ0:=G hq;have hlc:=Yo hp.2.1 hp.2.2.1;have hzl:=hp.1;clear hx hv ZE hp hq;by_cases Ξ:p.d=⟨#[]⟩
 ·have e1:=cw Ξ;have HH:=G Ξ;clear Ξ;go_enter Tryz.func111,Tryz.ntmps111;go_wp2;go_ret;exact ar.t (Zl HH.out) (cO _ _ _ _)
 by_cases hq0:q.d=⟨#[]⟩
 ·have e1:=aU Ξ;have e2:=cw hq0;have HH:=G hq0;clear Ξ hq0;go_enter Tryz.func111,Tryz.ntmps111;go_wp2;go_ret;exact ar.t (Zk (Zl HH.out)) (cO _ _ _ _)
 by_cases hpq:p.d=q.d
 ·have e1:=aU Ξ;have e2:=aU hq0;have e3:=aP hpq;have HH:=G hpq;clear Ξ hq0 hpq;go_enter Tryz.func111,Tryz.ntmps111;go_wp2;go_ret;exact ar.t (Zk (Zk (Zl HH.out))) (cO _ _ _ _)
 have e1:=aU Ξ;have e2:=aU hq0;have e3:=bu hpq;have HP0:=G Ξ;have HQ1:=G hq0;have HPQ:=G hpq;clear Ξ hq0 hpq;go_enter Tryz.func111,Tryz.ntmps111;go_wp2;clear e1 e2 e3;go_loopw [7] (λi wr=> ∃k:Nat,k<=pl/\i=V O k/\Hid (∀(j:Nat) t,j<k->p.zs[j]?=M t->∀v,aX c t v->v.x=Zi->¬InL q.zs t)/\Hid (Below w.heap.size w wr)/\Hid (wr.heap[w.heap.size]?=M (Ze (Zd a1 l1 y1 a2 l2 y2 a3 l3 y3 a4 l4 y4 a5 l5 y5 c.now) 29 (0,0)))/\Hid (wr.heap[w.heap.size+1]?=M (Ze (pov p pa pl pc) 102 (0,0)))/\Hid (wr.heap[w.heap.size+1+1]?=M (Ze (pov q qa ql qc) 102 (0,0)))) (λi _=>pl - (intOf i).toNat);case atStart=>exact⟨0,by omega,rfl,λ_ _ h=>absurd h af,cO _ _ _ _,mo _ _ _ _,ko _ _ _ _,km _ _ _ _⟩
 case round=>
  obtain⟨k,hk,rfl,HQ,HB,Bk,Bx,By⟩:=hrel;have px3:=ck3 Bx;by_cases Zo:k<pl
  ·obtain⟨b,o,t,rfl,hb,hxt,hc,Zq⟩:=HP.at Zo;have HXt:=G hxt;have hcw:=(ah HB.out hb).trans hc;have δ:=Yl hb HB.size;clear hxt Zq;have aof:(∃v,aX c t v)\/(∀v,¬aX c t v):=by
    exact Q1
   rcases aof with ⟨v,ω⟩|ω
   ·have aur:=@G _ @TY;exact yY
   ·have HD:=G ω;clear ω;have Gk:=Bk;have Gx:=Bx;have Gy:=By;obtain⟨HW,k0,k1,k2,k3,k4,k5⟩:=uZ;have x3:=λq:Wd wr=>q.slot (o:=3) Gx.out rfl;have tw:=λq:Wd wr=>(q.cell δ).trans hcw;have hne0:=Wd.ne wr;have Zv:=G (λq:Wd wr=>gi ⟨a1,l1,y1,a2,l2,y2,a3,l3,y3,a4,l4,y4,a5,l5,y5⟩ c t q.w (HR.below (HW.trans (q.b.mono HW.size))) HX.out HV.out HNE.out HD.out);have ο:=@G _ @Lj;exact b_
  ·obtain rfl:pl=k:=af
   go_wp2;go_ret;exact ar.t (Zk (Zk (Zk (λj t ht=>HQ.out j t AN ht)))) HB.out):p:=h
theorem aci(h:p:=by
 obtain⟨HR,hl1,hm1,hl2,hm2,hl3,hm3,hl4,hm4,hl5,hm5⟩:=B1;clear hr;by_cases hL1:(6:Int)<l1
 ·go_enter Tryz.func56,Tryz.ntmps56;go_wp2;go_ret;exact ar.f (λh=>by have:=h.1.1;omega) (aj _ _)
 by_cases hL2:(8:Int)<l2
 ·go_enter Tryz.func56,Tryz.ntmps56;go_wp2;go_ret;exact ar.f (λh=>by have:=h.2.1.1;omega) (aj _ _)
 by_cases hL3:(8:Int)<l3
 ·go_enter Tryz.func56,Tryz.ntmps56;go_wp2;go_ret;exact ar.f (λh=>by have:=h.2.2.1.1;omega) (aj _ _)
 by_cases hL4:(8:Int)<l4
 ·go_enter Tryz.func56,Tryz.ntmps56;go_wp2;go_ret;exact ar.f (λh=>by have:=h.2.2.2.1.1;omega) (aj _ _)
 by_cases hL5:(8:Int)<l5
 ·go_enter Tryz.func56,Tryz.ntmps56;go_wp2;go_ret;exact ar.f (λh=>by have:=h.2.2.2.2.1;omega) (aj _ _)
 go_enter Tryz.func56,Tryz.ntmps56;go_wp2;go_loopw [3] (λi wr=> ∃k:Nat,k<=l1/\i=V O k/\Hid (∀(j:Nat) z,j<k->c.ns[j]?=M z->xI z)/\Hid (∀(j:Nat) z u,j+1<k->c.ns[j+1]?=M z->c.ns[j]?=M u->Yk u.n.toList z.n.toList=Zi)/\Hid (Below w.heap.size w wr)/\Hid (wr.heap[w.heap.size]?=M (Ze (Zd a1 l1 y1 a2 l2 y2 a3 l3 y3 a4 l4 y4 a5 l5 y5 c.now) 29 (0,0)))) (λi _=>l1 - (intOf i).toNat);case atStart=>exact⟨0,by omega,rfl,λ_ _ h=>absurd h af,λ_ _ _ h=>absurd h af,aj _ _,Yf⟩
 case round=>
  obtain⟨k,hk,rfl,HQ,HO,HB,Bk⟩:=hrel;have pk:=ck0 Bk;by_cases Zo:k<l1
  ·obtain⟨b,o,x,rfl,hb,hx,Zc⟩:=dF (HR.n.below HB.out) Zo;obtain⟨va,vl,vc,Zx,z0,z1,c0,c1,c2,c3,c4,c5,c6⟩:=bo Zc;have HXx:=G hx;have HTx:=G Zx;have anh:=G z0;have awC:=G z1;clear Zc hx z0 z1 Zx;by_cases ξ:xI x;rotate_left
   ·have ZQ:=G ξ;clear ξ;have Gk:=Bk;have HW:=HB;have k0:=λq:Wd wr=>q.slot (o:=0) Gk.out rfl;obtain⟨x0,x1,x2,x3,x4⟩:=qK;obtain⟨x5,x6⟩:=uX;have hne0:=Wd.ne wr;have Zv:=G (λq:Wd wr=>(oL x.n x.z x.c x.s x.u x.d va vl vc x.zs q.w anh.out awC.out (HTx.below q.b)).mono (λ_ _ h=>ar.no h ZQ.out));have Zw:=@G _ @ajW;exact aB
   have ZQ:=G ξ;clear ξ;by_cases hk0:0<k;rotate_left
   ·obtain⟨hd,Gk⟩:=nO;have HW:=HB;have k0:=λq:Wd wr=>q.slot (o:=0) Gk.out rfl;obtain⟨x0,x1,x2,x3,x4⟩:=qK;obtain⟨x5,x6⟩:=uX;have hne0:=Wd.ne wr;have arh:=@G _ @Ii;exact td
   have ek:((k:Int) - 1).toNat=k - 1:=af
   obtain⟨b',o',y,e',χ,hy,apf⟩:=dF (HR.n.below HB.out) (show k - 1<l1 by omega);cases e';have y0:wr.cell? ⟨b,o+(k - 1)*7,J⟩=M (I y.n):=by
    exact nR
   have HXy:=G hy;clear hy apf;cases Zz:Yk y.n.toList x.n.toList
   ·have ari:=@G _ @NX;exact uH
   ·have ari:=@G _ @NW;exact uH
  ·obtain rfl:l1=k:=af
   have HR1:Hid (fk xI Nd.n c.ns 6):=⟨by omega,λj z hz=>HQ.out j z dO hz,λj z u hz hu=>HO.out j z u dO hz hu⟩;skip;have kc:=ck1 Bk;go_wp2;go_loopw [4] (λi wr=> ∃k:Nat,k<=l2/\i=V O k/\Hid (∀(j:Nat) z,j<k->c.ks[j]?=M z->xS z)/\Hid (∀(j:Nat) z u,j+1<k->c.ks[j+1]?=M z->c.ks[j]?=M u->Yk u.n.toList z.n.toList=Zi)/\Hid (Below w.heap.size w wr)/\Hid (wr.heap[w.heap.size]?=M (Ze (Zd a1 l1 y1 a2 l2 y2 a3 l3 y3 a4 l4 y4 a5 l5 y5 c.now) 29 (0,0)))) (λi _=>l2 - (intOf i).toNat);case atStart=>exact⟨0,by omega,rfl,λ_ _ h=>absurd h af,λ_ _ _ h=>absurd h af,HB.out,Bk.out⟩
   case round=>
    obtain⟨k,hk,rfl,HQ,HO,HB,Bk⟩:=hrel;have pk:=ck1 Bk;by_cases Zo:k<l2
    ·obtain⟨b,o,x,rfl,hb,hx,Zc⟩:=gR (HR.k.below HB.out) Zo;obtain⟨z0,z3,c0,c1,c2,c3⟩:=dh Zc;have HXx:=G hx;have anh:=G z0;have aq0:=G z3;clear Zc hx z0 z3;by_cases ξ:xS x;rotate_left
     ·have ZQ:=G ξ;clear ξ;have Gk:=Bk;obtain⟨HW,k1,x0,x1,x2,x3⟩:=OU;have hne0:=Wd.ne wr;have Zv:=G (λq:Wd wr=>(jf x.n x.z x.x x.y q.w anh.out aq0.out).mono (λ_ _ h=>ar.no h ZQ.out));have Zw:=@G _ @ajS;exact aB
     have ZQ:=G ξ;clear ξ;by_cases hk0:0<k;rotate_left
     ·obtain⟨hd,Gk⟩:=nO;obtain⟨HW,k1,x0,x1,x2,x3⟩:=OU;have hne0:=Wd.ne wr;have Zv:=G (λq:Wd wr=>(jf x.n x.z x.x x.y q.w anh.out aq0.out).mono (λ_ _ h=>ar.yes h ZQ.out));have Zw:=@G _ @ajR;exact aB
     have ek:((k:Int) - 1).toNat=k - 1:=af
     obtain⟨b',o',y,e',χ,hy,apf⟩:=gR (HR.k.below HB.out) (show k - 1<l2 by omega);cases e';have y0:wr.cell? ⟨b,o+(k - 1)*4,J⟩=M (I y.n):=by
      exact nR
     have HXy:=G hy;clear hy apf;cases Zz:Yk y.n.toList x.n.toList
     ·have arj:=@G _ @Oo;exact uN
     ·have arj:=@G _ @On;exact uN
    ·obtain rfl:l2=k:=af
     have HR2:Hid (fk xS Kd.n c.ks 8):=⟨by omega,λj z hz=>HQ.out j z dO hz,λj z u hz hu=>HO.out j z u dO hz hu⟩;skip;have kc:=ck2 Bk;go_wp2;go_loopw [5] (λi wr=> ∃k:Nat,k<=l3/\i=V O k/\Hid (∀(j:Nat) z,j<k->c.vs[j]?=M z->rM z)/\Hid (∀(j:Nat) z u,j+1<k->c.vs[j+1]?=M z->c.vs[j]?=M u->Yk u.n.toList z.n.toList=Zi)/\Hid (Below w.heap.size w wr)/\Hid (wr.heap[w.heap.size]?=M (Ze (Zd a1 l1 y1 a2 l2 y2 a3 l3 y3 a4 l4 y4 a5 l5 y5 c.now) 29 (0,0)))) (λi _=>l3 - (intOf i).toNat);case atStart=>exact⟨0,by omega,rfl,λ_ _ h=>absurd h af,λ_ _ _ h=>absurd h af,HB.out,Bk.out⟩
     case round=>
      obtain⟨k,hk,rfl,HQ,HO,HB,Bk⟩:=hrel;have pk:=ck2 Bk;by_cases Zo:k<l3
      ·have ark:=@G _ @IT;exact tu
      ·obtain rfl:l3=k:=af
       have HR3:Hid (fk rM Vd.n c.vs 8):=⟨by omega,λj z hz=>HQ.out j z dO hz,λj z u hz hu=>HO.out j z u dO hz hu⟩;skip;have kc:=ck3 Bk;go_wp2;go_loopw [6] (λi wr=> ∃k:Nat,k<=l4/\i=V O k/\Hid (∀(j:Nat) z,j<k->c.xs[j]?=M z->gX z)/\Hid (∀(j:Nat) z u,j+1<k->c.xs[j+1]?=M z->c.xs[j]?=M u->Yk u.n.toList z.n.toList=Zi)/\Hid (Below w.heap.size w wr)/\Hid (wr.heap[w.heap.size]?=M (Ze (Zd a1 l1 y1 a2 l2 y2 a3 l3 y3 a4 l4 y4 a5 l5 y5 c.now) 29 (0,0)))) (λi _=>l4 - (intOf i).toNat);case atStart=>exact⟨0,by omega,rfl,λ_ _ h=>absurd h af,λ_ _ _ h=>absurd h af,HB.out,Bk.out⟩
       case round=>
        obtain⟨k,hk,rfl,HQ,HO,HB,Bk⟩:=hrel;have pk:=ck3 Bk;by_cases Zo:k<l4
        ·have apt:=@G _ @Hk;exact jX
        ·obtain rfl:l4=k:=af
         have HR4:Hid (fk gX Xd.n c.xs 8):=⟨by omega,λj z hz=>HQ.out j z dO hz,λj z u hz hu=>HO.out j z u dO hz hu⟩;skip;have kc:=ck4 Bk;go_wp2;go_loopw [7] (λi wr=> ∃k:Nat,k<=l5/\i=V O k/\Hid (∀(j:Nat) z,j<k->c.ps[j]?=M z->vy z)/\Hid (∀(j:Nat) z u,j+1<k->c.ps[j+1]?=M z->c.ps[j]?=M u->Yk u.n.toList z.n.toList=Zi)/\Hid (Below w.heap.size w wr)/\Hid (wr.heap[w.heap.size]?=M (Ze (Zd a1 l1 y1 a2 l2 y2 a3 l3 y3 a4 l4 y4 a5 l5 y5 c.now) 29 (0,0)))) (λi _=>l5 - (intOf i).toNat);case atStart=>exact⟨0,by omega,rfl,λ_ _ h=>absurd h af,λ_ _ _ h=>absurd h af,HB.out,Bk.out⟩
         case round=>
          obtain⟨k,hk,rfl,HQ,HO,HB,Bk⟩:=hrel;have pk:=ck4 Bk;by_cases Zo:k<l5
          ·have arl:=@G _ @Iy;exact tj
          ·obtain rfl:l5=k:=af
           have HR5:Hid (fk vy Pd.n c.ps 8):=⟨by omega,λj z hz=>HQ.out j z dO hz,λj z u hz hu=>HO.out j z u dO hz hu⟩;go_wp2;go_ret;exact ar.t ⟨HR1.out,HR2.out,HR3.out,HR4.out,HR5.out⟩ HB.out):p:=h
theorem ach(h:p:=by
 obtain⟨HR,hl1,hm1,hl2,hm2,hl3,hm3,hl4,hm4,hl5,hm5⟩:=B1;clear hr;have HKS:=G hks;have HXS:=G hxs;have HVS:=G hvs;clear hks hxs hvs;go_enter Tryz.func57,Tryz.ntmps57;go_wp2;go_loopw [3] (λi wr=> ∃k:Nat,k<=l3/\i=V O k/\Hid (∀(j:Nat) z,j<k->c.vs[j]?=M z->SV c z)/\Hid (Below w.heap.size w wr)/\Hid (wr.heap[w.heap.size]?=M (Ze (Zd a1 l1 y1 a2 l2 y2 a3 l3 y3 a4 l4 y4 a5 l5 y5 c.now) 29 (0,0)))) (λi _=>l3 - (intOf i).toNat);case atStart=>exact⟨0,by omega,rfl,λ_ _ h=>absurd h af,aj _ _,Yf⟩
 case round=>
  obtain⟨k,hk,rfl,HQ,HB,Bk⟩:=hrel;have pk:=ck2 Bk;by_cases Zo:k<l3
  ·have apZ:=@G _ @KR;exact nt
  ·obtain rfl:l3=k:=af
   have HQ1:Hid (∀(j:Nat) z,c.vs[j]?=M z->SV c z):=λj z hz=>HQ.out j z dO hz;have kc:=ck3 Bk;go_wp2;go_loopw [6] (λi wr=> ∃k:Nat,k<=l4/\i=V O k/\Hid (∀(j:Nat) z,j<k->c.xs[j]?=M z->SX c z)/\Hid (Below w.heap.size w wr)/\Hid (wr.heap[w.heap.size]?=M (Ze (Zd a1 l1 y1 a2 l2 y2 a3 l3 y3 a4 l4 y4 a5 l5 y5 c.now) 29 (0,0)))) (λi _=>l4 - (intOf i).toNat);case atStart=>exact⟨0,by omega,rfl,λ_ _ h=>absurd h af,HB.out,Bk.out⟩
   case round=>
    obtain⟨k,hk,rfl,HQ,HB,Bk⟩:=hrel;have pk:=ck3 Bk;by_cases Zo:k<l4
    ·have apt:=@G _ @Hj;exact jX
    ·obtain rfl:l4=k:=af
     have ν:Hid (∀(j:Nat) z,c.xs[j]?=M z->SX c z):=λj z hz=>HQ.out j z dO hz;exact qO):p:=h
theorem bQ(h:p:=by
 have aow:=@G _ @Oh;exact fU):p:=h
theorem abL(h:p:=by
 by_cases e:j=k
 ·subst e;rw[HXx.out] at hz;obtain rfl:=Yd hz;exact⟨⟨i2,kd2,HG1.out,HG2.out⟩,Zk ⟨j3,y,HJ.out,HN.out,HY1.out,HY2.out,HY3.out,HY4.out⟩⟩
 ·exact HQ.out j z af hz):p:=h
theorem abK(h:p:=by
 by_cases e:j=k
 ·subst e;rw[HXv.out] at hz;obtain rfl:=Yd hz;exact⟨⟨i2,kd2,HG1.out,HG2.out⟩,Zl HEm.out⟩
 ·exact HQ.out j z af hz):p:=h
theorem abJ(h:p:=by
 by_cases e:j=k
 ·subst e;rw[HXv.out] at hz;obtain rfl:=Yd hz;exact⟨⟨i2,kd2,HG1.out,HG2.out⟩,Zk ⟨j4,y,HJ.out,HN.out,HVN.out⟩⟩
 ·exact HQ.out j z af hz):p:=h
theorem dI(h:p:=by
 go_wp2_with fail;refine⟨⟨k+1,by omega,by go_num,λj z hj hz=>?_,HB.out,Bk.out⟩,by simp[intOf];omega⟩;exact an3):p:=h
theorem abA(h:p:=by
 have ap0:=@G _ @Io;exact nf):p:=h
theorem abz(h:p:=by
 have ap0:=@G _ @Im;exact nf):p:=h
theorem aby(h:p:=by
 have ZX:=upB HW q1.b;obtain⟨Ck,Br⟩:=nN;clear hne0 HB k0 k1 k2 k3 k4 k5 r0 r1 r2 r3 r4 r5 r6 r7 yw Bk hcv hbv;have anY:=@G _ @NU;exact dS):p:=h
theorem fx(h:p:=by
 have apY:=@G _ @M4;exact nA):p:=h
theorem aa8(h:p:=by
 have aus:=@G _ @SN;exact yK):p:=h
theorem aa7(h:p:=by
 have aus:=@G _ @SM;exact yK):p:=h
theorem qv(h:p:=by
 go_wp2_with fail;refine (bW k _ hk).mono ?_;have apu:=@G _ @Kc;exact j5):p:=h
theorem aa3(h:p:=by
 refine (bW z _ hz).mono ?_;rintro e w1 ⟨r,rfl,hr,rfl⟩;by_cases hq:r=Zi;case neg=>
  exact aiz
 have h2:=G (hr.1 hq);subst hq;clear hr;exact arn):p:=h
theorem aa2(h:p:=by
 refine (vJ c _).mono ?_;have api:=@G _ @TL;exact iI):p:=h
theorem aa1(h:p:=by
 refine (bW k _ hk).mono ?_;have api:=@G _ @TK;exact iI):p:=h
theorem aa0(h:p:=by
 refine (iC z _ hz).mono ?_;have api:=@G _ @TJ;exact iI):p:=h
theorem gu(h:p:=by
 rintro e w1 ⟨r,rfl,hr,rfl⟩;by_cases hq:r=Zi;case neg=>
  exact amE
 have h1:=G (hr.1 hq);subst hq;clear hr;go_wp2_with fail;exact aoV):p:=h
theorem aaI(h:p:=by
 rcases (h.2 k x HXx.out).2 with h2|⟨i,y2,h2,h3,h4⟩
 ·exact HEm.out h2
 ·obtain⟨_,rfl⟩:=HVS.inj h2 HJ.out (h3.trans HN.symm);exact HNo.out h4.1):p:=h
theorem aaH(h:p:=by
 rcases (h.2 k x HXx.out).2 with h2|⟨i,y2,h2,h3,h4⟩
 ·exact HEm.out h2
 ·obtain⟨_,rfl⟩:=HVS.inj h2 HJ.out (h3.trans HN.symm);have h5:=h4.2.1;have h6:=HNo.out;omega):p:=h
theorem aaG(h:p:=by
 rcases (h.2 k x HXx.out).2 with h2|⟨i,y2,h2,h3,h4⟩
 ·exact HEm.out h2
 ·obtain⟨_,rfl⟩:=HVS.inj h2 HJ.out (h3.trans HN.symm);exact HNo.out h4.2.2.1):p:=h
theorem aaF(h:p:=by
 rcases (h.2 k x HXx.out).2 with h2|⟨i,y2,h2,h3,h4⟩
 ·exact HEm.out h2
 ·obtain⟨_,rfl⟩:=HVS.inj h2 HJ.out (h3.trans HN.symm);exact HNo.out h4.2.2.2):p:=h
theorem lT(h:p:=by
 rintro _ ⟨q1,rfl⟩;have Z7:=upB HW q1.b;obtain⟨Ck,Br⟩:=nN;clear hne0 HB k2 r0 r1 r2 r3 r4 v1w v3w v4w v5w Bk pr v1 v3 v4 v5 hbv;have HB:=Z7;have Bk:=Ck;go_wp2;go_ret;refine ar.f (λh=>?_) HB.out;exact aqJ):p:=h
theorem XX(h:p:=by
 clear hne0 HW HB Zv k0 x0 x1 x2 x3 x4 x5 x6 Gk Bk c0 c1 c2 c3 c4 c5 c6 pk;have HB:=ZW;have Bk:=Ck;go_wp2;go_ret;exact ar.f (λh=>ZQ.out (h.1.2.1 k x HXx.out)) HB.out):p:=h
theorem XW(h:p:=by
 clear hne0 HW HB Zv k0 x0 x1 x2 x3 x4 x5 x6 Gk Bk c0 c1 c2 c3 c4 c5 c6 pk;exact vm):p:=h
theorem XV(h:p:=by
 clear hne0 HW HB Zv k0 x0 x1 x2 x3 x4 x5 x6 yw Gk Bk c0 c1 c2 c3 c4 c5 c6 pk y0;have HB:=ZW;have Bk:=Ck;go_wp2;go_ret;refine ar.f (λh=>?_) HB.out;have h3:=h.1.2.2 (k - 1) x y uS HXy.out;rw[Zz] at h3;cases h3):p:=h
theorem XU(h:p:=by
 clear hne0 HW HB Zv k0 x0 x1 x2 x3 x4 x5 x6 yw Gk Bk c0 c1 c2 c3 c4 c5 c6 pk y0;exact vp):p:=h
theorem XT(h:p:=by
 clear hne0 HW HB Zv k1 x0 x1 x2 x3 Gk Bk c0 c1 c2 c3 pk;have HB:=ZW;have Bk:=Ck;go_wp2;go_ret;exact ar.f (λh=>ZQ.out (h.2.1.2.1 k x HXx.out)) HB.out):p:=h
theorem XS(h:p:=by
 clear hne0 HW HB Zv k1 x0 x1 x2 x3 Gk Bk c0 c1 c2 c3 pk;exact vm):p:=h
theorem XR(h:p:=by
 clear hne0 HW HB Zv k1 x0 x1 x2 x3 yw Gk Bk c0 c1 c2 c3 pk y0;have HB:=ZW;have Bk:=Ck;go_wp2;go_ret;refine ar.f (λh=>?_) HB.out;have h3:=h.2.1.2.2 (k - 1) x y uS HXy.out;rw[Zz] at h3;cases h3):p:=h
theorem XQ(h:p:=by
 clear hne0 HW HB Zv k1 x0 x1 x2 x3 yw Gk Bk c0 c1 c2 c3 pk y0;exact vp):p:=h
theorem XP(h:p:=by
 clear hne0 HW HB Zv k2 x0 x1 x2 x3 x4 x5 x6 x7 Gk Bk c0 c1 c2 c3 c4 c5 c6 c7 pk;have HB:=ZW;have Bk:=Ck;go_wp2;go_ret;exact ar.f (λh=>ZQ.out (h.2.2.1.2.1 k x HXx.out)) HB.out):p:=h
theorem XO(h:p:=by
 clear hne0 HW HB Zv k2 x0 x1 x2 x3 x4 x5 x6 x7 Gk Bk c0 c1 c2 c3 c4 c5 c6 c7 pk;exact vm):p:=h
theorem XN(h:p:=by
 clear hne0 HW HB Zv k2 x0 x1 x2 x3 x4 x5 x6 x7 yw Gk Bk c0 c1 c2 c3 c4 c5 c6 c7 pk y0;have HB:=ZW;have Bk:=Ck;go_wp2;go_ret;refine ar.f (λh=>?_) HB.out;have h3:=h.2.2.1.2.2 (k - 1) x y uS HXy.out;rw[Zz] at h3;cases h3):p:=h
theorem XM(h:p:=by
 clear hne0 HW HB Zv k2 x0 x1 x2 x3 x4 x5 x6 x7 yw Gk Bk c0 c1 c2 c3 c4 c5 c6 c7 pk y0;exact vp):p:=h
theorem XL(h:p:=by
 clear hne0 HW HB Zv k3 x0 x1 x2 x3 x4 Gk Bk c0 c1 c2 c3 c4 pk;have HB:=ZW;have Bk:=Ck;go_wp2;go_ret;exact ar.f (λh=>ZQ.out (h.2.2.2.1.2.1 k x HXx.out)) HB.out):p:=h
theorem XK(h:p:=by
 clear hne0 HW HB Zv k3 x0 x1 x2 x3 x4 Gk Bk c0 c1 c2 c3 c4 pk;exact vm):p:=h
theorem XJ(h:p:=by
 clear hne0 HW HB Zv k3 x0 x1 x2 x3 x4 yw Gk Bk c0 c1 c2 c3 c4 pk y0;have HB:=ZW;have Bk:=Ck;go_wp2;go_ret;refine ar.f (λh=>?_) HB.out;have h3:=h.2.2.2.1.2.2 (k - 1) x y uS HXy.out;rw[Zz] at h3;cases h3):p:=h
theorem XI(h:p:=by
 clear hne0 HW HB Zv k3 x0 x1 x2 x3 x4 yw Gk Bk c0 c1 c2 c3 c4 pk y0;exact vp):p:=h
theorem XH(h:p:=by
 clear hne0 HW HB Zv k4 x0 x1 x2 x3 x4 x5 Gk Bk c0 c1 c2 c3 c4 c5 pk;have HB:=ZW;have Bk:=Ck;go_wp2;go_ret;exact ar.f (λh=>ZQ.out (h.2.2.2.2.2.1 k x HXx.out)) HB.out):p:=h
theorem XG(h:p:=by
 clear hne0 HW HB Zv k4 x0 x1 x2 x3 x4 x5 Gk Bk c0 c1 c2 c3 c4 c5 pk;exact vm):p:=h
theorem XF(h:p:=by
 clear hne0 HW HB Zv k4 x0 x1 x2 x3 x4 x5 yw Gk Bk c0 c1 c2 c3 c4 c5 pk y0;have HB:=ZW;have Bk:=Ck;go_wp2;go_ret;refine ar.f (λh=>?_) HB.out;have h3:=h.2.2.2.2.2.2 (k - 1) x y uS HXy.out;rw[Zz] at h3;cases h3):p:=h
theorem XE(h:p:=by
 clear hne0 HW HB Zv k4 x0 x1 x2 x3 x4 x5 yw Gk Bk c0 c1 c2 c3 c4 c5 pk y0;exact vp):p:=h
theorem bP(h:p:=by
 refine wpQuiet_nil ?_;rintro _ ⟨q,rfl⟩;obtain⟨ZW,Ck⟩:=ama;exact τ):p:=h
theorem Xv(h:p:=by
 have Cx:=upK Gx q2.b;have Cy:=upK Gy q2.b;clear hne0 HW HB Zv k2 x3 y3 tw vw Gk Gx Gy Bk Bx By;have HB:=ZX;have Bk:=Ck;have Bx:=Cx;have By:=Cy;go_wp2;go_ret;refine ar.f (λh=>?_) HB.out;rcases h with h|h|h|h
 ·exact HP0.out h
 ·exact HQ1.out h
 ·exact HPQ.out h
 ·exact h k t HXt.out v HD.out HSi.out HIn.out):p:=h
theorem Xu(h:p:=by
 have Cx:=upK Gx q2.b;have Cy:=upK Gy q2.b;clear hne0 HW HB Zv k2 x3 y3 tw vw Gk Gx Gy Bk Bx By;have aro:=@G _ @Ms;exact uk):p:=h
theorem qo(h:p:=by
 have ap1:=@G _ @Mf;exact ny):p:=h
theorem WL(h:p:=by
 by_cases e:j=k
 ·subst e;rw[HXt.out] at hs;obtain rfl:=Yd hs;intro v2 h1 h2;obtain rfl:=aX.inj HX.out HV.out HD.out h1;rw[HSi.out] at h2;cases h2
 ·exact HQ.out j s af hs):p:=h
theorem WK(h:p:=by
 by_cases e:j=k
 ·subst e;rw[HXt.out] at hs;obtain rfl:=Yd hs;intro v2 h1;exact absurd h1 (HD.out v2)
 ·exact HQ.out j s af hs):p:=h
theorem zD(h:p:=by
 have aro:=@G _ @Mr;exact uk):p:=h
theorem WB(h:p:=by
 exact z1z):p:=h
theorem lQ(h:p:=by
 refine cA aW aW ?_;repeat (go_big_quiet_step (first|fail))
 refine wpQuiet_nil ?_;exact aqK):p:=h
theorem Wk(h:p:=by
 exact⟨HB.out,Zl ⟨j2,v,HF1.out,⟨_,_,x,Κ.out,HN1.out,HF1.out,HF2.out⟩,rfl⟩⟩):p:=h
theorem Wj(h:p:=by
 refine⟨HB.out,Zk ⟨λv ⟨i,j2,x2,e1,e2,e3,e5⟩=>?_,rfl⟩⟩;obtain⟨_,rfl⟩:=HX.inj e1 Κ.out (e2.trans HN1.symm);exact HF.out ⟨j2,v,e3,e5⟩):p:=h
theorem zx(h:p:=by
 have aoY:=@G _ @GX;exact h_):p:=h
theorem VP(h:p:=by
 have hl2:c.ks.length=l2:=OH
 have hm2:l2<=9223372036854775807:=Yo hr.k.2.1 hr.k.2.2.1;have aqI:=@G _ @ac5;exact lW):p:=h
theorem zi(h:p:=by
 have HR:=G hr;have hl1:c.ns.length=l1:=by simpa using (show (c.ns.map ndF).length=l1 from hr.n.1)
 have hm1:l1<=9223372036854775807:=Yo hr.n.2.1 hr.n.2.2.1;exact aun):p:=h
theorem VJ(h:p:=by
 have Z4:vs.length=l3:=ef
 clear hr;go_enter Tryz.func113,Tryz.ntmps113;go_wp2;go_loopw [5,6] (λq i wr=> ∃(k:Nat) (s:Int),k<=l3/\q=V O s/\i=V O k/\Hid (s=onOf t (vs.take k))/\0<=s/\s<=k/\Hid (Below w.heap.size w wr)/\Hid (wr.heap[w.heap.size]?=M (Ze (Zd a1 l1 y1 a2 l2 y2 a3 l3 y3 a4 l4 y4 a5 l5 y5 now) 29 (0,0)))) (λ_ i _=>l3 - (intOf i).toNat);case atStart=>exact⟨0,0,by omega,rfl,rfl,rfl,by omega,by omega,aj _ _,Yf⟩
 case round=>
  obtain⟨k,s,hk,rfl,rfl,HS,hs0,hs1,HB,Bk⟩:=hrel;have kk:=ck2 Bk;by_cases Zo:k<l3
  ·obtain⟨b,o,v,rfl,hb,hx,Zc⟩:=bY (HR.below HB.out) Zo;have aoW:=@G _ @aed;exact gA
  ·obtain rfl:l3=k:=af
   exact xB):p:=h
theorem VI(h:p:=by
 have Z4:ps.length=l5:=ef
 have HP:=G hp;clear hr hp;exact aut):p:=h
theorem qf(h:p:=by
 unfold Zs;obtain⟨a1,l1,y1,a2,l2,y2,a3,l3,y3,a4,l4,y4,a5,l5,y5⟩:=d;dsimp only at hr ⊢;have HR:=G hr;exact ard):p:=h
theorem VC(h:p:=by
 exact Yb HR (Yb hl1 (Yb hm1 (Yb hl2 (Yb hm2 (Yb hl3 (Yb hm3 (Yb hl4 (Yb hm4 (Yb hl5 hm5)))))))))):p:=h
theorem za(h:p:=by
 have hl5:c.ps.length=l5:=OG
 have hm5:l5<=9223372036854775807:=Yo hr.p.2.1 hr.p.2.2.1;exact auu):p:=h
theorem Uo(h:p:=by
 obtain⟨r0,r1,r2,r3,r4⟩:=cs5 Br;have aoZ:=ae Br.out;go_wp2_with fail;refine (eB ⟨a1,l1,y1,a2,l2,y2,(M ⟨b3,o3,J⟩),l3,y3,(M ⟨b,o,J⟩),l4,y4,a5,l5,y5⟩ c.now c.ks x.k _ (HR.k.below HB.out) HKS.out HG1.out HG2.out).mono ?_;have ap2:=@G _ @GI;exact mX):p:=h
theorem Un(h:p:=by
 obtain⟨r0,r1,r2,r3,r4⟩:=cs5 Br;have aoZ:=ae Br.out;go_wp2_with fail;refine (oH ⟨a1,l1,y1,a2,l2,y2,a3,l3,y3,(M ⟨b,o,J⟩),l4,y4,a5,l5,y5⟩ c.now c.ks x.k _ (HR.k.below HB.out) (λj y h1 h2=>HKH.out ⟨j,y,h1,h2⟩)).mono ?_;have ap2:=@G _ @GH;exact mX):p:=h
theorem Ul(h:p:=by
 have arp:=@G _ @KX;exact tW):p:=h
theorem Uk(h:p:=by
 have arp:=@G _ @KW;exact tW):p:=h
theorem fu(h:p:=by
 obtain⟨k0,k1,k2,k3,k4,k5⟩:=cs6 Bk;have Α:=ae Bk.out;exact aoF):p:=h
theorem TY(h:p:=by
 have aoj:=@G _ @Gf;exact fe):p:=h
theorem yY(h:p:=by
 have arq:=@G _ @I7;exact tB):p:=h
theorem TL(h:p:=by
 refine (mh s 0 8 _).mono ?_;have apu:=@G _ @Kb;exact j5):p:=h
theorem TK(h:p:=by
 refine (iC v _ hv).mono ?_;exact PE):p:=h
theorem TJ(h:p:=by
 refine (je a len cap zs 3 _ (HR.below (aj _ _))).mono ?_;rintro e w1 ⟨r,rfl,hr,hb⟩;obtain⟨hsl,ZN,-⟩:=fM hb;have HB:Hid (Below w.heap.size w w1):=ZN;by_cases hq:r=Zi;case neg=>
  have HN:=G (λh=>hq (hr.2 h));clear hsl hb ZN hr;go_wp2_with fail;go_ret;exact⟨Zg,rfl,⟨λh=>bJ,λh=>(HN.out h.2.2.2.1).elim⟩,HB.out⟩
 have h3:=G (hr.1 hq);subst hq;have hc4:=ck4 hsl;have hc5:=ck5 hsl;clear hr hsl hb ZN;go_wp2_with fail;refine (mh p 0 2 _).mono ?_;rintro e w2 ⟨r,rfl,hr,rfl⟩;by_cases hq:r=Zi;case neg=>
  have HN:=G (λh=>hq (hr.2 h));clear hr;go_wp2_with fail;go_ret;exact⟨Zg,rfl,⟨λh=>bJ,λh=>absurd h.2.2.2.2 (rP (by have h9:¬(0<=p/\p<=2):=HN.out;omega))⟩,HB.out⟩
 have h4:=hr.1 hq;subst hq;clear hr;by_cases hp:p=0
 ·subst hp;go_wp2_with fail;go_ret;exact⟨_,rfl,⟨λh=>⟨h0.out,h1.out,h2.out,h3.out,(fZ d).2 ((eP d).1 h)⟩,λh=>(eP d).2 ((fZ d).1 h.2.2.2.2)⟩,HB.out⟩
 have hq:(p==0)=Zg:=by simp[hp]
 have hp2:p=1\/p=2:=by unfold Inn at h4;omega
 go_wp2_with fail;refine (bW d _ hd).mono ?_;rintro e w2 ⟨r,rfl,hr,rfl⟩;go_wp2_with fail;go_ret;exact⟨r,rfl,⟨λh=>⟨h0.out,h1.out,h2.out,h3.out,(jC d hp2).2 (hr.1 h)⟩,λh=>hr.2 ((jC d hp2).1 h.2.2.2.2)⟩,HB.out⟩):p:=h
theorem iI(h:p:=by
 rintro e w1 ⟨r,rfl,hr,rfl⟩;by_cases hq:r=Zi;case neg=>
  exact aiz
 have h2:=G (hr.1 hq);subst hq;clear hr;go_wp2_with fail;exact api):p:=h
theorem Ty(h:p:=by
 have Zw:=@G _ @ajE;exact aB):p:=h
theorem Tx(h:p:=by
 have Zw:=@G _ @ajD;exact aB):p:=h
theorem yU(h:p:=by
 have Gk:Hid (wr.heap[w.heap.size]?=M (Ze (Zd a1 l1 y1 a2 l2 y2 a3 l3 y3 a4 l4 y4 (M ⟨b,o,J⟩) l5 y5 c.now) 29 (0,0))):=Bk.out;have ap3:=@G _ @De;exact mG):p:=h
theorem Tw(h:p:=by
 replace HB:=upB HB Zr;clear ZG Zr ZD;clear pk hb c0 c1 c2 c3 c4 c5 c6 c7;by_cases hkh:ahm c v.k;rotate_left
 ·have HKH:=G hkh;clear hkh;have apv:=@G _ @H8;exact jY
 have ars:=@G _ @Dt;exact sj):p:=h
theorem pZ(h:p:=by
 have ap4:=@G _ @Hb;exact mZ):p:=h
theorem Tb(h:p:=by
 have Zw:=@G _ @ajI;exact aB):p:=h
theorem Ta(h:p:=by
 have Zw:=@G _ @ajH;exact aB):p:=h
theorem yQ(h:p:=by
 have Gk:Hid (wr.heap[w.heap.size]?=M (Ze (Zd a1 l1 y1 a2 l2 y2 a3 l3 y3 (M ⟨b,o,J⟩) l4 y4 a5 l5 y5 c.now) 29 (0,0))):=Bk.out;obtain⟨HW,k3⟩:=uV;obtain⟨x0,x1,x2,x3,x4⟩:=qK;obtain⟨yw,hne0⟩:=uW;have Zv:=G (λq:Wd wr=>(gg x.n x.z x.k x.x x.v q.w anh.out apg.out apw.out).mono (λ_ _ h=>ar.yes h ZQ.out));exact auv):p:=h
theorem S_(h:p:=by
 have art:=@G _ @Fg;exact sH):p:=h
theorem lO(h:p:=by
 repeat (go_big_quiet_step (first|(go_at_call 37;exact Calls.wide (Zv.out _))|fail))
 refine wpQuiet_nil ?_;rintro _ ⟨q1,rfl⟩;exact aqL):p:=h
theorem SS(h:p:=by
 have Zw:=@G _ @ajM;exact aB):p:=h
theorem SQ(h:p:=by
 have Zw:=@G _ @ajL;exact aB):p:=h
theorem yM(h:p:=by
 obtain⟨Gk,HW,k2⟩:=aky;obtain⟨x0,x1,x2,x3,x4⟩:=qK;obtain⟨x5,x6⟩:=uX;have x7:=λq:Wd wr=>(q.cell hb).trans c7;obtain⟨yw,hne0⟩:=uW;have aru:=@G _ @IL;exact tq):p:=h
theorem SN(h:p:=by
 cases x
 ·go_wp2_with fail;go_ret;exact⟨Zi,rfl,⟨λ_=>⟨h0.out,h1.out,h2.out,h3.out,h4.out,HY.out,by simpa using h6.out⟩,λ_=>rfl⟩,HB.out⟩
 ·go_wp2_with fail;go_ret;refine⟨_,rfl,⟨λh=>⟨h0.out,h1.out,h2.out,h3.out,h4.out,HY.out,?_,h6.2⟩,λh=>?_⟩,HB.out⟩
  ·simp at h ⊢;omega
  ·have:=h.2.2.2.2.2.2.1;simp at this ⊢;omega):p:=h
theorem SM(h:p:=by
 cases x
 ·go_wp2_with fail;go_ret;exact⟨Zi,rfl,⟨λ_=>⟨h0.out,h1.out,h2.out,h3.out,h4.out,(λ_=>rfl),by simpa using h6.out⟩,λ_=>rfl⟩,HB.out⟩
 ·go_wp2_with fail;go_ret;refine⟨_,rfl,⟨λh=>⟨h0.out,h1.out,h2.out,h3.out,h4.out,(λ_=>rfl),?_,h6.2⟩,λh=>?_⟩,HB.out⟩
  ·simp at h ⊢;omega
  ·have:=h.2.2.2.2.2.2.1;simp at this ⊢;omega):p:=h
theorem yK(h:p:=by
 go_wp2_with fail;refine (je a len cap zs 6 _ (HR.below (aj _ _))).mono ?_;rintro e w1 ⟨r,rfl,hr,hb⟩;obtain⟨hsl,ZN,-⟩:=fM hb;have HB:Hid (Below w.heap.size w w1):=ZN;by_cases hq:r=Zi;case neg=>
  exact ak5
 have h6:=G (hr.1 hq);subst hq;have hc4:=ck4 hsl;have hc7:=ck7 hsl;clear hr hsl hb ZN;exact aus):p:=h
theorem Oo(h:p:=by
 have Zw:=@G _ @ajQ;exact aB):p:=h
theorem On(h:p:=by
 have Zw:=@G _ @ajP;exact aB):p:=h
theorem uN(h:p:=by
 have Gk:Hid (wr.heap[w.heap.size]?=M (Ze (Zd a1 l1 y1 (M ⟨b,o,J⟩) l2 y2 a3 l3 y3 a4 l4 y4 a5 l5 y5 c.now) 29 (0,0))):=Bk.out;obtain⟨HW,k1,x0,x1,x2,x3⟩:=OU;obtain⟨yw,hne0⟩:=uW;have Zv:=G (λq:Wd wr=>(jf x.n x.z x.x x.y q.w anh.out aq0.out).mono (λ_ _ h=>ar.yes h ZQ.out));exact arj):p:=h
theorem Oh(h:p:=by
 exact υ):p:=h
theorem fU(h:p:=by
 unfold Zs;obtain⟨a1,l1,y1,a2,l2,y2,a3,l3,y3,a4,l4,y4,a5,l5,y5⟩:=d;dsimp only;exact aow):p:=h
theorem Ob(h:p:=by
 rcases hf with ⟨j,x,hx,hn,rfl⟩|⟨hh,rfl⟩;rotate_left
 ·have HH:=G hh;clear hh;obtain⟨k0,k1,k2,k3,k4,k5⟩:=cs6 Bk;go_wp2;go_ret;exact⟨HB.out,Zk ⟨λv ⟨i,j,x,e1,e2,_⟩=>HH.out i x e1 e2,rfl⟩⟩
 have hj:j<l4:=by have h1:=(Yc.1 hx).1;omega
 obtain⟨b,o,y,rfl,hbb,hy,Zc⟩:=dB HR.x hj;rw[hx] at hy;obtain rfl:=Yd hy;obtain⟨z0,z2,z4,c0,c1,c2,c3,c4⟩:=bD Zc;have Κ:=G hx;have HN1:=G hn;have e4:=(ah HB.out hbb).trans c4;have ZN:=Yl hbb HB.size;have hj0:(0:Int)<=j:=af
 clear hx hn hy Zc z0 z2 z4 c0 c1 c2 c3;by_cases he:x.v=⟨#[]⟩
 ·have hq:=cw he;have HEm:=G he;clear he;obtain⟨k0,k1,k2,k3,k4,k5⟩:=cs6 Bk;go_wp2;go_ret;refine⟨HB.out,Zk ⟨λv ⟨i,j2,x2,e1,e2,e3,e5⟩=>?_,rfl⟩⟩;obtain⟨_,rfl⟩:=HX.inj e1 Κ.out (e2.trans HN1.symm);exact HNE.out j2 v e3 (e5.trans HEm.out)
 ·have hq:=aU he;have HEm:=G he;clear he;obtain⟨k0,k1,k2,k3,k4,k5⟩:=cs6 Bk;go_wp2_with fail;by_cases hf:∃(j2:Nat) (v:Vd),c.vs[j2]?=M v/\v.n=x.v
  ·obtain⟨j2,v,h1,h2⟩:=hf;have HF1:=G h1;have HF2:=G h2;clear h1 h2;clear k0 k1 k2 k3 k4 k5;have Gk:=Bk;have HW:=HB;have k0:=λq:Wd w1=>q.slot (o:=0) Gk.out rfl;have k1:=λq:Wd w1=>q.slot (o:=1) Gk.out rfl;have k2:=λq:Wd w1=>q.slot (o:=2) Gk.out rfl;have k3:=λq:Wd w1=>q.slot (o:=3) Gk.out rfl;have k4:=λq:Wd w1=>q.slot (o:=4) Gk.out rfl;have k5:=λq:Wd w1=>q.slot (o:=5) Gk.out rfl;have e4w:=λq:Wd w1=>(q.cell ZN).trans e4;have hne0:=Wd.ne w1;have Zv:=G (λq:Wd w1=>eA ⟨a1,l1,y1,a2,l2,y2,a3,l3,y3,(M ⟨b,o,J⟩),l4,y4,a5,l5,y5⟩ c.now c.vs x.v q.w (HR.v.below (HW.trans (q.b.mono HW.size))) HV.out HF1.out HF2.out);have Zw:=@G _ @aj0;exact aB
  ·have HF:=G hf;clear hf;clear k0 k1 k2 k3 k4 k5;have Gk:=Bk;have HW:=HB;obtain⟨k0,k1,k2,k3,k4,k5⟩:=sl6 Gk;have e4w:=λq:Wd w1=>(q.cell ZN).trans e4;have hne0:=Wd.ne w1;have Zv:=G (λq:Wd w1=>iD ⟨a1,l1,y1,a2,l2,y2,a3,l3,y3,(M ⟨b,o,J⟩),l4,y4,a5,l5,y5⟩ c.now c.vs x.v q.w (HR.v.below (HW.trans (q.b.mono HW.size))) (λj2 v h1 h2=>HF.out ⟨j2,v,h1,h2⟩));have Zw:=@G _ @ajZ;exact aB):p:=h
theorem fT(h:p:=by
 obtain⟨ZD,Zr⟩:=aY hb;have Bk:=G ZD;replace HB:=upB HB Zr;clear hb Zr ZD;exact aov):p:=h
theorem NX(h:p:=by
 have Zw:=@G _ @ajU;exact aB):p:=h
theorem NW(h:p:=by
 have Zw:=@G _ @ajT;exact aB):p:=h
theorem uH(h:p:=by
 obtain⟨Gk,HW,k0⟩:=akz;obtain⟨x0,x1,x2,x3,x4⟩:=qK;obtain⟨x5,x6⟩:=uX;obtain⟨yw,hne0⟩:=uW;have arh:=@G _ @Ih;exact td):p:=h
theorem NV(h:p:=by
 rcases (h.1 k v HXv.out).2 with h2|⟨i,y,h2,h3,_⟩
 ·exact HEm.out h2
 ·exact HH.out i y h2 h3):p:=h
theorem NU(h:p:=by
 rcases (h.1 k v HXv.out).2 with h2|⟨i,y2,h2,h3,h4⟩
 ·exact HEm.out h2
 ·obtain⟨_,rfl⟩:=HXS.inj h2 HJ.out (h3.trans HN.symm);exact HVN.out h4):p:=h
theorem dS(h:p:=by
 have HB:=ZX;have Bk:=Ck;go_wp2;go_ret;refine ar.f (λh=>?_) HB.out;exact anY):p:=h
theorem M6(h:p:=by
 have ap0:=@G _ @Il;exact nf):p:=h
theorem M5(h:p:=by
 have ZX:=upB HW q1.b;obtain⟨Ck,Br⟩:=nN;clear hne0 HB k0 k1 k2 k3 k4 k5 r0 r1 r2 r3 r4 r5 r6 r7 yw Bk hcv hbv;have HB:=ZX;have Bk:=Ck;have an3:=@G _ @abJ;exact dI):p:=h
theorem M4(h:p:=by
 exact aoD):p:=h
theorem nA(h:p:=by
 repeat (go_big_quiet_step (first|(go_at_call 34;exact Calls.wide (Zv.out _))|fail))
 refine wpQuiet_nil ?_;rintro _ ⟨q1,rfl⟩;exact apY):p:=h
theorem MA(h:p:=by
 have Zv:=G (λq:Wd wr=>(jB x.n x.c x.z x.k x.x x.m x.y va vl vc x.zs q.w anh.out apg.out aq0.out awD.out (HTx.below q.b)).mono (λ_ _ h=>ar.no h ZQ.out));have Zw:=@G _ @ajO;exact aB):p:=h
theorem Mz(h:p:=by
 have aru:=@G _ @IK;exact tq):p:=h
theorem ur(h:p:=by
 have HW:=HB;have k2:=λq:Wd wr=>q.slot (o:=2) Gk.out rfl;obtain⟨x0,x1,x2,x3,x4⟩:=qK;obtain⟨x5,x6⟩:=uX;have x7:=λq:Wd wr=>(q.cell hb).trans c7;have hne0:=Wd.ne wr;exact arv):p:=h
theorem Ms(h:p:=by
 by_cases e:j=k
 ·subst e;rw[HXt.out] at hs;obtain rfl:=Yd hs;intro v2 h1 h2;exact HIn.out
 ·exact HQ.out j s af hs):p:=h
theorem Mr(h:p:=by
 exact aup):p:=h
theorem uk(h:p:=by
 have HB:=ZX;have Bk:=Ck;have Bx:=Cx;have By:=Cy;go_wp2_with fail;refine⟨⟨k+1,by omega,by go_num,λj s hj hs=>?_,HB.out,Bk.out,Bx.out,By.out⟩,by simp[intOf];omega⟩;exact aro):p:=h
theorem Mf(h:p:=by
 rintro _ ⟨q2,rfl⟩;obtain⟨ZX,Ck⟩:=i_;exact aq9):p:=h
theorem ny(h:p:=by
 repeat (go_big_quiet_step (first|(go_at_call 114;exact Calls.wide (Zv.out _))|fail))
 refine wpQuiet_nil ?_;exact ap1):p:=h
theorem L3(h:p:=by
 have auu:=@G _ @VC;exact za):p:=h
theorem t_(h:p:=by
 have hl4:c.xs.length=l4:=by simpa using (show (c.xs.map xdF).length=l4 from hr.x.1)
 have hm4:l4<=9223372036854775807:=Yo hr.x.2.1 hr.x.2.2.1;exact arc):p:=h
theorem LD(h:p:=by
 have z1z:=@G _ @alX;exact bF):p:=h
theorem LC(h:p:=by
 have z1z:=@G _ @alV;exact bF):p:=h
theorem LB(h:p:=by
 have z1z:=@G _ @alU;exact bF):p:=h
theorem LA(h:p:=by
 have z1z:=@G _ @alT;exact bF):p:=h
theorem Lz(h:p:=by
 have z1z:=@G _ @alS;exact bF):p:=h
theorem ic(h:p:=by
 obtain⟨Gk,Gr,HW⟩:=AU;have k2:=λq:Wd w2=>q.slot (o:=2) Gk.out rfl;obtain⟨r0,r1,r2,r3,r4⟩:=sl5 Gr;obtain⟨v1w,v3w,v4w,v5w,hne0⟩:=amh;exact ao0):p:=h
theorem Lk(h:p:=by
 exact Zw):p:=h
theorem Lj(h:p:=by
 have aqL:=@G _ @S_;exact lO):p:=h
theorem Li(h:p:=by
 repeat (go_big_quiet_step (first|(go_at_call 37;exact Calls.wide (Zv.out _))|fail))
 refine wpQuiet_nil ?_;rintro _ ⟨q1,rfl⟩;have art:=@G _ @Ff;exact sH):p:=h
theorem b_(h:p:=by
 go_wp2_with fail;refine cA aW aW ?_;exact ο):p:=h
theorem KX(h:p:=by
 have anZ:=@G _ @FM;exact dQ):p:=h
theorem KW(h:p:=by
 have pr:=ck4 Br;obtain⟨Gk,Gr,HW⟩:=AU;have k2:=λq:Wd w2=>q.slot (o:=2) Gk.out rfl;obtain⟨r0,r1,r2,r3,r4⟩:=sl5 Gr;have hne0:=Wd.ne w2;have z1z:=@G _ @alW;exact bF):p:=h
theorem tW(h:p:=by
 obtain⟨r0,r1,r2,r3,r4⟩:=cs5 Br;have aoZ:=ae Br.out;go_wp2_with fail;refine (eB ⟨a1,l1,y1,a2,l2,y2,a3,l3,y3,(M ⟨b,o,J⟩),l4,y4,a5,l5,y5⟩ c.now c.ks x.k _ (HR.k.below HB.out) HKS.out HG1.out HG2.out).mono ?_;have ap2:=@G _ @GG;exact mX):p:=h
theorem KR(h:p:=by
 have HTv:=G Zx;have ay6:=G z0;have ay7:=G z2;have ay8:=G z3;have ay9:=G z5;clear Zc hx z0 z2 z3 z5 Zx;have an5:=@G _ @DN;exact eC):p:=h
theorem nt(h:p:=by
 obtain⟨b,o,v,rfl,hb,hx,Zc⟩:=bY (HR.v.below HB.out) Zo;have aoj:=@G _ @Ge;exact fe):p:=h
theorem KH(h:p:=by
 refine (jy ⟨a1,l1,y1,a2,l2,y2,a3,l3,y3,(M ⟨b,o,J⟩),l4,y4,a5,l5,y5⟩ c.now c.vs x.v _ (HR.v.below (HB.trans ((aj _ _).mono HB.size)))).mono ?_;rintro e w1 ⟨ZG,hf⟩;clear k0 k1 k2 k3 k4 k5 aqM;obtain⟨ZD,Zr⟩:=aY ZG;replace Bk:=upK Bk Zr;have Br:=G ZD;replace HB:=upB HB Zr;clear ZG Zr ZD;clear pk hb c0 c1 c2 c3 c4;by_cases hkh:ahm c x.k;rotate_left
 ·have HKH:=G hkh;clear hkh;have apv:=@G _ @Hy;exact jY
 have ars:=@G _ @Dq;exact sj):p:=h
theorem fR(h:p:=by
 have an5:=@G _ @DM;exact eC):p:=h
theorem Kc(h:p:=by
 refine (iC _ _ hm).mono ?_;have ap5:=@G _ @Fw;exact mQ):p:=h
theorem Kb(h:p:=by
 refine (pt u _).mono ?_;have ap5:=@G _ @Fu;exact mQ):p:=h
theorem j5(h:p:=by
 rintro e w1 ⟨r,rfl,hr,rfl⟩;by_cases hq:r=Zi;case neg=>
  exact amB
 have h3:=G (hr.1 hq);subst hq;clear hr;go_wp2_with fail;exact apu):p:=h
theorem J7(h:p:=by
 have hne0:=Wd.ne w1;have Zv:=G (λq:Wd w1=>oH ⟨a1,l1,y1,a2,l2,y2,(M ⟨b,o,J⟩),l3,y3,a4,l4,y4,a5,l5,y5⟩ c.now c.ks v.k q.w (HR.k.below (HW.trans (q.b.mono HW.size))) (λj y h1 h2=>HKH.out ⟨j,y,h1,h2⟩));have Zw:=@G _ @ajC;exact aB):p:=h
theorem J6(h:p:=by
 obtain⟨hne0,Zv⟩:=O6;have Zw:=@G _ @ajB;exact aB):p:=h
theorem J5(h:p:=by
 obtain⟨hne0,Zv⟩:=O6;have Zw:=@G _ @ajA;exact aB):p:=h
theorem J4(h:p:=by
 obtain⟨yw,hne0,Zv⟩:=ahI;have Zw:=@G _ @ajz;exact aB):p:=h
theorem J3(h:p:=by
 obtain⟨yw,hne0,Zv⟩:=ahI;have Zw:=@G _ @ajy;exact aB):p:=h
theorem ib(h:p:=by
 have an0:=@G _ @EJ;exact dP):p:=h
theorem I7(h:p:=by
 exact aur):p:=h
theorem tB(h:p:=by
 obtain⟨j3,hj3⟩:=ω.at;have arw:j3<l3:=by have h1:=(Yc.1 hj3).1;omega
 obtain⟨b3,o3,v',rfl,Zy,hv',Zc⟩:=bY HR.v arw;rw[hj3] at hv';obtain rfl:=Yd hv';exact arq):p:=h
theorem I5(h:p:=by
 have tw:=λq:Wd q1.w=>(q.cell axG).trans axH;have vw:=λq:Wd q1.w=>(q.cell axI).trans avV;have hne0:=Wd.ne q1.w;exact Yb Gk (Yb Gx (Yb Gy (Yb HW (Yb k2 (Yb x3 (Yb y3 (Yb tw (Yb vw hne0))))))))):p:=h
theorem I4(h:p:=by
 have hne0:=Wd.ne q1.w;have z1z:=@G _ @alY;exact bF):p:=h
theorem tA(h:p:=by
 have Gk:=Bk;have Gx:=Bx;have Gy:=By;have HW:=HB;have k2:=λq:Wd q1.w=>q.slot (o:=2) Gk.out rfl;have x3:=λq:Wd q1.w=>q.slot (o:=3) Gx.out rfl;have y3:=λq:Wd q1.w=>q.slot (o:=3) Gy.out rfl;exact aq8):p:=h
theorem IT(h:p:=by
 have apg:=G z2;have aq0:=G z3;have awD:=G z5;clear Zc hx z0 z2 z3 z5 Zx;by_cases ξ:rM x;rotate_left
 ·have ZQ:=G ξ;clear ξ;have Gk:=Bk;have arv:=@G _ @MA;exact ur
 have ZQ:=G ξ;clear ξ;by_cases hk0:0<k;rotate_left
 ·obtain⟨hd,Gk⟩:=nO;have arv:=@G _ @Mz;exact ur
 have ek:((k:Int) - 1).toNat=k - 1:=af
 obtain⟨b',o',y,e',χ,hy,apf⟩:=bY (HR.v.below HB.out) (show k - 1<l3 by omega);cases e';have y0:wr.cell? ⟨b,o+(k - 1)*8,J⟩=M (I y.n):=by
  exact nR
 have HXy:=G hy;clear hy apf;cases Zz:Yk y.n.toList x.n.toList
 ·have auw:=@G _ @SS;exact yM
 ·have auw:=@G _ @SQ;exact yM):p:=h
theorem tu(h:p:=by
 obtain⟨b,o,x,rfl,hb,hx,Zc⟩:=bY (HR.v.below HB.out) Zo;have aoj:=@G _ @Gc;exact fe):p:=h
theorem IL(h:p:=by
 exact auw):p:=h
theorem IK(h:p:=by
 have Zw:=@G _ @ajN;exact aB):p:=h
theorem tq(h:p:=by
 have Zv:=G (λq:Wd wr=>(jB x.n x.c x.z x.k x.x x.m x.y va vl vc x.zs q.w anh.out apg.out aq0.out awD.out (HTx.below q.b)).mono (λ_ _ h=>ar.yes h ZQ.out));exact aru):p:=h
theorem IF(h:p:=by
 have hpc:=HP.out k p hx;clear Zc hx z0 z2 z4 Zx;by_cases hn:p.d=t
 ·have hq:=aP hn;have HN:=G hn;clear hn;go_wp2;refine⟨⟨k+1,s+p.c,by omega,by go_num,by go_num,?_,by omega,by omega,by first|rfl|trivial⟩,by simp[intOf];omega⟩;show _=_;rw[gH HX.out,if_pos HN.out,<-HS.out]
 ·have hq:=bu hn;have HN:=G hn;clear hn;go_wp2;refine⟨⟨k+1,s,by omega,rfl,by go_num,?_,by omega,by omega,by first|rfl|trivial⟩,by simp[intOf];omega⟩;show _=_;rw[gH HX.out,if_neg HN.out,<-HS.out,Int.add_zero]):p:=h
theorem ia(h:p:=by
 obtain⟨va,vl,vc,Zx,z0,z2,z4,c0,c1,c2,c3,c4,c5⟩:=bK Zc;have HX:=G hx;exact aoX):p:=h
theorem Iy(h:p:=by
 have anh:=G z0;have apg:=G z2;have apw:=G z4;clear Zc hx z0 z2 z4 Zx;by_cases ξ:vy x;rotate_left
 ·have ZQ:=G ξ;clear ξ;have Gk:=Bk;have ap3:=@G _ @Dd;exact mG
 have ZQ:=G ξ;clear ξ;by_cases hk0:0<k;rotate_left
 ·obtain⟨hd,Gk⟩:=nO;have ap3:=@G _ @Dc;exact mG
 have ek:((k:Int) - 1).toNat=k - 1:=af
 obtain⟨b',o',y,e',χ,hy,apf⟩:=db (HR.p.below HB.out) (show k - 1<l5 by omega);cases e';have y0:wr.cell? ⟨b,o+(k - 1)*6,J⟩=M (I y.n):=by
  exact nR
 have HXy:=G hy;clear hy apf;cases Zz:Yk y.n.toList x.n.toList
 ·have auy:=@G _ @Ty;exact yU
 ·have auy:=@G _ @Tx;exact yU):p:=h
theorem tj(h:p:=by
 obtain⟨b,o,x,rfl,hb,hx,Zc⟩:=db (HR.p.below HB.out) Zo;obtain⟨va,vl,vc,Zx,z0,z2,z4,c0,c1,c2,c3,c4,c5⟩:=bK Zc;have HXx:=G hx;have HTx:=G Zx;exact arl):p:=h
theorem Io(h:p:=by
 have HB:=ZX;have Bk:=Ck;go_wp2;go_ret;exact ar.f (λh=>HKH.out (h.1 k v HXv.out).1) HB.out):p:=h
theorem Im(h:p:=by
 have anY:=@G _ @NV;exact dS):p:=h
theorem Il(h:p:=by
 have HB:=ZX;have Bk:=Ck;have an3:=@G _ @abK;exact dI):p:=h
theorem nf(h:p:=by
 have ZX:=upB HW q1.b;obtain⟨Ck,Br⟩:=nN;clear hne0 HB k0 k1 k2 k3 k4 k5 r0 r1 r2 r3 r4 r5 r6 r7 Bk;exact ap0):p:=h
theorem Ii(h:p:=by
 have Zw:=@G _ @ajV;exact aB):p:=h
theorem Ih(h:p:=by
 exact ari):p:=h
theorem td(h:p:=by
 have Zv:=G (λq:Wd wr=>(oL x.n x.z x.c x.s x.u x.d va vl vc x.zs q.w anh.out awC.out (HTx.below q.b)).mono (λ_ _ h=>ar.yes h ZQ.out));exact arh):p:=h
theorem H8(h:p:=by
 have ao1:=@G _ @J7;exact ib):p:=h
theorem Hz(h:p:=by
 have ao1:=@G _ @J6;exact ib):p:=h
theorem Hy(h:p:=by
 have aoF:=@G _ @Un;exact fu):p:=h
theorem Hx(h:p:=by
 have aoF:=@G _ @Ul;exact fu):p:=h
theorem jY(h:p:=by
 obtain⟨r,hre⟩:∃r:Int,e=Zh (V O r):=by rcases hf with ⟨j,y,_,_,h⟩|⟨_,h⟩ <;> exact⟨_,h⟩
 subst hre;clear hf;exact apv):p:=h
theorem Hk(h:p:=by
 have anh:=G z0;have apg:=G z2;have apw:=G z4;clear Zc hx z0 z2 z4;by_cases ξ:gX x;rotate_left
 ·have ZQ:=G ξ;clear ξ;have Gk:=Bk;obtain⟨HW,k3⟩:=uV;obtain⟨x0,x1,x2,x3,x4⟩:=qK;have hne0:=Wd.ne wr;have Zv:=G (λq:Wd wr=>(gg x.n x.z x.k x.x x.v q.w anh.out apg.out apw.out).mono (λ_ _ h=>ar.no h ZQ.out));have Zw:=@G _ @ajK;exact aB
 have ZQ:=G ξ;clear ξ;by_cases hk0:0<k;rotate_left
 ·obtain⟨hd,Gk⟩:=nO;obtain⟨HW,k3⟩:=uV;obtain⟨x0,x1,x2,x3,x4⟩:=qK;have hne0:=Wd.ne wr;have Zv:=G (λq:Wd wr=>(gg x.n x.z x.k x.x x.v q.w anh.out apg.out apw.out).mono (λ_ _ h=>ar.yes h ZQ.out));have Zw:=@G _ @ajJ;exact aB
 have ek:((k:Int) - 1).toNat=k - 1:=af
 obtain⟨b',o',y,e',χ,hy,apf⟩:=dB (HR.x.below HB.out) (show k - 1<l4 by omega);cases e';have y0:wr.cell? ⟨b,o+(k - 1)*5,J⟩=M (I y.n):=by
  exact nR
 have HXy:=G hy;clear hy apf;cases Zz:Yk y.n.toList x.n.toList
 ·have auv:=@G _ @Tb;exact yQ
 ·have auv:=@G _ @Ta;exact yQ):p:=h
theorem Hj(h:p:=by
 have anh:=G z0;have apg:=G z2;have apw:=G z4;clear Zc hx z0 z2 z4;have aox:=@G _ @KH;exact fR):p:=h
theorem jX(h:p:=by
 obtain⟨b,o,x,rfl,hb,hx,Zc⟩:=dB (HR.x.below HB.out) Zo;obtain⟨z0,z2,z4,c0,c1,c2,c3,c4⟩:=bD Zc;have HXx:=G hx;exact apt):p:=h
theorem Hb(h:p:=by
 exact arx):p:=h
theorem mZ(h:p:=by
 rintro e w1 ⟨ZG,hf⟩;clear k0 k1 k2 k3 k4 k5 aqM;obtain⟨ZD,Zr⟩:=aY ZG;replace Bk:=upK Bk Zr;have Br:=G ZD;exact ap4):p:=h
theorem GX(h:p:=by
 rintro _ ⟨q,rfl⟩;have HB:=upB HW q.b;have Bk:=upK Gk q.b;clear hne0 k0 k1 k2 k3 k4 k5 e4w;go_wp2_with fail;go_ret;exact auq):p:=h
theorem h_(h:p:=by
 repeat (go_big_quiet_step (first|(go_at_call 64;exact Calls.wide (Zv.out _))|fail))
 refine wpQuiet_nil ?_;exact aoY):p:=h
theorem GI(h:p:=by
 have pr:=ck4 Br;have hbv:=Yl Z7.out HB.size;have v1:=(ah HB.out Z7.out).trans μ.out;have v3:=(ah HB.out Z7.out).trans HC3.out;have v4:=(ah HB.out Z7.out).trans HC4.out;have v5:=(ah HB.out Z7.out).trans HC5.out;by_cases ε:y.m=x.n;rotate_left
 ·have HNo:=G ε;clear ε;have n1:=bu HNo.out;have ao0:=@G _ @LC;exact ic
 have HY1:=G ε;have q1:=aP ε;clear ε;by_cases ε:x.z<=y.c;rotate_left
 ·have HNo:=G ε;clear ε;have n1:y.c<x.z:=by have:=HNo.out;omega
  have ao0:=@G _ @LB;exact ic
 have HY2:=G ε;have q2:decide (y.c<x.z)=Zg:=by simp;omega
 clear ε;by_cases ε:y.k=x.k;rotate_left
 ·have HNo:=G ε;clear ε;have n1:=bu HNo.out;have ao0:=@G _ @LA;exact ic
 have HY3:=G ε;have q3:=aP ε;clear ε;by_cases ε:y.x=x.x;rotate_left
 ·have HNo:=G ε;clear ε;have n1:(y.x==x.x)=Zg:=by simpa using HNo.out
  have ao0:=@G _ @Lz;exact ic
 have HY4:=G ε;have q4:(y.x==x.x)=Zi:=by simpa using ε
 clear ε;have ao0:=@G _ @LD;exact ic):p:=h
theorem GH(h:p:=by
 go_wp2;go_ret;exact ar.f (λh=>HKH.out (h.2 k x HXx.out).1) HB.out):p:=h
theorem GG(h:p:=by
 exact arp):p:=h
theorem mX(h:p:=by
 rintro e w2 ⟨rfl,Zy⟩;clear k0 k1 k2 k3 k4 k5 Α r0 r1 r2 r3 r4 aoZ;replace Bk:=upK Bk Zy;replace Br:=upK Br Zy;replace HB:=upB HB Zy;clear Zy;exact ap2):p:=h
theorem Gf(h:p:=by
 have HJ:=G hj3;have HD:=G ω;have hcv:=(ah HB.out Zy).trans c4;have hbv:=Yl Zy HB.size;have hj0:(0:Int)<=j3:=af
 clear hv' Zc Zx z0 z2 z3 z5 c0 c1 c2 c3 c4 c5 c6 c7 hj3 ω;have Gk:=Bk;have Gx:=Bx;have Gy:=By;have HW:=HB;obtain⟨k0,k1,k2,k3,k4,k5⟩:=sl6 Gk;have x3:=λq:Wd wr=>q.slot (o:=3) Gx.out rfl;have tw:=λq:Wd wr=>(q.cell δ).trans hcw;have hne0:=Wd.ne wr;have Zv:=G (λq:Wd wr=>fN ⟨a1,l1,y1,a2,l2,y2,(M ⟨b3,o3,J⟩),l3,y3,a4,l4,y4,a5,l5,y5⟩ c t q.w (HR.below (HW.trans (q.b.mono HW.size))) HX.out HV.out HNE.out HJ.out HD.out);have ο:=@G _ @Li;exact b_):p:=h
theorem Ge(h:p:=by
 have HXv:=G hx;exact apZ):p:=h
theorem Gc(h:p:=by
 have HXx:=G hx;have HTx:=G Zx;have anh:=G z0;exact ark):p:=h
theorem fe(h:p:=by
 obtain⟨va,vl,vc,Zx,z0,z2,z3,z5,c0,c1,c2,c3,c4,c5,c6,c7⟩:=bm Zc;exact aoj):p:=h
theorem FM(h:p:=by
 obtain⟨r0,r1,r2,r3,r4⟩:=cs5 Br;have aog:=ae Br.out;go_wp2_with fail;refine⟨⟨k+1,by omega,by go_num,λj z hj hz=>?_,HB.out,Bk.out⟩,by simp[intOf];omega⟩;by_cases e:j=k
 ·subst e;rw[HXx.out] at hz;obtain rfl:=Yd hz;exact⟨⟨i2,kd2,HG1.out,HG2.out⟩,Zl HEm.out⟩
 ·exact HQ.out j z af hz):p:=h
theorem dQ(h:p:=by
 obtain⟨k0,k1,k2,k3,k4,k5⟩:=cs6 Bk;have aoG:=ae Bk.out;exact anZ):p:=h
theorem Fw(h:p:=by
 exact aq_):p:=h
theorem Fu(h:p:=by
 go_wp2_with fail;refine (je a len cap zs 8 _ (HR.below (aj _ _))).mono ?_;rintro e w1 ⟨r,rfl,hr,hb⟩;go_wp2_with fail;go_ret;exact⟨r,rfl,⟨λh=>⟨h0.out,h1.out,h2.out,h3.out,h4.out,hr.1 h⟩,λh=>hr.2 h.2.2.2.2.2⟩,(fM hb).2.1⟩):p:=h
theorem mQ(h:p:=by
 rintro e w1 ⟨r,rfl,hr,rfl⟩;by_cases hq:r=Zi;case neg=>
  exact amz
 have h4:=G (hr.1 hq);subst hq;clear hr;exact ap5):p:=h
theorem Fg(h:p:=by
 have aq8:=@G _ @I4;exact tA):p:=h
theorem Ff(h:p:=by
 have axH:=(q1.cell δ).trans hcw;have axG:=Yl δ q1.b.size;have avV:=(q1.cell hbv).trans hcv;have axI:=Yl hbv q1.b.size;clear hcw δ hcv hbv;rcases Bool.eq_false_or_eq_true v.x with hs|hs;rotate_left
 ·have HSi:=G hs;rw[hs] at avV;clear hs;obtain⟨Gk,Gx,Gy,HW,k2,x3,y3,tw,vw,hne0⟩:=OT;have z1z:=@G _ @alZ;exact bF
 have HSi:=G hs;rw[hs] at avV;clear hs;by_cases Z6:InL q.zs t
 ·have HIn:=G Z6;clear Z6;obtain⟨Gk,Gx,Gy,HW,k2,x3,y3,tw,vw,hne0⟩:=OT;have Zv:=G (λqq:Wd q1.w=>(bZ qa ql qc q.zs t qq.w (HQ0.below (HW.trans (qq.b.mono HW.size)))).mono (λ_ _ h=>ar.yes h HIn.out));have Zw:=@G _ @ajY;exact aB
 ·have HIn:=G Z6;clear Z6;obtain⟨Gk,Gx,Gy,HW,k2,x3,y3,tw,vw,hne0⟩:=OT;have Zv:=G (λqq:Wd q1.w=>(bZ qa ql qc q.zs t qq.w (HQ0.below (HW.trans (qq.b.mono HW.size)))).mono (λ_ _ h=>ar.no h HIn.out));have Zw:=@G _ @ajX;exact aB):p:=h
theorem sH(h:p:=by
 obtain⟨ZW,Ck⟩:=lq;have Cx:=upK Gx q1.b;have Cy:=upK Gy q1.b;clear hne0 HW HB Zv k0 k1 k2 k3 k4 k5 x3 tw Gk Gx Gy Bk Bx By px3;have HB:=ZW;have Bk:=Ck;have Bx:=Cx;have By:=Cy;exact art):p:=h
theorem EJ(h:p:=by
 obtain⟨r0,r1,r2,r3,r4,r5,r6,r7⟩:=sl8 Gr;exact ao1):p:=h
theorem dP(h:p:=by
 obtain⟨Gk,Gr,HW⟩:=AU;obtain⟨k0,k1,k2,k3,k4,k5⟩:=sl6 Gk;exact an0):p:=h
theorem EA(h:p:=by
 exact auy):p:=h
theorem Ez(h:p:=by
 have Zw:=@G _ @ajF;exact aB):p:=h
theorem sy(h:p:=by
 have Zv:=G (λq:Wd wr=>(jE x.n x.c x.z va vl vc x.zs x.d x.p q.w anh.out apg.out apw.out (HTx.below q.b)).mono (λ_ _ h=>ar.yes h ZQ.out));exact ary):p:=h
theorem DN(h:p:=by
 go_wp2_with fail;refine (gZ ⟨a1,l1,y1,a2,l2,y2,(M ⟨b,o,J⟩),l3,y3,a4,l4,y4,a5,l5,y5⟩ c.now c.xs v.m _ (HR.x.below (HB.trans ((aj _ _).mono HB.size)))).mono ?_;have arx:=@G _ @Tw;exact pZ):p:=h
theorem DM(h:p:=by
 go_wp2_with fail;exact aox):p:=h
theorem eC(h:p:=by
 obtain⟨k0,k1,k2,k3,k4,k5⟩:=cs6 Bk;have aqM:=ae Bk.out;exact an5):p:=h
theorem Dt(h:p:=by
 by_cases he:v.m=⟨#[]⟩
 ·have hq:=cw he;have HEm:=G he;clear he;have apv:=@G _ @Hz;exact jY
 have hq:=aU he;have HEm:=G he;clear he;rcases hf with ⟨j4,y,h1,h2,rfl⟩|⟨hh,rfl⟩;rotate_left
 ·have HH:=G hh;clear hh;have ao1:=@G _ @J5;exact ib
 have axJ:j4<l4:=by have h3:=(Yc.1 h1).1;omega
 obtain⟨b4,o4,y',rfl,π,hy',Zc⟩:=dB HR.x axJ;rw[h1] at hy';obtain rfl:=Yd hy';obtain⟨z0,z2,z4,c0,c1,c2,c3,c4⟩:=bD Zc;have HJ:=G h1;have HN:=G h2;have hcv:=(ah HB.out π).trans c4;have hbv:=Yl π HB.size;have hj0:¬((j4:Int)<0):=af
 have hj1:decide ((j4:Int)<0)=Zg:=aF
 clear hy' Zc z0 z2 z4 c0 c1 c2 c3 c4 h1 h2;by_cases hvn:y.v=v.n
 ·have Τ:=aP hvn;have HVN:=G hvn;clear hvn;have ao1:=@G _ @J4;exact ib
 ·have Τ:=bu hvn;have HVN:=G hvn;clear hvn;have ao1:=@G _ @J3;exact ib):p:=h
theorem Dq(h:p:=by
 by_cases he:x.v=⟨#[]⟩
 ·have hq:=cw he;have HEm:=G he;clear he;have apv:=@G _ @Hx;exact jY
 have hq:=aU he;have HEm:=G he;clear he;rcases hf with ⟨j3,y,h1,h2,rfl⟩|⟨hh,rfl⟩;rotate_left
 ·have HH:=G hh;clear hh;have aoF:=@G _ @Uk;exact fu
 have arw:j3<l3:=by have h3:=(Yc.1 h1).1;omega
 obtain⟨b3,o3,y',rfl,Zy,hy',Zc⟩:=bY HR.v arw;rw[h1] at hy';obtain rfl:=Yd hy';obtain⟨va,vl,vc,Zx,z0,z2,z3,z5,c0,c1,c2,c3,c4,c5,c6,c7⟩:=bm Zc;have HJ:=G h1;have HN:=G h2;have hj0:¬((j3:Int)<0):=af
 have hj1:decide ((j3:Int)<0)=Zg:=aF
 have μ:=G c1;have HC3:=G c3;have HC4:=G c4;have HC5:=G c5;have Z7:=G Zy;clear hy' Zc Zx z0 z2 z3 z5 c0 c1 c2 c3 c4 c5 c6 c7 h1 h2 Zy;have aoF:=@G _ @Uo;exact fu):p:=h
theorem sj(h:p:=by
 obtain⟨i2,kd2,g1,g2⟩:=hkh;have HG1:=G g1;have HG2:=G g2;have ay_:¬((i2:Int)<0):=af
 have aza:decide ((i2:Int)<0)=Zg:=aF
 clear g1 g2;exact ars):p:=h
theorem De(h:p:=by
 obtain⟨yw,hne0⟩:=uW;have ary:=@G _ @EA;exact sy):p:=h
theorem Dd(h:p:=by
 have hne0:=Wd.ne wr;have Zv:=G (λq:Wd wr=>(jE x.n x.c x.z va vl vc x.zs x.d x.p q.w anh.out apg.out apw.out (HTx.below q.b)).mono (λ_ _ h=>ar.no h ZQ.out));have Zw:=@G _ @ajG;exact aB):p:=h
theorem Dc(h:p:=by
 have hne0:=Wd.ne wr;have ary:=@G _ @Ez;exact sy):p:=h
theorem mG(h:p:=by
 obtain⟨HW,k4⟩:=OK;obtain⟨x0,x1,x2,x3,x4⟩:=qK;have x5:=λq:Wd wr=>(q.cell hb).trans c5;exact ap3):p:=h
def ou(b:Int):Bool:=decide (97<=b) && decide (b<=122)
def ag_(b:Int):Bool:=decide (48<=b) && decide (b<=57)
def nbB(b:Int):Bool:=ou b || ag_ b || decide (b=95)
def okB(i:Nat) (b:Int):Bool:=if i=0 then ou b else nbB b
def aN(s:ByteArray):Prop:=1<=s.size/\s.size<=20/\∀i (h:i<s.size),okB i ((s[i]'h).toNat:Int)=Zi
def cU(p:Prop) (w:World) (e:Ending) (w':World):Prop:=∃r:Bool,e=Zh (Zf r)/\(r=Zi↔p)/\w=w'
theorem kh {s:ByteArray} {k:Nat} (Zo:k<s.size) (h:okB k ((s[k]'Zo).toNat:Int)=Zg):(Zg=Zi↔aN s):=by
 constructor
 ·intro h;cases h
 ·intro h3;have:=h3.2.2 k Zo;rw[h] at this;exact this
theorem po {s:ByteArray} {k:Nat} (Zo:k<s.size) (h:okB k ((s[k]'Zo).toNat:Int)=Zi) (ha:∀i (h:i<s.size),i<k->okB i ((s[i]'h).toNat:Int)=Zi):
  ∀i (h:i<s.size),i<k+1->okB i ((s[i]'h).toNat:Int)=Zi:=by
 intro i hi hk;by_cases e:i=k
 ·subst e;exact h
 ·exact ha i hi af
theorem bW(s:ByteArray) (w:World) (hs:s.size<=9223372036854775807):
  Calls Tryz.prog 168 #[I s] w (cU (aN s) w):=by
 by_cases h1:s.size<1
 ·go_enter Tryz.func168,Tryz.ntmps168;exact qP
 by_cases h2:20<s.size
 ·go_enter Tryz.func168,Tryz.ntmps168;exact qP
 go_enter Tryz.func168,Tryz.ntmps168;go_wp2;go_loop [3] (λi=> ∃k:Nat,k<=s.size/\i=V O k/\∀i (h:i<s.size),i<k->okB i ((s[i]'h).toNat:Int)=Zi) (λi=>s.size - (intOf i).toNat);case atStart=>exact⟨0,by omega,rfl,λi _ h=>by omega⟩
 case round=>
  obtain⟨k,hk,rfl,ZL⟩:=hrel;have HA:Hid (∀i (h:i<s.size),i<k->okB i ((s[i]'h).toNat:Int)=Zi):=ZL;clear ZL;by_cases Zo:k<s.size
  ·cases ξ:okB k ((s[k]'Zo).toNat:Int)
   ·have HB:Hid (okB k ((s[k]'Zo).toNat:Int)=Zg):=ξ;by_cases hk0:k=0
    ·have hkb:((k:Int)==0)=Zi:=by simp[hk0]
     have Ο:k<1:=af
     unfold okB ou at ξ;rw[if_pos hk0] at ξ;simp only[Bool.and_eq_false_iff,decide_eq_false_iff_not] at ξ;clear hk0;rcases (show ((s[k]'Zo).toNat:Int)<97\/(97<=((s[k]'Zo).toNat:Int)/\122<((s[k]'Zo).toNat:Int)) by omega) with hA|⟨hA,hB⟩;all_goals
      clear ξ
      go_wp2
      all_goals first|(exfalso;rename_i hx;simp at hx;omega)|(go_ret;exact⟨Zg,rfl,kh Zo HB.out,rfl⟩)
    ·have hkb:((k:Int)==0)=Zg:=by simp[hk0]
     unfold okB nbB ou ag_ at ξ;rw[if_neg hk0] at ξ;simp only[Bool.or_eq_false_iff,Bool.and_eq_false_iff,decide_eq_false_iff_not] at ξ;have ZE:(((s[k]'Zo).toNat:Int) !=95)=Zi:=by simp;omega
     rcases (show (((s[k]'Zo).toNat:Int)<97\/(97<=((s[k]'Zo).toNat:Int)/\122<((s[k]'Zo).toNat:Int)))/\(((s[k]'Zo).toNat:Int)<48\/(48<=((s[k]'Zo).toNat:Int)/\57<((s[k]'Zo).toNat:Int))) by omega) with ⟨hA|⟨hA,hB⟩,hC|⟨hC,hD⟩⟩;all_goals
      clear ξ
      try omega
     all_goals
      go_wp2
      all_goals first|(exfalso;rename_i hx;simp at hx;omega)|(go_ret;exact⟨Zg,rfl,kh Zo HB.out,rfl⟩)
   ·have HB:Hid (okB k ((s[k]'Zo).toNat:Int)=Zi):=ξ;by_cases hk0:k=0
    ·have hkb:((k:Int)==0)=Zi:=by simp[hk0]
     have Ο:k<1:=af
     unfold okB ou at ξ;rw[if_pos hk0] at ξ;simp only[YI,decide_eq_true_eq] at ξ;obtain⟨hA,hB⟩:=ξ;clear hk0;exact AZ
    ·have hkb:((k:Int)==0)=Zg:=by simp[hk0]
     unfold okB nbB ou ag_ at ξ;rw[if_neg hk0] at ξ;simp only[Bool.or_eq_true,YI,decide_eq_true_eq] at ξ;rcases (show (97<=((s[k]'Zo).toNat:Int)/\((s[k]'Zo).toNat:Int)<=122)\/(48<=((s[k]'Zo).toNat:Int)/\((s[k]'Zo).toNat:Int)<=57)\/(95<=((s[k]'Zo).toNat:Int)/\((s[k]'Zo).toNat:Int)<=95) by omega) with ⟨hA,hB⟩|⟨hA,hB⟩|⟨hA,hB⟩
     ·clear ξ;exact AZ
     ·clear ξ;exact AZ
     ·clear ξ;have ZE:(((s[k]'Zo).toNat:Int) !=95)=Zg:=by simp;omega
      exact AZ
  ·exact Qm
def aw(w:World) (a:Option Addr) (len cap:Nat) (zs:List ByteArray):Prop:=
 zs.length=len/\len<=cap/\cap<=9223372036854775807/\(∀(j:Nat) x,zs[j]?=M x->x.size<=9223372036854775807)/\
 (zs=[]\/∃b o,a=M ⟨b,o,J⟩/\b<w.heap.size/\∀(j:Nat) x,zs[j]?=M x->w.cell? ⟨b,o+j,J⟩=M (I x))
theorem ah {w:World} (hb:Below w.heap.size w w') {b o:Nat} (h:b<w.heap.size):w'.cell? ⟨b,o,J⟩=w.cell? ⟨b,o,J⟩:=by
 simp[YX,hb.block b h]
theorem aw.below {w:World} {len:Nat} {zs:List ByteArray} (h:aw w a len cap zs) (hb:Below w.heap.size w w'):aw w' a len cap zs:=by
 obtain⟨h1,h2,h3,h4,h5⟩:=h;refine⟨h1,h2,h3,h4,?_⟩;rcases h5 with h5|⟨b,o,rfl,Zo,hc⟩
 ·exact Or.inl h5
 ·exact Or.inr ⟨b,o,rfl,Yl Zo hb.size,λj x hx=>by rw[ah hb Zo];exact hc j x hx⟩
theorem aw.at {w:World} {len:Nat} {zs:List ByteArray} (h:aw w a len cap zs) {k:Nat} (hk:k<len):
  ∃b o x,a=M ⟨b,o,J⟩/\b<w.heap.size/\zs[k]?=M x/\w.cell? ⟨b,o+k,J⟩=M (I x)/\x.size<=9223372036854775807:=by
 obtain⟨h1,h2,h3,h4,h5⟩:=h;have hx:zs[k]?=M (zs[k]'(by omega)):=Yi _;rcases h5 with h5|⟨b,o,rfl,Zo,hc⟩
 ·subst h5;simp at h1;omega
 ·exact⟨b,o,_,rfl,Zo,hx,hc k _ hx,h4 k _ hx⟩
theorem eQ:(Tryz.prog.info? 9).map (λi=>(i.zero,i.size,i.bytes))=M (M (I ⟨#[]⟩),1,16):=by kernel_rfl
theorem an {w:World} {cs:Array Value} {t:TypeId} {fr:Nat×Nat} (h:w.heap[g]?=M (Ze cs t fr)) (v:Value):(w.setCell ⟨g,i,J⟩ v).heap[g]?=M (Ze (cs.setIfInBounds i v) t fr):=by
 obtain⟨hl,hh⟩:=YA.1 h;unfold YV;simp[Array.getElem?_modify,h]
theorem bu {a b:ByteArray} (h:¬a=b):(a.toList==b.toList)=Zg:=by
 rw[beq_eq_false_iff_ne];intro e;rw[Za,Za] at e;exact h (by cases a;cases b;simp at e;rw[e])
def ar(p:Prop) (w:World) (e:Ending) (w':World):Prop:=∃r:Bool,e=Zh (Zf r)/\(r=Zi↔p)/\Below w.heap.size w w'
def ju(zs:List ByteArray):Prop:=∀(i:Nat) x,zs[i]?=M x->aN x/\∀y,0<i->zs[i - 1]?=M y->Yk y.toList x.toList=Zi
def ed(zs:List ByteArray) (Zu:Int):Prop:=(zs.length:Int)<=Zu/\ju zs
theorem ir:∀x y:List UInt8,(Yk y x || y==x)=!Yk x y
 | [],[]=>by simp[Yk]
 | _ ::_,[]=>by simp[Yk]
 | [],_ ::_=>by simp[Yk]
 | a ::x,b ::y=>by
  have ih:=ir x y;simp only[Yk];rcases Nat.lt_trichotomy a.toNat b.toNat with h|h|h
  ·have h1:=Y7.2 h;have h2:¬b<a:=λh'=>by have:=Y7.1 h';omega
   have h3:¬b=a:=λh'=>by subst h';omega
   simp[h1,h2,h3]
  ·obtain rfl:a=b:=UInt8.toNat_inj.1 h;have h2:¬a<a:=λh'=>by have:=Y7.1 h';omega
   simp[h2];simpa using ih
  ·have h1:=Y7.2 h;have h2:¬a<b:=λh'=>by have:=Y7.1 h';omega
   have h3:¬a=b:=λh'=>by subst h';omega
   simp[h1,h2,h3]
theorem cU.yes {p:Prop} {w:World} (h:cU p w e w') (hp:p):e=Zh (Zf Zi)/\w'=w:=by
 obtain⟨r,rfl,hr,rfl⟩:=h;exact⟨by rw[hr.2 hp],rfl⟩
theorem cU.no {p:Prop} {w:World} (h:cU p w e w') (hp:¬p):e=Zh (Zf Zg)/\w'=w:=by
 obtain⟨r,rfl,hr,rfl⟩:=h;cases r
 ·exact⟨rfl,rfl⟩
 ·exact absurd (hr.1 rfl) hp
theorem ju.step {zs:List ByteArray} {k:Nat} {x:ByteArray} (h:ju (zs.take k)) (hx:zs[k]?=M x) (hn:aN x) (hy:∀y,0<k->zs[k - 1]?=M y->Yk y.toList x.toList=Zi):ju (zs.take (k+1)):=by
 intro i z hz;rw[YC] at hz;split at hz
 ·rename_i hi;by_cases e:i=k
  ·subst e;rw[hx] at hz;obtain rfl:=Yd hz;refine⟨hn,λy h0 h1=>hy y h0 ?_⟩;rw[YC,if_pos af] at h1;exact h1
  ·have:=h i z (by rw[YC,if_pos af];exact hz);refine⟨this.1,λy h0 h1=>this.2 y h0 ?_⟩;rw[YC,if_pos af] at h1 ⊢;exact h1
 ·cases hz
theorem je(a:Option Addr) (len cap:Nat) (zs:List ByteArray) (Zu:Int) (w:World) (hr:aw w a len cap zs):
  Calls Tryz.prog 170 #[U a len cap,V O Zu] w (ar (ed zs Zu) w):=by
 have HR:Hid (aw w a len cap zs):=hr;have hlc:=Yo hr.2.1 hr.2.2.1;have hzl:=hr.1;clear hr;go_enter Tryz.func170,Tryz.ntmps170;go_wp2;go_loopw [5] (λi wr=> ∃k:Nat,k<=len/\i=V O k/\Hid (ju (zs.take k))/\Hid (Below w.heap.size w wr)) (λi _=>len - (intOf i).toNat);case atStart=>exact⟨0,by omega,rfl,λi x h=>by simp at h,Yh _ _⟩
 case round=>
  obtain⟨k,hk,rfl,HE,HB⟩:=hrel;by_cases Zo:k<len
  ·obtain⟨b,o,x,rfl,hb,hx,hc,Zq⟩:=(HR.below HB.out).at Zo;by_cases hn:aN x
   ·have HY:Hid (∀w,Calls Tryz.prog 168 #[I x] w λe w'=>e=Zh (Zf Zi)/\w'=w):=λw=>(bW x w Zq).mono λ_ _ h=>h.yes hn;by_cases hk0:0<k
    ·obtain⟨b',o',y,e',χ,hy,hcy,-⟩:=(HR.below HB.out).at (k:=k - 1) af;cases e';have ek:((k:Int) - 1).toNat=k - 1:=af
     cases Zz:Yk y.toList x.toList
     ·go_wp2;go_quiet ((go_at_call 168;exact YD (HY.out _)));go_wp2;go_ret;exact⟨Zg,rfl,⟨λh=>bJ,λh=>absurd ((h.2 k x hx).2 y hk0 hy) (by rw[Zz];decide)⟩,below_drewN HB.out _⟩
     ·go_wp2;go_quiet ((go_at_call 168;exact YD (HY.out _)));go_wp2;exact⟨⟨k+1,by omega,by go_num,HE.step hx hn (λy' _ hy'=>by rw[hy] at hy';obtain rfl:=Yd hy';exact Zz),below_drewN HB.out _⟩,by simp[intOf];omega⟩
    ·have hd:decide ((0:Int)<k)=Zg:=by simp;omega
     go_wp2;go_quiet ((go_at_call 168;exact YD (HY.out _)));go_wp2;exact⟨⟨k+1,by omega,by go_num,HE.step hx hn (λy' h0 _=>absurd h0 hk0),below_drewN HB.out _⟩,by simp[intOf];omega⟩
   ·have HY:Hid (∀w,Calls Tryz.prog 168 #[I x] w λe w'=>e=Zh (Zf Zg)/\w'=w):=λw=>(bW x w Zq).mono λ_ _ h=>h.no hn;go_wp2;go_quiet ((go_at_call 168;exact YD (HY.out _)));go_wp2;go_ret;exact⟨Zg,rfl,⟨λh=>bJ,λh=>absurd (h.2 k x hx).1 hn⟩,below_drewN HB.out _⟩
  ·obtain rfl:k=len:=af
   go_wp2;go_ret;refine⟨_,rfl,?_,HB.out⟩;have hR:=HE.out;rw[YB af] at hR;unfold ed;simp[hR,hzl]
def dz(s:ByteArray):Prop:=s=⟨#[]⟩\/aN s
def Inn(n a b:Int):Prop:=a<=n/\n<=b
theorem mh(n a b:Int) (w:World):
  Calls Tryz.prog 104 #[V O n,V O a,V O b] w (cU (Inn n a b) w):=by
 go_enter Tryz.func104,Tryz.ntmps104;go_wp2;all_goals (go_ret;exact⟨_,rfl,by unfold Inn;simp;omega,rfl⟩)
theorem vJ(n:Int) (w:World):
  Calls Tryz.prog 169 #[V O n] w (cU (Inn n 0 1000000) w):=by
 go_enter Tryz.func169,Tryz.ntmps169;exact xw
theorem pw(n:Int) (w:World):
  Calls Tryz.prog 172 #[V O n] w (cU (Inn n 1 1048576) w):=by
 go_enter Tryz.func172,Tryz.ntmps172;exact xw
theorem pt(n:Int) (w:World):
  Calls Tryz.prog 55 #[V O n] w (cU (Inn n 0 1000000) w):=by
 go_enter Tryz.func55,Tryz.ntmps55;exact xw
theorem G {p:Prop} (h:p):Hid p:=h
theorem aU {s:ByteArray} (h:¬s=⟨#[]⟩):s.toList.isEmpty=Zg:=by
 have:=bu h;rw[Za] at this ⊢;cases e:s.data.toList with
 | nil=>exact absurd (by cases s;simp at e;rw[e]) h
 | cons a l=>rfl
theorem A_:(⟨#[]⟩:ByteArray).toList.isEmpty=Zi:=by rw[Za];rfl
theorem fM {w:World} {vs:Array Value} (hb:Below (w.alloc (Ze vs T)).heap.size (w.alloc (Ze vs T)) w1):
  w1.heap[w.heap.size]?=M (Ze vs T (0,0))/\Below w.heap.size w w1/\w.heap.size<w1.heap.size:=by
 have hs:(w.alloc (Ze vs T)).heap.size=w.heap.size+1:=aF
 have h1:=hb.size;refine⟨?_,?_,by omega⟩
 ·rw[hb.block _ af];show (w.heap.push _)[w.heap.size]?=_;simp
 ·exact ((Yh w.heap.size w).alloc (Ye _) _).trans (hb.mono af)
theorem al {w:World} {b:Nat} {vs:Array Value} {f:Nat×Nat} (h:w.heap[b]?=M (Ze vs T f)) (i:Nat):w.cell? ⟨b,i,J⟩=vs[i]?:=by simp[YX,h]
theorem ck0 {w:World} {b:Nat} {f:Nat×Nat} (h:w.heap[b]?=M (Ze (v0 ::r).toArray T f)):w.cell? ⟨b,0,J⟩=M v0:=al h 0
theorem ck1 {w:World} {b:Nat} {f:Nat×Nat} (h:w.heap[b]?=M (Ze (v0::v1 ::r).toArray T f)):w.cell? ⟨b,1,J⟩=M v1:=al h 1
theorem ck2 {w:World} {b:Nat} {f:Nat×Nat} (h:w.heap[b]?=M (Ze (v0::v1::v2 ::r).toArray T f)):w.cell? ⟨b,2,J⟩=M v2:=al h 2
theorem ck3 {w:World} {b:Nat} {f:Nat×Nat} (h:w.heap[b]?=M (Ze (v0::v1::v2::v3 ::r).toArray T f)):w.cell? ⟨b,3,J⟩=M v3:=al h 3
theorem ck4 {w:World} {b:Nat} {f:Nat×Nat} (h:w.heap[b]?=M (Ze (v0::v1::v2::v3::v4 ::r).toArray T f)):w.cell? ⟨b,4,J⟩=M v4:=al h 4
theorem ck5 {w:World} {b:Nat} {f:Nat×Nat} (h:w.heap[b]?=M (Ze (v0::v1::v2::v3::v4::v5 ::r).toArray T f)):w.cell? ⟨b,5,J⟩=M v5:=al h 5
theorem ck6 {w:World} {b:Nat} {f:Nat×Nat} (h:w.heap[b]?=M (Ze (v0::v1::v2::v3::v4::v5::v6 ::r).toArray T f)):w.cell? ⟨b,6,J⟩=M v6:=al h 6
theorem ck7 {w:World} {b:Nat} {f:Nat×Nat} {v7:Value} (h:w.heap[b]?=M (Ze (v0::v1::v2::v3::v4::v5::v6::v7 ::r).toArray T f)):w.cell? ⟨b,7,J⟩=M v7:=al h 7
theorem aj(w:World) (o:Obj):Below w.heap.size w (w.alloc o):=(Yh _ _).alloc (Ye _) o
theorem iC(s:ByteArray) (w:World) (hs:s.size<=9223372036854775807):
  Calls Tryz.prog 171 #[I s] w (cU (dz s) w):=by
 by_cases h0:s=⟨#[]⟩
 ·subst h0;go_enter Tryz.func171,Tryz.ntmps171;go_wp2;go_ret;exact⟨_,rfl,by unfold dz;simp,rfl⟩
 ·have hq:=aU h0;go_enter Tryz.func171,Tryz.ntmps171;go_wp2_with (go_at_call 168;refine (bW _ _ hs).mono ?_;rintro e w1 ⟨r,rfl,hr,rfl⟩);go_ret;exact⟨r,rfl,by unfold dz;simp[h0,hr],rfl⟩
def yr(n z:ByteArray) (c s u:Int) (zs:List ByteArray):Prop:=aN n/\aN z/\Inn c 0 1000000/\Inn s 0 8/\Inn u 0 1000000/\ed zs 8
theorem oL(n z:ByteArray) (c s u:Int) (d:Bool) (a:Option Addr) (len cap:Nat) (zs:List ByteArray) (w:World) (hn:n.size<=9223372036854775807) (hz:z.size<=9223372036854775807) (hr:aw w a len cap zs):
  Calls Tryz.prog 105 #[Zj #[I n,I z,V O c,V O s,V O u,Zf d,U a len cap]] w (ar (yr n z c s u zs) w):=by
 have HR:Hid (aw w a len cap zs):=hr;clear hr;go_enter Tryz.func105,Tryz.ntmps105;go_wp2_with fail;refine (bW n _ hn).mono ?_;have aoE:=@G _ @ae8;exact fz
def kE(n z:ByteArray):Prop:=aN n/\dz z
theorem jf(n z:ByteArray) (x y:Bool) (w:World) (hn:n.size<=9223372036854775807) (hz:z.size<=9223372036854775807):
  Calls Tryz.prog 106 #[Zj #[I n,Zf x,Zf y,I z]] w (ar (kE n z) w):=by
 go_enter Tryz.func106,Tryz.ntmps106;go_wp2_with fail;refine (bW n _ hn).mono ?_;have aoE:=@G _ @ae7;exact fz
def iT(n:ByteArray) (z:Int) (k v:ByteArray):Prop:=aN n/\Inn z 1 1048576/\aN k/\dz v
theorem gg(n:ByteArray) (z:Int) (k:ByteArray) (x:Bool) (v:ByteArray) (w:World) (hn:n.size<=9223372036854775807) (hk:k.size<=9223372036854775807) (hv:v.size<=9223372036854775807):
  Calls Tryz.prog 108 #[Zj #[I n,V O z,I k,Zf x,I v]] w (ar (iT n z k v) w):=by
 go_enter Tryz.func108,Tryz.ntmps108;go_wp2_with fail;refine (bW n _ hn).mono ?_;have aoE:=@G _ @ae6;exact fz
def fE(d:ByteArray) (p:Int):Prop:=(p=0/\d=⟨#[]⟩)\/((p=1\/p=2)/\aN d)
def Sa(n:ByteArray) (c:Int) (z:ByteArray) (zs:List ByteArray) (d:ByteArray) (p:Int):Prop:=aN n/\Inn c 0 1000000/\dz z/\ed zs 3/\fE d p
theorem fZ(d:ByteArray):fE d 0↔d=⟨#[]⟩:=by unfold fE;simp
theorem jC {p:Int} (d:ByteArray) (h:p=1\/p=2):fE d p↔aN d:=by
 unfold fE;constructor
 ·rintro (⟨h1,_⟩|⟨_,h1⟩)
  ·omega
  ·exact h1
 ·exact λh1=>Or.inr ⟨h,h1⟩
theorem rP {p:Int} {d:ByteArray} (h:p<0\/2<p):¬fE d p:=by
 unfold fE;rintro (⟨h1,_⟩|⟨h1,_⟩) <;> omega
theorem eP(s:ByteArray):s.toList.isEmpty=Zi↔s=⟨#[]⟩:=by
 constructor
 ·intro h;by_cases h0:s=⟨#[]⟩
  ·exact h0
  ·rw[aU h0] at h;cases h
 ·rintro rfl;exact A_
theorem jE(n:ByteArray) (c:Int) (z:ByteArray) (a:Option Addr) (len cap:Nat) (zs:List ByteArray) (d:ByteArray) (p:Int) (w:World) (hn:n.size<=9223372036854775807) (hz:z.size<=9223372036854775807) (hd:d.size<=9223372036854775807) (hr:aw w a len cap zs):
  Calls Tryz.prog 109 #[Zj #[I n,V O c,I z,U a len cap,I d,V O p]] w (ar (Sa n c z zs d p) w):=by
 have HR:Hid (aw w a len cap zs):=hr;clear hr;go_enter Tryz.func109,Tryz.ntmps109;go_wp2_with fail;refine (bW n _ hn).mono ?_;have aoE:=@G _ @ae5;exact fz
def Bu(n:ByteArray) (c:Int) (z k:ByteArray) (x:Bool) (m:ByteArray) (y:Bool) (zs:List ByteArray):Prop:=
 aN n/\Inn c 1 1048576/\aN z/\aN k/\dz m/\(y=Zi->m=⟨#[]⟩)/\ed zs (if x=Zi then 1 else 6)
theorem eY {zs:List ByteArray} {x:Bool} (h:ed zs (if x=Zi then 1 else 6)):ed zs 6:=by
 refine⟨?_,h.2⟩;have:=h.1;split at this <;> omega
theorem jB(n:ByteArray) (c:Int) (z k:ByteArray) (x:Bool) (m:ByteArray) (y:Bool) (a:Option Addr) (len cap:Nat) (zs:List ByteArray) (w:World) (hn:n.size<=9223372036854775807) (hz:z.size<=9223372036854775807) (hk:k.size<=9223372036854775807) (hm:m.size<=9223372036854775807) (hr:aw w a len cap zs):
  Calls Tryz.prog 107 #[Zj #[I n,V O c,I z,I k,Zf x,I m,Zf y,U a len cap]] w (ar (Bu n c z k x m y zs) w):=by
 have HR:Hid (aw w a len cap zs):=hr;have hzl:=hr.1;have hlc:=Yo hr.2.1 hr.2.2.1;clear hr;cases y
 ·have HY:Hid (Zg=Zi->m=⟨#[]⟩):=λh=>bJ;have arn:=@G _ @ae_;exact qH
 by_cases hm0:m=⟨#[]⟩
 ·subst hm0;have HY:Hid True:=trivial;have arn:=@G _ @ae9;exact qH
 have hq9:=aU hm0;have arn:=@G _ @afa;exact qH
theorem ak {w:World} {b:Nat} {vs:Array Value} (h:w.heap[b]?=M (Ze vs T (0,0))) (i:Nat):w.frozen? ⟨b,i,J⟩=Zg:=by simp[World.frozen?,h]
theorem ai {w:World} {B b:Nat} {v:Value} (hB:B<=b) (h:Below B w w1):Below B w (w1.setCell ⟨b,i,J⟩ v):=h.setCell hB v
theorem ae {w:World} {b:Nat} {o:Obj} (h:w.heap[b]?=M o):b<w.heap.size:=by
 exact P5
theorem upK {w:World} {k:Nat} {o:Obj} (h:Hid (w.heap[k]?=M o)) (hb:Below w.heap.size w w'):Hid (w'.heap[k]?=M o):=(hb.block _ (ae h)).trans h
theorem upB {w w2:World} (h:Hid (Below w.heap.size w w1)) (hb:Below w1.heap.size w1 w2):Hid (Below w.heap.size w w2):=Below.trans h (hb.mono (Below.size h))
theorem sb1 {w:World} {v:Value} (h:Below w.heap.size w w1):Below w.heap.size w (w1.setCell ⟨w.heap.size+1,i,J⟩ v):=ai (by omega) h
theorem sb2 {w:World} {v:Value} (h:Below w.heap.size w w1):Below w.heap.size w (w1.setCell ⟨w.heap.size+1+1,i,J⟩ v):=ai (by omega) h
theorem sb3 {w:World} {v:Value} (h:Below w.heap.size w w1):Below w.heap.size w (w1.setCell ⟨w.heap.size+1+1+1,i,J⟩ v):=ai (by omega) h
theorem du(w:World) (o p:Obj):((w.alloc o).alloc p).heap[w.heap.size]?=M o:=by
 rw[Yj _ _ _ aF];exact Yf
theorem cL(w:World) (o p:Obj):((w.alloc o).alloc p).heap[w.heap.size+1]?=M p:=by
 have h:w.heap.size+1=(w.alloc o).heap.size:=aF
 rw[h];exact Yf
theorem mo(w:World) (o p q:Obj):(((w.alloc o).alloc p).alloc q).heap[w.heap.size]?=M o:=by
 rw[Yj _ _ _ bg,Yj _ _ _ aF];show (w.heap.push _)[w.heap.size]?=_;simp
theorem ko(w:World) (o p q:Obj):(((w.alloc o).alloc p).alloc q).heap[w.heap.size+1]?=M p:=by
 rw[Yj _ _ _ aF];have h:w.heap.size+1=(w.alloc o).heap.size:=aF
 rw[h];show ((w.alloc o).heap.push _)[(w.alloc o).heap.size]?=_;exact Yf
theorem km(w:World) (o p q:Obj):(((w.alloc o).alloc p).alloc q).heap[w.heap.size+1+1]?=M q:=by
 have h:w.heap.size+1+1=((w.alloc o).alloc p).heap.size:=aF
 rw[h];show (((w.alloc o).alloc p).heap.push _)[((w.alloc o).alloc p).heap.size]?=_;exact Yf
theorem aM(w:World) (o p:Obj):Below w.heap.size w ((w.alloc o).alloc p):=(aj w o).alloc (by simp) p
theorem cO(w:World) (o p q:Obj):Below w.heap.size w (((w.alloc o).alloc p).alloc q):=(aM w o p).alloc (by simp;omega) q
theorem aP {a b:ByteArray} (h:a=b):(a.toList==b.toList)=Zi:=by rw[h];simp
theorem cs5 {w:World} {b:Nat} (h:w.heap[b]?=M (Ze #[v0,v1,v2,v3,v4] T (0,0))):w.cell? ⟨b,0,J⟩=M v0/\w.cell? ⟨b,1,J⟩=M v1/\w.cell? ⟨b,2,J⟩=M v2/\w.cell? ⟨b,3,J⟩=M v3/\w.cell? ⟨b,4,J⟩=M v4:=⟨al h 0,al h 1,al h 2,al h 3,al h 4⟩
theorem cs6 {w:World} {b:Nat} (h:w.heap[b]?=M (Ze #[v0,v1,v2,v3,v4,v5] T (0,0))):w.cell? ⟨b,0,J⟩=M v0/\w.cell? ⟨b,1,J⟩=M v1/\w.cell? ⟨b,2,J⟩=M v2/\w.cell? ⟨b,3,J⟩=M v3/\w.cell? ⟨b,4,J⟩=M v4/\w.cell? ⟨b,5,J⟩=M v5:=⟨al h 0,al h 1,al h 2,al h 3,al h 4,al h 5⟩
theorem cs7 {w:World} {b:Nat} (h:w.heap[b]?=M (Ze #[v0,v1,v2,v3,v4,v5,v6] T (0,0))):w.cell? ⟨b,0,J⟩=M v0/\w.cell? ⟨b,1,J⟩=M v1/\w.cell? ⟨b,2,J⟩=M v2/\w.cell? ⟨b,3,J⟩=M v3/\w.cell? ⟨b,4,J⟩=M v4/\w.cell? ⟨b,5,J⟩=M v5/\w.cell? ⟨b,6,J⟩=M v6:=⟨al h 0,al h 1,al h 2,al h 3,al h 4,al h 5,al h 6⟩
theorem cs8 {w:World} {b:Nat} {v7:Value} (h:w.heap[b]?=M (Ze #[v0,v1,v2,v3,v4,v5,v6,v7] T (0,0))):w.cell? ⟨b,0,J⟩=M v0/\w.cell? ⟨b,1,J⟩=M v1/\w.cell? ⟨b,2,J⟩=M v2/\w.cell? ⟨b,3,J⟩=M v3/\w.cell? ⟨b,4,J⟩=M v4/\w.cell? ⟨b,5,J⟩=M v5/\w.cell? ⟨b,6,J⟩=M v6/\w.cell? ⟨b,7,J⟩=M v7:=⟨al h 0,al h 1,al h 2,al h 3,al h 4,al h 5,al h 6,al h 7⟩
theorem cW(w:World) (o:Obj):(w.alloc o).heap.size=w.heap.size+1:=by simp
theorem aY {w:World} {o:Obj} (h:Below (w.alloc o).heap.size (w.alloc o) w'):w'.heap[w.heap.size]?=M o/\Below w.heap.size w w':=by
 rw[cW] at h;exact⟨(h.block _ (Nat.lt_succ_self _)).trans (heap_alloc_new w o),(aj w o).trans (h.mono (Yz _))⟩
theorem dK {w:World} {o p:Obj} (h:Below ((w.alloc o).alloc p).heap.size ((w.alloc o).alloc p) w'):w'.heap[w.heap.size]?=M o/\w'.heap[w.heap.size+1]?=M p/\Below w.heap.size w w':=by
 obtain⟨h1,h2⟩:=aY h;rw[cW] at h1;obtain⟨h3,h4⟩:=aY h2;exact⟨h3,h1,h4⟩
def Wd(W:World):Type:={ x:World // Below W.heap.size W x }
def Wd.w(i:Wd W):World:=i.1
theorem Wd.b(i:Wd W):Below W.heap.size W i.w:=i.2
theorem Wd.ne(W:World):Nonempty (Wd W):=⟨⟨W,Yh _ _⟩⟩
theorem Wd.cell(i:Wd W) {b o:Nat} (h:b<W.heap.size):i.w.cell? ⟨b,o,J⟩=W.cell? ⟨b,o,J⟩:=ah i.b h
theorem Wd.slot(i:Wd W) {b o:Nat} {vs:Array Value} {T:TypeId} {f:Nat×Nat} {v:Value} (h:W.heap[b]?=M (Ze vs T f)) (hv:vs[o]?=M v):i.w.cell? ⟨b,o,J⟩=M v:=by
 have hb:b<W.heap.size:=by
  rcases Nat.lt_or_ge b W.heap.size with h1|h1
  ·exact h1
  ·rw[Array.getElem?_eq_none h1] at h;cases h
 rw[i.cell hb,al h,hv]
theorem sl1 {b:Nat} (h:Hid (W.heap[b]?=M (Ze (v0 ::r).toArray T (0,0)))):(∀q:Wd W,q.w.cell? ⟨b,0,J⟩=M v0):=λq=>q.slot h rfl
theorem sl2 {b:Nat} (h:Hid (W.heap[b]?=M (Ze (v0 ::v1 ::r).toArray T (0,0)))):(∀q:Wd W,q.w.cell? ⟨b,0,J⟩=M v0)/\(∀q:Wd W,q.w.cell? ⟨b,1,J⟩=M v1):=⟨λq=>q.slot h rfl,λq=>q.slot h rfl⟩
theorem sl3 {b:Nat} (h:Hid (W.heap[b]?=M (Ze (v0 ::v1 ::v2 ::r).toArray T (0,0)))):(∀q:Wd W,q.w.cell? ⟨b,0,J⟩=M v0)/\(∀q:Wd W,q.w.cell? ⟨b,1,J⟩=M v1)/\(∀q:Wd W,q.w.cell? ⟨b,2,J⟩=M v2):=⟨λq=>q.slot h rfl,λq=>q.slot h rfl,λq=>q.slot h rfl⟩
theorem sl4 {b:Nat} (h:Hid (W.heap[b]?=M (Ze (v0 ::v1 ::v2 ::v3 ::r).toArray T (0,0)))):(∀q:Wd W,q.w.cell? ⟨b,0,J⟩=M v0)/\(∀q:Wd W,q.w.cell? ⟨b,1,J⟩=M v1)/\(∀q:Wd W,q.w.cell? ⟨b,2,J⟩=M v2)/\(∀q:Wd W,q.w.cell? ⟨b,3,J⟩=M v3):=⟨λq=>q.slot h rfl,λq=>q.slot h rfl,λq=>q.slot h rfl,λq=>q.slot h rfl⟩
theorem sl5 {b:Nat} (h:Hid (W.heap[b]?=M (Ze (v0 ::v1 ::v2 ::v3 ::v4 ::r).toArray T (0,0)))):(∀q:Wd W,q.w.cell? ⟨b,0,J⟩=M v0)/\(∀q:Wd W,q.w.cell? ⟨b,1,J⟩=M v1)/\(∀q:Wd W,q.w.cell? ⟨b,2,J⟩=M v2)/\(∀q:Wd W,q.w.cell? ⟨b,3,J⟩=M v3)/\(∀q:Wd W,q.w.cell? ⟨b,4,J⟩=M v4):=⟨λq=>q.slot h rfl,λq=>q.slot h rfl,λq=>q.slot h rfl,λq=>q.slot h rfl,λq=>q.slot h rfl⟩
theorem sl6 {b:Nat} (h:Hid (W.heap[b]?=M (Ze (v0 ::v1 ::v2 ::v3 ::v4 ::v5 ::r).toArray T (0,0)))):(∀q:Wd W,q.w.cell? ⟨b,0,J⟩=M v0)/\(∀q:Wd W,q.w.cell? ⟨b,1,J⟩=M v1)/\(∀q:Wd W,q.w.cell? ⟨b,2,J⟩=M v2)/\(∀q:Wd W,q.w.cell? ⟨b,3,J⟩=M v3)/\(∀q:Wd W,q.w.cell? ⟨b,4,J⟩=M v4)/\(∀q:Wd W,q.w.cell? ⟨b,5,J⟩=M v5):=⟨λq=>q.slot h rfl,λq=>q.slot h rfl,λq=>q.slot h rfl,λq=>q.slot h rfl,λq=>q.slot h rfl,λq=>q.slot h rfl⟩
theorem sl7 {b:Nat} (h:Hid (W.heap[b]?=M (Ze (v0 ::v1 ::v2 ::v3 ::v4 ::v5 ::v6 ::r).toArray T (0,0)))):(∀q:Wd W,q.w.cell? ⟨b,0,J⟩=M v0)/\(∀q:Wd W,q.w.cell? ⟨b,1,J⟩=M v1)/\(∀q:Wd W,q.w.cell? ⟨b,2,J⟩=M v2)/\(∀q:Wd W,q.w.cell? ⟨b,3,J⟩=M v3)/\(∀q:Wd W,q.w.cell? ⟨b,4,J⟩=M v4)/\(∀q:Wd W,q.w.cell? ⟨b,5,J⟩=M v5)/\(∀q:Wd W,q.w.cell? ⟨b,6,J⟩=M v6):=⟨λq=>q.slot h rfl,λq=>q.slot h rfl,λq=>q.slot h rfl,λq=>q.slot h rfl,λq=>q.slot h rfl,λq=>q.slot h rfl,λq=>q.slot h rfl⟩
theorem sl8 {b:Nat} {v7:Value} (h:Hid (W.heap[b]?=M (Ze (v0 ::v1 ::v2 ::v3 ::v4 ::v5 ::v6 ::v7 ::r).toArray T (0,0)))):(∀q:Wd W,q.w.cell? ⟨b,0,J⟩=M v0)/\(∀q:Wd W,q.w.cell? ⟨b,1,J⟩=M v1)/\(∀q:Wd W,q.w.cell? ⟨b,2,J⟩=M v2)/\(∀q:Wd W,q.w.cell? ⟨b,3,J⟩=M v3)/\(∀q:Wd W,q.w.cell? ⟨b,4,J⟩=M v4)/\(∀q:Wd W,q.w.cell? ⟨b,5,J⟩=M v5)/\(∀q:Wd W,q.w.cell? ⟨b,6,J⟩=M v6)/\(∀q:Wd W,q.w.cell? ⟨b,7,J⟩=M v7):=⟨λq=>q.slot h rfl,λq=>q.slot h rfl,λq=>q.slot h rfl,λq=>q.slot h rfl,λq=>q.slot h rfl,λq=>q.slot h rfl,λq=>q.slot h rfl,λq=>q.slot h rfl⟩
theorem cA {a:Act} {w:World} (hm:P.follows .mixedOrders=Zi) (hB:Region.lexB .any l.toArray=Zi)
  (h:wpQuiet P l.toArray (λw'=> ∃i:Wd w,w'=i.w) (λa'=> ∀w',(∃i:Wd w,w'=i.w)->Q .normal a' w') l a):(Code.region id l.toArray Zi).wp P Q a w:=
 wp_region_quiet (C:=λw'=> ∃i:Wd w,w'=i.w) hm hB ⟨⟨_,(Yh w.heap.size w).drew⟩,rfl⟩ j_
theorem Calls.wide {f:FuncId} {args:Array Value} {i:Wd W} {v:Value} (h:Calls P f args i.w λe w'=>e=Zh v/\Below i.w.heap.size i.w w'):Calls P f args i.w λe w''=>e=Zh v/\∃j:Wd W,w''=j.w:=
 h.mono λ_ w' ⟨he,hb⟩=>⟨he,⟨w',i.b.trans (hb.mono i.b.size)⟩,rfl⟩
namespace Mk
structure Kept (g:Nat) (w w':World):Prop where
 os:w'.os=w.os
 tape:w'.tape=w.tape
 output:w'.output=w.output
 size:w.heap.size<=w'.heap.size
 block:∀k,k<w.heap.size->¬k=g->w'.heap[k]?=w.heap[k]?
end Mk
namespace Rc
inductive Fv where
 | s (b:ByteArray)
 | i (n:Int)
 | b (x:Bool)
 | l (zs:List ByteArray)
def Fv.val:Fv->Option Value
 | .s t=>M (I t)
 | .i n=>M (V O n)
 | .b x=>M (Zf x)
 | .l _=>J
def Fv.Is(w:World):Fv->Value->Prop
 | .s t,v=>v=I t/\t.size<=9223372036854775807
 | .i n,v=>v=V O n
 | .b x,v=>v=Zf x
 | .l zs,v=> ∃a len cap,v=U a len cap/\aw w a len cap zs
theorem Fv.Is.below {w:World} {f:Fv} {v:Value} (h:f.Is w v) (hb:Below w.heap.size w w'):f.Is w' v:=by
 cases f with
 | l zs=>obtain⟨a,len,cap,h1,h2⟩:=h;exact⟨a,len,cap,h1,h2.below hb⟩
 | _=>exact h
def RAt(w:World) (b o:Nat) (r:List Fv):Prop:=∀(i:Nat) f,r[i]?=M f->∃v,w.cell? ⟨b,o+i,J⟩=M v/\f.Is w v
theorem RAt.below {w:World} {b:Nat} {r:List Fv} (h:RAt w b o r) (hl:b<w.heap.size) (hb:Below w.heap.size w w'):RAt w' b o r:=by
 intro i f hi;obtain⟨v,h1,h2⟩:=h i f hi;exact⟨v,(ah hb hl).trans h1,h2.below hb⟩
def aV(w:World) (a:Option Addr) (len cap m:Nat) (rs:List (List Fv)):Prop:=
 rs.length=len/\len<=cap/\cap<=9223372036854775807/\(rs=[]\/∃b o,a=M ⟨b,o,J⟩/\b<w.heap.size/\∀(j:Nat) r,rs[j]?=M r->RAt w b (o+j*m) r)
theorem aV.below {w:World} {len m:Nat} {rs:List (List Fv)} (h:aV w a len cap m rs) (hb:Below w.heap.size w w'):aV w' a len cap m rs:=by
 exact QP
theorem aV.at {w:World} {len m:Nat} {rs:List (List Fv)} (h:aV w a len cap m rs) {j:Nat} (hj:j<len):
  ∃b o r,a=M ⟨b,o,J⟩/\b<w.heap.size/\rs[j]?=M r/\RAt w b (o+j*m) r:=by
 obtain⟨h1,h2,h3,h5⟩:=h;have hx:rs[j]?=M (rs[j]'(by omega)):=Yi _;exact P8
structure aJ (S:Nat->Prop) (w w':World):Prop where
 os:w'.os=w.os
 tape:w'.tape=w.tape
 output:w'.output=w.output
 size:w.heap.size<=w'.heap.size
 block:∀k,k<w.heap.size->¬S k->w'.heap[k]?=w.heap[k]?
theorem aJ.refl(S:Nat->Prop) (w:World):aJ S w w:=⟨rfl,rfl,rfl,Ye _,λ_ _ _=>rfl⟩
theorem aJ.trans {a b c:World} (h:aJ S a b) (k:aJ S b c):aJ S a c:=⟨k.os.trans h.os,k.tape.trans h.tape,k.output.trans h.output,Yo h.size k.size,λi hi hn=>(k.block i (Yl hi h.size) hn).trans (h.block i hi hn)⟩
theorem aJ.dW {w:World} (k:Below w.heap.size w w'):aJ S w w':=⟨k.os,k.tape,k.output,k.size,λi hi _=>k.block i hi⟩
theorem aJ.set {w:World} {v:Value} (h:aJ S w w') (h1:S g):aJ S w (w'.setCell ⟨g,i,J⟩ v):=
 ⟨h.os,h.tape,h.output,by simpa[YV] using h.size,λk hk hn=>(Ya _ _ _ _ (show k≠g from λe=>hn (e ▸ h1))).trans (h.block k hk hn)⟩
theorem aJ.low {X:Nat} {w:World} (h:aJ S w w') (hX:X<=w.heap.size) (hS:∀k,S k->X<=k):Below X w w':=⟨h.os,h.tape,h.output,h.size,λk hk=>h.block k (Yl hk hX) (λs=>by have:=hS k s;omega)⟩
def CE(w:World) (h:Nat) (S:Nat->Prop) (g:Nat) (zs:List ByteArray) (v:Value):Prop:=
 ∃a len cap,v=U a len cap/\zs.length=len/\len<=cap/\cap<=9223372036854775807/\(∀(j:Nat) x,zs[j]?=M x->x.size<=9223372036854775807)/\
  (zs=[]\/(a=M ⟨h,0,J⟩/\S h/\¬h=g/\∃cu,w.heap[h]?=M (Ze cu 9 (0,0))/\∀(j:Nat) x,zs[j]?=M x->cu[j]?=M (I x)))
theorem CE.row {w:World} {zs:List ByteArray} {len:Nat} (k:CE w h S g zs (U a len cap)):aw w a len cap zs:=by
 obtain⟨a',l',c',h1,h2,h3,h4,h5,h6⟩:=k;cases h1;refine⟨h2,h3,h4,h5,h6.imp id ?_⟩;rintro⟨q1,q2,q3,cu,q4,q5⟩;exact⟨h,0,q1,ae q4,λj x hx=>by rw[Yp,al q4];exact q5 j x hx⟩
def Fv.Own(w:World) (h:Nat) (S:Nat->Prop) (g:Nat):Fv->Value->Prop
 | .s t,v=>v=I t/\t.size<=9223372036854775807
 | .i n,v=>v=V O n
 | .b x,v=>v=Zf x
 | .l zs,v=>CE w h S g zs v
theorem Fv.Own.is {w:World} {f:Fv} {v:Value} (k:f.Own w h S g v):f.Is w v:=by
 cases f with
 | l zs=>
  obtain⟨a,len,cap,h1,h2⟩:=k;exact⟨a,len,cap,h1,CE.row (h:=h) (S:=S) (g:=g) (h1 ▸ ⟨a,len,cap,h1,h2⟩)⟩
 | _=>exact k
structure eI (w:World) (g m:Nat) (T:TypeId) (rs:List (List Fv)) (S:Nat->Prop) (cur:Array Value) (H:Nat->Nat->Nat):Prop where
 blk:w.heap[g]?=M (Ze cur T (0,0))
 inS:S g
 len:∀(j:Nat) r,rs[j]?=M r->r.length=m
 cell:∀(j:Nat) r,rs[j]?=M r->∀(i:Nat) f,r[i]?=M f->∃v,cur[j*m+i]?=M v/\f.Own w (H j i) S g v
 inj:∀(j:Nat) r (i:Nat) zs (j':Nat) r' (i':Nat) ZB,rs[j]?=M r->r[i]?=M (.l zs)->zs≠[]->rs[j']?=M r'->r'[i']?=M (.l ZB)->ZB≠[]->H j i=H j' i'->j=j'/\i=i'
def av(w:World) (a:Option Addr) (len cap m:Nat) (T:TypeId) (rs:List (List Fv)) (S:Nat->Prop):Prop:=
 rs.length=len/\len<=cap/\cap<=9223372036854775807/\(rs=[]\/∃g cur H,a=M ⟨g,0,J⟩/\eI w g m T rs S cur H)
theorem eI.ay {w:World} {m:Nat} {rs:List (List Fv)} (h:eI w g m T rs S cur H) (hk:∀k,k<w.heap.size->S k->w'.heap[k]?=w.heap[k]?) (hs:∀k,k<w.heap.size->S k->S' k):eI w' g m T rs S' cur H:=by
 refine⟨(hk g (ae h.blk) h.inS).trans h.blk,hs g (ae h.blk) h.inS,h.len,λj r hj i f hi=>?_,h.inj⟩;obtain⟨v,h1,h2⟩:=h.cell j r hj i f hi;refine⟨v,h1,?_⟩;cases f with
 | l zs=>
  obtain⟨a',l',c',h1,h2,h3,h4,h5,h6⟩:=h2;refine⟨a',l',c',h1,h2,h3,h4,h5,h6.imp id ?_⟩;rintro⟨q1,q2,q3,cu,q4,q5⟩;exact⟨q1,hs _ (ae q4) q2,q3,cu,(hk _ (ae q4) q2).trans q4,q5⟩
 | _=>exact h2
theorem av.ay {w:World} {len m:Nat} {rs:List (List Fv)} (h:av w a len cap m T rs S) (hk:∀k,k<w.heap.size->S k->w'.heap[k]?=w.heap[k]?) (hs:∀k,k<w.heap.size->S k->S' k):av w' a len cap m T rs S':=by
 obtain⟨h1,h2,h3,h4⟩:=h;refine⟨h1,h2,h3,h4.imp id ?_⟩;rintro⟨g,cur,H,h5,h6⟩;exact⟨g,cur,H,h5,h6.ay hk hs⟩
theorem av.below {w:World} {len m:Nat} {rs:List (List Fv)} (h:av w a len cap m T rs S) (hb:Below w.heap.size w w'):av w' a len cap m T rs S:=h.ay (λk hk _=>hb.block k hk) (λ_ _ s=>s)
theorem av.bC {w:World} {len m:Nat} {rs:List (List Fv)} (h:av w a len cap m T rs S) (hs:∀k,k<w.heap.size->S k->S' k):av w a len cap m T rs S':=h.ay (λ_ _ _=>rfl) hs
theorem eI.rat {w:World} {m:Nat} {rs:List (List Fv)} (h:eI w g m T rs S cur H) {j:Nat} {r:List Fv} (hj:rs[j]?=M r):RAt w g (j*m) r:=by
 intro i f hi;obtain⟨v,h1,h2⟩:=h.cell j r hj i f hi;exact⟨v,(al h.blk _).trans h1,h2.is⟩
theorem av.row {w:World} {len m:Nat} {rs:List (List Fv)} (h:av w a len cap m T rs S):aV w a len cap m rs:=by
 obtain⟨h1,h2,h3,h4⟩:=h;refine⟨h1,h2,h3,h4.imp id ?_⟩;rintro⟨g,cur,H,h5,h6⟩;exact⟨g,0,h5,ae h6.blk,λj r hj=>by rw[Yp];exact h6.rat hj⟩
theorem av.nil {w:World} (a:Option Addr) (cap m:Nat) (T:TypeId) (S:Nat->Prop) (h:cap<=9223372036854775807):av w a 0 cap m T [] S:=⟨rfl,YJ _,h,Zl rfl⟩
theorem ag3 {m j j' i':Nat} (hi:i<m) (hi':i'<m) (h:j*m+i=j'*m+i'):j=j'/\i=i':=by
 have hm:0<m:=af
 have e1:(j*m+i) / m=j:=by rw[Nat.mul_comm,Nat.mul_add_div hm,Nat.div_eq_of_lt hi];rfl
 have e2:(j'*m+i') / m=j':=by rw[Nat.mul_comm,Nat.mul_add_div hm,Nat.div_eq_of_lt hi'];rfl
 have:j=j':=by rw[<-e1,<-e2,h]
 subst this;exact⟨rfl,by omega⟩
theorem ew {rs:List α} {j k:Nat} {r:α} (hj:j<rs.length):(rs.set j r)[k]?=if j=k then M r else rs[k]?:=by
 rw[Y9];by_cases h:j=k
 ·subst h;simp[hj]
 ·simp[h]
section
variable {g m:Nat} {T:TypeId} {S N:Nat->Prop} {w wr w2:World} {rs:List (List Fv)} {j:Nat} {r:List Fv}
theorem e_(Zo:j<rs.length) {f:Fv} {i:Nat} (hil:i<r.length) {j':Nat} {r':List Fv} {i':Nat} {f':Fv} (Λ:(rs.set j (r.set i f))[j']?=M r') (hi':r'[i']?=M f'):
  (j'=j/\i'=i/\f'=f)\/(¬(j'=j/\i'=i)/\∃r0,(rs.set j r)[j']?=M r0/\r0[i']?=M f'):=by
 rw[ew Zo] at Λ ⊢;split at Λ
 ·next e=>
  cases Λ;rw[if_pos e];rw[Y9] at hi';split at hi'
  ·next e2=>
   try rw[if_pos hil] at hi'
   exact Zl ⟨e.symm,e2.symm,(Yd hi').symm⟩
  ·next e2=>exact Zk ⟨λq=>e2 q.2.symm,r,rfl,hi'⟩
 ·next e=>
  rw[if_neg e];exact Zk ⟨λq=>e q.1.symm,r',Λ,hi'⟩
theorem Fv.Own.jF {k:Nat} {v:Value} {u:Fv} {z:Value} {h:Nat} (hu:u.Own wr h S g z):u.Own (wr.setCell ⟨g,k,J⟩ v) h S g z:=by
 cases u with
 | l zs=>
  obtain⟨a',l',c',k1,k2,k3,k4,k5,k6⟩:=hu;refine⟨a',l',c',k1,k2,k3,k4,k5,k6.imp id ?_⟩;rintro⟨q1,q2,q3,cu,q4,q5⟩;exact⟨q1,q2,q3,cu,(Ya _ _ _ _ q3).trans q4,q5⟩
 | _=>exact hu
end
theorem rV {l:List α} {x:α} (h:l[i]?=M x):l.set i x=l:=by
 apply List.ext_getElem?;intro k;rw[Y9];split
 ·next e=>
  subst e;rw[if_pos (Yc.1 h).1,h]
 ·rfl
end Rc
abbrev Fact:=Value->World->Prop
def Fact.bT(φ:Fact):Prop:=∀v w w',φ v w->Below w.heap.size w w'->φ v w'
theorem Fact.dq(c:Value):Fact.bT (λv _=>v=c):=λ_ _ _ h _=>h
def slotFact(a0:Act) (known:List (Tmp×Fact)) (a:Act) (w:World) (t:Tmp):Prop:=
 match known.lookup t with
 | some φ=>φ (a.tmps.getD t undef) w
 | none=>a.tmps.getD t undef=a0.tmps.getD t undef
def Obl(P:Program) (ops:Array Oper) (Q:Exit->Act->World->Prop) (W:World) (a0:Act) (known:List (Tmp×Fact)) (o:Oper) (φ:Fact):Prop:=
 ∀(a:Act) (w:World) (K:Act->World->Prop),a.tmps.size=a0.tmps.size->Below W.heap.size W w->(∀t∈o.looksAt ops,slotFact a0 known a w t)->
  (∀v w',Below w.heap.size w w'->φ v w'->K (a.put o.dst v) w')->if YR o (yielded ops a.tmps)=Zi then o.wp P a w K Q else K (a.put o.dst undef) w
def looksOf(o:Oper):List Tmp:=o.op.operands.toList.filterMap fun | .tmp t=>M t|_=>J
theorem Obl.plain {known:List (Tmp×Fact)} {o:Oper} {φ:Fact} (hg:o.guard=J)
  (h:∀(a:Act) (w:World) (K:Act->World->Prop),a.tmps.size=a0.tmps.size->Below W.heap.size W w->(∀t∈looksOf o,slotFact a0 known a w t)->(∀v w',Below w.heap.size w w'->φ v w'->K (a.put o.dst v) w')->o.wp P a w K Q):Obl P ops Q W a0 known o φ:=by
 intro a w K h1 h2 h3 h4;have hw:YR o (yielded ops a.tmps)=Zi:=by simp[YR,hg]
 exact P_
def kl(P:Program) (ops:Array Oper) (Q:Exit->Act->World->Prop) (back:Option Oper) (a:Act) (w:World):Prop:=
 match back with
 | none=>Q .normal a w
 | some o=> ∀K:Act->World->Prop,(∀a w,Q .normal a w->K a w)->if YR o (yielded ops a.tmps)=Zi then o.wp P a w K Q else K (a.put o.dst undef) w
def aL(a0:Act) (known:List (Tmp×Fact)) (x:Tmp->Value):Act:=known.foldr (λp b=>b.put (M p.1) (x p.1)) a0
def Fin(P:Program) (ops:Array Oper) (Q:Exit->Act->World->Prop) (W:World) (a0:Act) (back:Option Oper) (known:List (Tmp×Fact)):Prop:=
 ∀(x:Tmp->Value) (w:World),Below W.heap.size W w->(∀p∈known,p.2 (x p.1) w)->kl P ops Q back (aL a0 known x) w
def kn(d:Option Tmp) (φ:Fact) (known:List (Tmp×Fact)):List (Tmp×Fact):=match d with|M t=>(t,φ) ::known|J=>known
def Grow(P:Program) (ops:Array Oper) (Q:Exit->Act->World->Prop) (W:World) (a0:Act) (back:Option Oper):List Oper->List (Tmp×Fact)->Prop
 | [],known=>Fin P ops Q W a0 back known
 | o ::rest,known=> ∃φ:Fact,φ.bT/\Obl P ops Q W a0 known o φ/\Grow P ops Q W a0 back rest (kn o.dst φ known)
theorem Grow.step {o:Oper} {known:List (Tmp×Fact)} {t:Tmp} (φ:Fact) (hd:o.dst=M t) (hφ:φ.bT) (ho:Obl P ops Q W a0 known o φ)
  (h:Grow P ops Q W a0 back rest ((t,φ) ::known)):Grow P ops Q W a0 back (o ::rest) known:=⟨φ,hφ,ho,by rw[hd];exact h⟩
theorem Grow.stepC {o:Oper} {known:List (Tmp×Fact)} {t:Tmp} (c:Value) (hd:o.dst=M t) (ho:Obl P ops Q W a0 known o (λv _=>v=c))
  (h:Grow P ops Q W a0 back rest ((t,λv _=>v=c) ::known)):Grow P ops Q W a0 back (o ::rest) known:=Grow.step _ hd (Fact.dq c) ho h
theorem Grow.done {known:List (Tmp×Fact)} (h:Fin P ops Q W a0 back known):Grow P ops Q W a0 back [] known:=h
def growB(n:Nat) (front:List Oper) (back:Option Oper):Bool:=
 let ops:=(front++back.toList).toArray
 decide ((front.filterMap (·.dst)).Nodup) && front.all (λo=>match o.dst with|M t=>decide (t<n)|J=>Zi) &&
 (Y3 front.length).all (λj=>match front[j]? with
  | some o=>(o.looksAt ops).all (λt=>(Y3 front.length).all λi=>match front[i]? with
    | some p=>p.dst !=M t || (decide (i<j) && o.after.any λe=>e.on==i && YW .any e)
    | none=>Zi)
  | none=>Zi) &&
 (Y3 ops.size).all (λj=>match ops[j]? with|M o=>o.after.all (λe=>decide (e.on<j))|J=>Zi) &&
 (match back with|M o=>(Y3 front.length).all (λi=>o.after.any λe=>e.on==i && YW .any e)|J=>Zi)
section
variable {P:Program} {ops:Array Oper} {Q:Exit->Act->World->Prop} {W:World} {a0:Act} {back:Option Oper}
def knAll:List (Tmp×Fact)->List Oper->List Fact->List (Tmp×Fact)
 | known,o ::l,φ ::φs=>knAll (kn o.dst φ known) l φs
 | known,_,_=>known
theorem cM(known:List (Tmp×Fact)) (φs:List Fact):knAll known [] φs=known:=by cases φs <;> rfl
theorem Grow.spec:∀(l:List Oper) (known:List (Tmp×Fact)),Grow P ops Q W a0 back l known->∃φs:List Fact,φs.length=l.length/\
  (∀(i:Nat) (o:Oper) (φ:Fact),l[i]?=M o->φs[i]?=M φ->φ.bT/\Obl P ops Q W a0 (knAll known (l.take i) (φs.take i)) o φ)/\Fin P ops Q W a0 back (knAll known l φs)
 | [],known,h=>⟨[],rfl,λi o φ h=>by simp at h,by rw[cM];exact h⟩
 | o ::l,known,h=>by
  exact Pe
theorem kX(d:Option Tmp) (φ:Fact) (known:List (Tmp×Fact)) (t:Tmp):(kn d φ known).lookup t=if d=M t then M φ else known.lookup t:=by
 exact QW
theorem de:∀(l:List Oper) (φs:List Fact) (known:List (Tmp×Fact)) {t:Tmp} {φ:Fact},(knAll known l φs).lookup t=M φ->
  (∃(i:Nat) (o:Oper),l[i]?=M o/\o.dst=M t/\φs[i]?=M φ)\/known.lookup t=M φ
 | [],φs,known,t,φ,h=>by rw[cM] at h;exact Zk h
 | o ::l,[],known,t,φ,h=>Zk h
 | o ::l,ψ ::φs,known,t,φ,h=>by
  exact Rj
theorem df:∀(l:List Oper) (φs:List Fact) (known:List (Tmp×Fact)) {t:Tmp},(knAll known l φs).lookup t=J->
  known.lookup t=J/\∀(i:Nat) (o:Oper) (φ:Fact),l[i]?=M o->φs[i]?=M φ->o.dst≠M t
 | [],φs,known,t,h=>by rw[cM] at h;exact⟨h,λi o φ h=>by simp at h⟩
 | o ::l,[],known,t,h=>⟨h,λi o φ _ h=>by simp at h⟩
 | o ::l,ψ ::φs,known,t,h=>by
  exact aib
theorem eo:∀(l:List Oper) (φs:List Fact) (known:List (Tmp×Fact)) {p:Tmp×Fact},p∈knAll known l φs->
  (∃(i:Nat) (o:Oper),l[i]?=M o/\o.dst=M p.1/\φs[i]?=M p.2)\/p∈known
 | [],φs,known,p,h=>by rw[cM] at h;exact Zk h
 | o ::l,[],known,p,h=>Zk h
 | o ::l,ψ ::φs,known,p,h=>by
  exact ah8
theorem kt(a:Act) (d t:Tmp) (v:Value):(a.put (M d) v).tmps.getD t undef=if d=t/\t<a.tmps.size then v else a.tmps.getD t undef:=by
 simp only[Y0,Ys,YH];by_cases h:d=t
 ·subst h;by_cases h2:d<a.tmps.size
  ·simp[h2]
  ·simp[h2]
 ·simp[h]
theorem size_put(a:Act) (d:Option Tmp) (v:Value):(a.put d v).tmps.size=a.tmps.size:=by cases d <;> simp[Y0]
theorem gG(a:Act) (d:Option Tmp) (v:Value):(a.put d v).defers=a.defers:=by cases d <;> simp[Y0]
theorem dU(a0:Act) (x:Tmp->Value):∀known,(aL a0 known x).tmps.size=a0.tmps.size
 | []=>rfl
 | p ::l=>by unfold aL;rw[List.foldr_cons,size_put];exact dU a0 x l
theorem dV(a0:Act) (x:Tmp->Value):∀known,(aL a0 known x).defers=a0.defers
 | []=>rfl
 | p ::l=>by unfold aL;rw[List.foldr_cons,gG];exact dV a0 x l
theorem ke(a0 a:Act) (known:List (Tmp×Fact)) (hk:∀p∈known,p.1<a0.tmps.size) (t:Tmp) (h:(∀p∈known,p.1≠t)->a.tmps.getD t undef=a0.tmps.getD t undef):
  (aL a0 known (λt=>a.tmps.getD t undef)).tmps.getD t undef=a.tmps.getD t undef:=by
 exact aim
theorem ahe {a b:Act} (hs:a.tmps.size=b.tmps.size) (hd:a.defers=b.defers) (h:∀t,a.tmps.getD t undef=b.tmps.getD t undef):a=b:=by
 cases a with|mk at_ ad=>cases b with|mk bt bd=>
 simp only at hs hd h;subst hd;congr 1;apply Array.ext hs;intro i h1 h2;have:=h i;simpa[Array.getD,h1,h2] using this
theorem cR {l:Array Bool} {i:Nat} (h:i<l.size):l.getD i Zg=l.getD i Zi:=by simp[Array.getD,h]
structure At (front:List Oper) (φs:List Fact) (W:World) (a0:Act) (listed:Array Bool) (a:Act) (w:World):Prop where
 size:a.tmps.size=a0.tmps.size
 defers:a.defers=a0.defers
 below:Below W.heap.size W w
 known:∀(i:Nat) (o:Oper) (φ:Fact),front[i]?=M o->φs[i]?=M φ->∀t,o.dst=M t->listed.getD i Zg=Zi->φ (a.tmps.getD t undef) w
 other:∀t,(∀(i:Nat) (o:Oper),front[i]?=M o->o.dst=M t->listed.getD i Zg=Zg)->a.tmps.getD t undef=a0.tmps.getD t undef
theorem fW:∀(l:List Oper),(l.filterMap (·.dst)).Nodup->∀{i j:Nat} {o p:Oper} {t:Tmp},l[i]?=M o->l[j]?=M p->o.dst=M t->p.dst=M t->i=j
 | [],_,i,j,o,p,t,h,_,_,_=>by simp at h
 | q ::l,hn,i,j,o,p,t,h1,h2,h3,h4=>by
  have aoa:∀{k:Nat} {r:Oper},l[k]?=M r->r.dst=M t->t∈l.filterMap (·.dst):=λh h'=>List.mem_filterMap.2 ⟨_,Yv h,h'⟩;have hn':(l.filterMap (·.dst)).Nodup:=by
   rw[List.filterMap_cons] at hn;split at hn
   ·exact hn
   ·exact (List.nodup_cons.1 hn).2
  cases i with
  | zero=>
   simp only[List.getElem?_cons_zero,YZ] at h1;subst h1
   cases j with
   | zero=>rfl
   | succ j=>
    simp only[List.getElem?_cons_succ] at h2;rw[List.filterMap_cons,h3] at hn;exact absurd (aoa h2 h4) (List.nodup_cons.1 hn).1
  | succ i=>
   simp only[List.getElem?_cons_succ] at h1
   cases j with
   | zero=>
    simp only[List.getElem?_cons_zero,YZ] at h2;subst h2;rw[List.filterMap_cons,h4] at hn;exact absurd (aoa h1 h3) (List.nodup_cons.1 hn).1
   | succ j=>
    simp only[List.getElem?_cons_succ] at h2;rw[fW l hn' h1 h2 h3 h4]
theorem At.step {front:List Oper} {φs:List Fact} {listed:Array Bool} {a:Act} {w w':World} {j:Nat} {o:Oper} {φ:Fact} {v:Value} (h:At front φs W a0 listed a w)
  (hn:(front.filterMap (·.dst)).Nodup) (Z6:∀o∈front,∀t,o.dst=M t->t<a0.tmps.size) (arz:∀(i:Nat) (o:Oper) (φ:Fact),front[i]?=M o->φs[i]?=M φ->φ.bT)
  (ho:front[j]?=M o) (hφ:φs[j]?=M φ) (hj:j<listed.size) (hb:Below w.heap.size w w') (hv:φ v w'):At front φs W a0 (listed.setIfInBounds j Zi) (a.put o.dst v) w':=by
 refine⟨(size_put _ _ _).trans h.size,(gG _ _ _).trans h.defers,h.below.trans (hb.mono h.below.size),?_,?_⟩
 ·intro i p ψ hp hψ t ht hl;by_cases e:j=i
  ·subst e;obtain rfl:o=p:=Yd (ho.symm.trans hp);obtain rfl:φ=ψ:=Yd (hφ.symm.trans hψ);exact P0
  ·have hl':listed.getD i Zg=Zi:=by
    simpa[Ys,YH,e] using hl
   have h1:=arz i p ψ hp hψ _ _ _ (h.known i p ψ hp hψ t ht hl') hb;cases hd:o.dst with
   | none=>exact h1
   | some d=>
    rw[kt,if_neg (λhx=>e (fW front hn ho hp (hd.trans (by rw[hx.1])) ht))];exact h1
 ·exact aik
theorem gE {n:Nat} {front:List Oper} {back:Option Oper} (h:growB n front back=Zi):
  (front.filterMap (·.dst)).Nodup/\(∀o∈front,∀t,o.dst=M t->t<n)/\
  (∀(j:Nat) (o:Oper),front[j]?=M o->∀t∈o.looksAt (front++back.toList).toArray,∀(i:Nat) (p:Oper),front[i]?=M p->p.dst=M t->i<j/\∃e∈o.after,e.on=i/\YW .any e=Zi)/\
  (∀(j:Nat) o,(front++back.toList).toArray[j]?=M o->∀e∈o.after,e.on<j)/\
  (∀o,back=M o->∀i,i<front.length->∃e∈o.after,e.on=i/\YW .any e=Zi):=by
 unfold growB at h;simp only[YI,decide_eq_true_eq] at h;obtain⟨⟨⟨⟨h1,h2⟩,h3⟩,h4⟩,h5⟩:=h;refine⟨h1,?_,?_,?_,?_⟩
 ·intro o ho t ht;have:=List.all_eq_true.1 h2 o ho;rw[ht] at this;simpa using this
 ·exact aip
 ·exact Rf
 ·intro o ho i hi;subst ho;have:=List.all_eq_true.1 h5 i (List.mem_range.2 hi);obtain⟨k,hk,hx⟩:=Array.any_eq_true.1 this;simp only[YI,beq_iff_eq] at hx;exact⟨_,Array.getElem_mem hk,hx.1,hx.2⟩
theorem gK {listed:Array Bool} (hs:listed.size=ops.size) (Zo:∀(j:Nat) o,ops[j]?=M o->∀e∈o.after,e.on<j) (hr:YU .any ops listed=[]):∀i,i<ops.size->listed.getD i Zg=Zi:=by
 intro i;induction i using Nat.strongRecOn with
 | _ i ih=>
  intro hi
  cases hb:listed.getD i Zg with
  | true=>rfl
  | false=>
   have ho:ops[i]?=M ops[i]:=Array.getElem?_eq_getElem hi;have hm:i∈YU .any ops listed:=mem_ready.2 ⟨by rw[<-cR af];exact hb,_,ho,λe he _=>ih e.on (Zo i _ ho e he) (Nat.lt_trans (Zo i _ ho e he) hi)⟩;rw[hr] at hm
   cases hm
theorem il {listed:Array Bool} (h:listed.toList.count Zg=0) (i:Nat) (hi:i<listed.size):listed.getD i Zg=Zi:=by
 have hm:listed[i]∈listed.toList:=aF
 cases hb:listed[i] with
 | true=>simp[Array.getD,hi,hb]
 | false=>
  rw[hb] at hm;exact absurd (List.count_pos_iff.2 hm) af
theorem count_set {listed:Array Bool} {i:Nat} (hi:i<listed.size) (hf:listed.getD i Zi=Zg):(listed.setIfInBounds i Zi).toList.count Zg+1=listed.toList.count Zg:=by
 have hb:listed[i]=Zg:=by simpa[Array.getD,hi] using hf
 have hm:Zg∈listed.toList:=by rw[<-hb];simp
 have hp:=List.count_pos_iff.2 hm;rw[Array.toList_setIfInBounds,List.count_set (by simpa using hi)];rw[Array.getElem_toList,hb];simp only[beq_self_eq_true,if_true,show (Zi==Zg)=Zg from rfl,Bool.false_eq_true,if_false];omega
theorem Fin.last {front:List Oper} {φs:List Fact} {listed:Array Bool} {a:Act} {w:World} (hf:Fin P ops Q W a0 back (knAll [] front φs)) (hlen:φs.length=front.length) (Z6:∀o∈front,∀t,o.dst=M t->t<a0.tmps.size)
  (h:At front φs W a0 listed a w) (ZL:∀i,i<front.length->listed.getD i Zg=Zi):kl P ops Q back a w:=by
 have h1:=hf (λt=>a.tmps.getD t undef) w h.below (λp hp=>by
  rcases eo front φs [] hp with ⟨i,o,h1,h2,h3⟩|h1
  ·exact h.known i o p.2 h1 h3 p.1 h2 (ZL i (Yc.1 h1).1)
  ·simp at h1)
 exact aiy
theorem dJ {front:List Oper} {φs:List Fact} (an_:ops=(front++back.toList).toArray) (hB:growB a0.tmps.size front back=Zi) (hlen:φs.length=front.length)
  (hs:∀(i:Nat) (o:Oper) (φ:Fact),front[i]?=M o->φs[i]?=M φ->φ.bT/\Obl P ops Q W a0 (knAll [] (front.take i) (φs.take i)) o φ) (hf:Fin P ops Q W a0 back (knAll [] front φs)):
  ∀(fuel:Nat) (listed:Array Bool) (a:Act) (w:World),listed.size=ops.size->listed.toList.count Zg<=fuel->(∀o,back=M o->listed.getD front.length Zg=Zg)->At front φs W a0 listed a w->wpAny P .any ops Q fuel listed a w:=by
 have arb:=@G _ @adm;exact qC
end
theorem bL(n i:Nat):(Array.replicate n Zg).getD i Zg=Zg:=by
 rw[Ys,Array.getElem?_replicate];split <;> rfl
theorem cB(hm:P.follows .mixedOrders=Zi) (hl:l=front++back.toList) (hB:growB a0.tmps.size front back=Zi)
  (h:Grow P l.toArray Q W a0 back front []):(Code.region id l.toArray Zi).wp P Q a0 W:=by
 obtain⟨φs,hlen,hs,hf⟩:=Grow.spec _ _ h;refine wp_region_any hm (dJ (by rw[hl]) hB hlen hs hf _ _ _ _ aF ?_ (λo ho=>?_) ⟨rfl,rfl,(Yh _ _).drew,λi o φ h1 h2 t ht hx=>?_,λt _=>rfl⟩)
 ·exact qS
 ·exact bL _ _
 ·rw[bL] at hx;cases hx
theorem bS {last:Oper} (hm:P.follows .mixedOrders=Zi) (hf:l.dropLast=front) (hb:l.getLast?=M last) (hB:growB a0.tmps.size front (M last)=Zi)
  (h:Grow P l.toArray Q W a0 (M last) front []):(Code.region id l.toArray Zi).wp P Q a0 W:=by
 refine cB hm ?_ hB h;exact xj
structure Vd where
 n:ByteArray
 c:Int
 z:ByteArray
 k:ByteArray
 x:Bool
 m:ByteArray
 y:Bool
 zs:List ByteArray
def Vd.Fit(v:Vd):Prop:=v.n.size<=9223372036854775807/\v.z.size<=9223372036854775807/\v.k.size<=9223372036854775807/\v.m.size<=9223372036854775807
def Vd.At(v:Vd) (w:World) (b o:Nat):Prop:=v.Fit/\∃a len cap,aw w a len cap v.zs/\
 w.cell? ⟨b,o,J⟩=M (I v.n)/\w.cell? ⟨b,o+1,J⟩=M (V O v.c)/\w.cell? ⟨b,o+2,J⟩=M (I v.z)/\w.cell? ⟨b,o+3,J⟩=M (I v.k)/\
 w.cell? ⟨b,o+4,J⟩=M (Zf v.x)/\w.cell? ⟨b,o+5,J⟩=M (I v.m)/\w.cell? ⟨b,o+6,J⟩=M (Zf v.y)/\w.cell? ⟨b,o+7,J⟩=M (U a len cap)
theorem Vd.At.below {v:Vd} {w:World} {b:Nat} (h:v.At w b o) (hl:b<w.heap.size) (hb:Below w.heap.size w w'):v.At w' b o:=by
 obtain⟨hf,a,len,cap,hr,h0,h1,h2,h3,h4,h5,h6,h7⟩:=h;exact⟨hf,a,len,cap,hr.below hb,(ah hb hl).trans h0,(ah hb hl).trans h1,(ah hb hl).trans h2,(ah hb hl).trans h3,(ah hb hl).trans h4,(ah hb hl).trans h5,(ah hb hl).trans h6,(ah hb hl).trans h7⟩
def fY(w:World) (a:Option Addr) (len cap:Nat) (vs:List Vd):Prop:=
 vs.length=len/\len<=cap/\cap<=9223372036854775807/\
 (vs=[]\/∃b o,a=M ⟨b,o,J⟩/\b<w.heap.size/\∀(j:Nat) v,vs[j]?=M v->v.At w b (o+j*8))
theorem fY.below {w:World} {len:Nat} {vs:List Vd} (h:fY w a len cap vs) (hb:Below w.heap.size w w'):fY w' a len cap vs:=by
 exact QP
theorem fY.at {w:World} {len:Nat} {vs:List Vd} (h:fY w a len cap vs) {j:Nat} (hj:j<len):
  ∃b o v,a=M ⟨b,o,J⟩/\b<w.heap.size/\vs[j]?=M v/\v.At w b (o+j*8):=by
 obtain⟨h1,h2,h3,h5⟩:=h;have hx:vs[j]?=M (vs[j]'(by omega)):=Yi _;exact P8
namespace Rc
structure Nd where
 n:ByteArray
 z:ByteArray
 c:Int
 s:Int
 u:Int
 d:Bool
 zs:List ByteArray
def ndF(x:Nd):List Fv:=[.s x.n,.s x.z,.i x.c,.i x.s,.i x.u,.b x.d,.l x.zs]
theorem bo {w:World} {b:Nat} {x:Nd} (h:RAt w b o (ndF x)):∃a len cap,aw w a len cap x.zs/\x.n.size<=9223372036854775807/\x.z.size<=9223372036854775807/\w.cell? ⟨b,o,J⟩=M (I x.n)/\w.cell? ⟨b,o+1,J⟩=M (I x.z)/\w.cell? ⟨b,o+2,J⟩=M (V O x.c)/\w.cell? ⟨b,o+3,J⟩=M (V O x.s)/\w.cell? ⟨b,o+4,J⟩=M (V O x.u)/\w.cell? ⟨b,o+5,J⟩=M (Zf x.d)/\w.cell? ⟨b,o+6,J⟩=M (U a len cap):=by
 obtain⟨v0,h0,rfl,z0⟩:=h 0 _ rfl;obtain⟨v1,h1,rfl,z1⟩:=h 1 _ rfl;obtain⟨v2,h2,rfl⟩:=h 2 _ rfl;obtain⟨v3,h3,rfl⟩:=h 3 _ rfl;obtain⟨v4,h4,rfl⟩:=h 4 _ rfl;obtain⟨v5,h5,rfl⟩:=h 5 _ rfl;obtain⟨v6,h6,a,len,cap,rfl,hr⟩:=h 6 _ rfl;exact⟨a,len,cap,hr,z0,z1,h0,h1,h2,h3,h4,h5,h6⟩
theorem dF {w:World} {len:Nat} {xs:List Nd} (h:aV w a len cap 7 (xs.map ndF)) {j:Nat} (hj:j<len):
  ∃b o x,a=M ⟨b,o,J⟩/\b<w.heap.size/\xs[j]?=M x/\RAt w b (o+j*7) (ndF x):=by
 exact pe
structure Kd where
 n:ByteArray
 x:Bool
 y:Bool
 z:ByteArray
def kdF(x:Kd):List Fv:=[.s x.n,.b x.x,.b x.y,.s x.z]
theorem dh {w:World} {b:Nat} {x:Kd} (h:RAt w b o (kdF x)):x.n.size<=9223372036854775807/\x.z.size<=9223372036854775807/\w.cell? ⟨b,o,J⟩=M (I x.n)/\w.cell? ⟨b,o+1,J⟩=M (Zf x.x)/\w.cell? ⟨b,o+2,J⟩=M (Zf x.y)/\w.cell? ⟨b,o+3,J⟩=M (I x.z):=by
 obtain⟨v0,h0,rfl,z0⟩:=h 0 _ rfl;obtain⟨v1,h1,rfl⟩:=h 1 _ rfl;obtain⟨v2,h2,rfl⟩:=h 2 _ rfl;obtain⟨v3,h3,rfl,z3⟩:=h 3 _ rfl;exact⟨z0,z3,h0,h1,h2,h3⟩
theorem gR {w:World} {len:Nat} {xs:List Kd} (h:aV w a len cap 4 (xs.map kdF)) {j:Nat} (hj:j<len):
  ∃b o x,a=M ⟨b,o,J⟩/\b<w.heap.size/\xs[j]?=M x/\RAt w b (o+j*4) (kdF x):=by
 exact pe
def vdF(x:Vd):List Fv:=[.s x.n,.i x.c,.s x.z,.s x.k,.b x.x,.s x.m,.b x.y,.l x.zs]
theorem bm {w:World} {b:Nat} {x:Vd} (h:RAt w b o (vdF x)):∃a len cap,aw w a len cap x.zs/\x.n.size<=9223372036854775807/\x.z.size<=9223372036854775807/\x.k.size<=9223372036854775807/\x.m.size<=9223372036854775807/\w.cell? ⟨b,o,J⟩=M (I x.n)/\w.cell? ⟨b,o+1,J⟩=M (V O x.c)/\w.cell? ⟨b,o+2,J⟩=M (I x.z)/\w.cell? ⟨b,o+3,J⟩=M (I x.k)/\w.cell? ⟨b,o+4,J⟩=M (Zf x.x)/\w.cell? ⟨b,o+5,J⟩=M (I x.m)/\w.cell? ⟨b,o+6,J⟩=M (Zf x.y)/\w.cell? ⟨b,o+7,J⟩=M (U a len cap):=by
 have arf:=@G _ @acG;exact qA
theorem bY {w:World} {len:Nat} {xs:List Vd} (h:aV w a len cap 8 (xs.map vdF)) {j:Nat} (hj:j<len):
  ∃b o x,a=M ⟨b,o,J⟩/\b<w.heap.size/\xs[j]?=M x/\RAt w b (o+j*8) (vdF x):=by
 exact pe
structure Xd where
 n:ByteArray
 z:Int
 k:ByteArray
 x:Bool
 v:ByteArray
def xdF(x:Xd):List Fv:=[.s x.n,.i x.z,.s x.k,.b x.x,.s x.v]
theorem bD {w:World} {b:Nat} {x:Xd} (h:RAt w b o (xdF x)):x.n.size<=9223372036854775807/\x.k.size<=9223372036854775807/\x.v.size<=9223372036854775807/\w.cell? ⟨b,o,J⟩=M (I x.n)/\w.cell? ⟨b,o+1,J⟩=M (V O x.z)/\w.cell? ⟨b,o+2,J⟩=M (I x.k)/\w.cell? ⟨b,o+3,J⟩=M (Zf x.x)/\w.cell? ⟨b,o+4,J⟩=M (I x.v):=by
 have arf:=@G _ @acF;exact qA
theorem dB {w:World} {len:Nat} {xs:List Xd} (h:aV w a len cap 5 (xs.map xdF)) {j:Nat} (hj:j<len):
  ∃b o x,a=M ⟨b,o,J⟩/\b<w.heap.size/\xs[j]?=M x/\RAt w b (o+j*5) (xdF x):=by
 exact pe
structure Pd where
 n:ByteArray
 c:Int
 z:ByteArray
 zs:List ByteArray
 d:ByteArray
 p:Int
def pdF(x:Pd):List Fv:=[.s x.n,.i x.c,.s x.z,.l x.zs,.s x.d,.i x.p]
theorem bK {w:World} {b:Nat} {x:Pd} (h:RAt w b o (pdF x)):∃a len cap,aw w a len cap x.zs/\x.n.size<=9223372036854775807/\x.z.size<=9223372036854775807/\x.d.size<=9223372036854775807/\w.cell? ⟨b,o,J⟩=M (I x.n)/\w.cell? ⟨b,o+1,J⟩=M (V O x.c)/\w.cell? ⟨b,o+2,J⟩=M (I x.z)/\w.cell? ⟨b,o+3,J⟩=M (U a len cap)/\w.cell? ⟨b,o+4,J⟩=M (I x.d)/\w.cell? ⟨b,o+5,J⟩=M (V O x.p):=by
 have arf:=@G _ @acE;exact qA
theorem db {w:World} {len:Nat} {xs:List Pd} (h:aV w a len cap 6 (xs.map pdF)) {j:Nat} (hj:j<len):
  ∃b o x,a=M ⟨b,o,J⟩/\b<w.heap.size/\xs[j]?=M x/\RAt w b (o+j*6) (pdF x):=by
 exact pe
structure Cl where
 ns:List Nd
 ks:List Kd
 vs:List Vd
 xs:List Xd
 ps:List Pd
 now:Int
structure Cr where
 n:List (List Fv)
 k:List (List Fv)
 v:List (List Fv)
 x:List (List Fv)
 p:List (List Fv)
def Cl.raw(c:Cl):Cr:=⟨c.ns.map ndF,c.ks.map kdF,c.vs.map vdF,c.xs.map xdF,c.ps.map pdF⟩
structure Ad where
 a1:Option Addr
 l1:Nat
 c1:Nat
 a2:Option Addr
 l2:Nat
 c2:Nat
 a3:Option Addr
 l3:Nat
 c3:Nat
 a4:Option Addr
 l4:Nat
 c4:Nat
 a5:Option Addr
 l5:Nat
 c5:Nat
@[reducible] def Zs (d:Ad) (n:Int):Array Value:=#[U d.a1 d.l1 d.c1,U d.a2 d.l2 d.c2,U d.a3 d.l3 d.c3,U d.a4 d.l4 d.c4,U d.a5 d.l5 d.c5,V O n]
@[reducible] def Zd (a1:Option Addr) (l1 y1:Nat) (a2:Option Addr) (l2 y2:Nat) (a3:Option Addr) (l3 y3:Nat) (a4:Option Addr) (l4 y4:Nat) (a5:Option Addr) (l5 y5:Nat) (n:Int):Array Value:=#[U a1 l1 y1,U a2 l2 y2,U a3 l3 y3,U a4 l4 y4,U a5 l5 y5,V O n]
@[reducible] def trv (d:Ad) (c:Cl) (p:Pd) (n:Nd) (pa:Option Addr) (pl pc:Nat) (na:Option Addr) (nl nc:Nat):Array Value:=#[U d.a1 d.l1 d.c1,U d.a2 d.l2 d.c2,U d.a3 d.l3 d.c3,U d.a4 d.l4 d.c4,U d.a5 d.l5 d.c5,V O c.now,I p.n,V O p.c,I p.z,U pa pl pc,I p.d,V O p.p,I n.n,I n.z,V O n.c,V O n.s,V O n.u,Zf n.d,U na nl nc]
@[reducible] def vov (v:Vd) (a:Option Addr) (l k:Nat):Array Value:=#[I v.n,V O v.c,I v.z,I v.k,Zf v.x,I v.m,Zf v.y,U a l k]
@[reducible] def pov (p:Pd) (a:Option Addr) (l k:Nat):Array Value:=#[I p.n,V O p.c,I p.z,U a l k,I p.d,V O p.p]
@[reducible] def nov (n:Nd) (a:Option Addr) (l k:Nat):Array Value:=#[I n.n,I n.z,V O n.c,V O n.s,V O n.u,Zf n.d,U a l k]
@[reducible] def xov (x:Xd):Array Value:=#[I x.n,V O x.z,I x.k,Zf x.x,I x.v]
structure aA (w:World) (d:Ad) (c:Cr):Prop where
 n:aV w d.a1 d.l1 d.c1 7 c.n
 k:aV w d.a2 d.l2 d.c2 4 c.k
 v:aV w d.a3 d.l3 d.c3 8 c.v
 x:aV w d.a4 d.l4 d.c4 5 c.x
 p:aV w d.a5 d.l5 d.c5 6 c.p
theorem aA.below {w:World} {d:Ad} {c:Cr} (h:aA w d c) (hb:Below w.heap.size w w'):aA w' d c:=⟨h.n.below hb,h.k.below hb,h.v.below hb,h.x.below hb,h.p.below hb⟩
structure lh (w:World) (d:Ad) (c:Cr) (S:Nat->Prop) (P:Nat->Nat):Prop where
 n:av w d.a1 d.l1 d.c1 7 81 c.n (λk=>S k/\P k=1)
 k:av w d.a2 d.l2 d.c2 4 72 c.k (λk=>S k/\P k=2)
 v:av w d.a3 d.l3 d.c3 8 37 c.v (λk=>S k/\P k=3)
 x:av w d.a4 d.l4 d.c4 5 47 c.x (λk=>S k/\P k=4)
 p:av w d.a5 d.l5 d.c5 6 102 c.p (λk=>S k/\P k=5)
def eL(w:World) (d:Ad) (c:Cr) (S:Nat->Prop):Prop:=∃P,lh w d c S P
theorem lh.row {w:World} {d:Ad} {c:Cr} {P:Nat->Nat} (h:lh w d c S P):aA w d c:=⟨h.n.row,h.k.row,h.v.row,h.x.row,h.p.row⟩
theorem eL.row {w:World} {d:Ad} {c:Cr} (h:eL w d c S):aA w d c:=by obtain⟨P,h⟩:=h;exact h.row
theorem RI:(Tryz.prog.info? 81).map (λi=>(i.zero,i.size,i.bytes))=M (M (Zj #[I ⟨#[]⟩,I ⟨#[]⟩,V O 0,V O 0,V O 0,Zf Zg,U J 0 0]),7,88):=by kernel_rfl
theorem RJ:(Tryz.prog.info? 72).map (λi=>(i.zero,i.size,i.bytes))=M (M (Zj #[I ⟨#[]⟩,Zf Zg,Zf Zg,I ⟨#[]⟩]),4,40):=by kernel_rfl
theorem jm:(Tryz.prog.info? 37).map (λi=>(i.zero,i.size,i.bytes))=M (M (Zj #[I ⟨#[]⟩,V O 0,I ⟨#[]⟩,I ⟨#[]⟩,Zf Zg,I ⟨#[]⟩,Zf Zg,U J 0 0]),8,112):=by kernel_rfl
theorem jl:(Tryz.prog.info? 47).map (λi=>(i.zero,i.size,i.bytes))=M (M (Zj #[I ⟨#[]⟩,V O 0,I ⟨#[]⟩,Zf Zg,I ⟨#[]⟩]),5,64):=by kernel_rfl
theorem rf:(Tryz.prog.info? 102).map (λi=>(i.zero,i.size,i.bytes))=M (M (Zj #[I ⟨#[]⟩,V O 0,I ⟨#[]⟩,U J 0 0,I ⟨#[]⟩,V O 0]),6,88):=by kernel_rfl
structure anU (c:Cl):Prop where
 l1:c.ns.length<=1048576
 f1:∀(j:Nat) x,c.ns[j]?=M x->x.zs.length<=1048576
 l2:c.ks.length<=1048576
 l3:c.vs.length<=1048576
 f3:∀(j:Nat) x,c.vs[j]?=M x->x.zs.length<=1048576
 l4:c.xs.length<=1048576
 l5:c.ps.length<=1048576
 f5:∀(j:Nat) x,c.ps[j]?=M x->x.zs.length<=1048576
def LFr(w:World) (h:Nat) (S:Nat->Prop) (zs:List ByteArray) (v:Value):Prop:=
 ∃a len cap,v=U a len cap/\zs.length=len/\len<=cap/\cap<=9223372036854775807/\(∀(j:Nat) x,zs[j]?=M x->x.size<=9223372036854775807)/\
  (zs=[]\/(a=M ⟨h,0,J⟩/\S h/\∃cu,w.heap[h]?=M (Ze cu 9 (0,0))/\∀(j:Nat) x,zs[j]?=M x->cu[j]?=M (I x)))
theorem LFr.ay {w:World} {zs:List ByteArray} {v:Value} (k:LFr w h S zs v) (hk:∀cu,S h->w.heap[h]?=M (Ze cu 9 (0,0))->w'.heap[h]?=w.heap[h]?) (hs:h<w.heap.size->S h->S' h):LFr w' h S' zs v:=by
 obtain⟨a',l',c',h1,h2,h3,h4,h5,h6⟩:=k;refine⟨a',l',c',h1,h2,h3,h4,h5,h6.imp id ?_⟩;rintro⟨q1,q2,cu,q4,q5⟩;exact⟨q1,hs (ae q4) q2,cu,(hk cu q2 q4).trans q4,q5⟩
def Fv.Fr(w:World) (h:Nat) (S:Nat->Prop):Fv->Value->Prop
 | .s t,v=>v=I t/\t.size<=9223372036854775807
 | .i n,v=>v=V O n
 | .b x,v=>v=Zf x
 | .l zs,v=>LFr w h S zs v
theorem Fv.Fr.ay {w:World} {f:Fv} {v:Value} (k:f.Fr w h S v) (hk:∀cu,S h->w.heap[h]?=M (Ze cu 9 (0,0))->w'.heap[h]?=w.heap[h]?) (hs:h<w.heap.size->S h->S' h):f.Fr w' h S' v:=by
 cases f with
 | l zs=>exact LFr.ay k hk hs
 | _=>exact k
theorem Fv.Fr.own {w:World} {f:Fv} {v:Value} (k:f.Fr w h S v) (hg:w.heap[g]?=M (Ze cur T (0,0))) (hT:¬T=9):f.Own w h S g v:=by
 cases f with
 | l zs=>
  obtain⟨a',l',c',h1,h2,h3,h4,h5,h6⟩:=k;refine⟨a',l',c',h1,h2,h3,h4,h5,h6.imp id ?_⟩;rintro⟨q1,q2,cu,q4,q5⟩;refine⟨q1,q2,?_,cu,q4,q5⟩;rintro rfl;rw[hg] at q4
  cases q4
  exact hT rfl
 | _=>exact k
theorem Fv.Own.fr {w:World} {f:Fv} {v:Value} (k:f.Own w h S g v):f.Fr w h S v:=by
 cases f with
 | l zs=>
  obtain⟨a',l',c',h1,h2,h3,h4,h5,h6⟩:=k;refine⟨a',l',c',h1,h2,h3,h4,h5,h6.imp id ?_⟩;rintro⟨q1,q2,q3,cu,q4,q5⟩;exact⟨q1,q2,cu,q4,q5⟩
 | _=>exact k
theorem Fv.Fr.one {w:World} {f:Fv} {v:Value} (k:f.Fr w h S v):v.oneCell'=Zi:=by
 cases f with
 | l zs=>obtain⟨a',l',c',rfl,_⟩:=k;rfl
 | s t=>obtain⟨rfl,_⟩:=k;rfl
 | i n=>cases (show v=V O n from k);rfl
 | b x=>cases (show v=Zf x from k);rfl
structure aR (w:World) (S:Nat->Prop) (m:Nat) (rs:List (List Fv)) (vss:List (List Value)) (H:Nat->Nat->Nat):Prop where
 len:vss.length=rs.length
 all:∀(j:Nat) vs,vss[j]?=M vs->vs.length=m
 rl:∀(j:Nat) r,rs[j]?=M r->r.length=m
 cell:∀(j:Nat) r vs,rs[j]?=M r->vss[j]?=M vs->∀(i:Nat) f,r[i]?=M f->∃v,vs[i]?=M v/\f.Fr w (H j i) S v
 inj:∀(j:Nat) r (i:Nat) zs (j':Nat) r' (i':Nat) ZB,rs[j]?=M r->r[i]?=M (.l zs)->zs≠[]->rs[j']?=M r'->r'[i']?=M (.l ZB)->ZB≠[]->H j i=H j' i'->j=j'/\i=i'
section
variable {w w':World} {S S':Nat->Prop} {m:Nat} {rs:List (List Fv)} {vss:List (List Value)} {H:Nat->Nat->Nat}
theorem aR.nil(w:World) (S:Nat->Prop) (m:Nat) (H:Nat->Nat->Nat):aR w S m [] [] H:=⟨rfl,λj vs h=>by simp at h,λj r h=>by simp at h,λj r vs h=>by simp at h,λj r i zs j' r' i' ZB h=>by simp at h⟩
theorem aR.ay(h:aR w S m rs vss H) (hk:∀k cu,S k->w.heap[k]?=M (Ze cu 9 (0,0))->w'.heap[k]?=w.heap[k]?) (hs:∀k,k<w.heap.size->S k->S' k):aR w' S' m rs vss H:=
 ⟨h.len,h.all,h.rl,λj r vs h1 h2 i f h3=>by
  obtain⟨v,h4,h5⟩:=h.cell j r vs h1 h2 i f h3;exact⟨v,h4,h5.ay (hk _) (hs _)⟩,h.inj⟩
theorem aR.below(h:aR w S m rs vss H) (hb:Below w.heap.size w w'):aR w' S m rs vss H:=h.ay (λk _ _ q=>hb.block k (ae q)) (λ_ _ s=>s)
theorem aR.grown(h:aR w S m rs vss H) {base n:Nat} {T:TypeId} {v:Value} {xs:List Value} (ho:w.ownsRow base T m v n xs) (hT:¬T=9) (hg:w.grownBy w' v.ownBlock):aR w' S m rs vss H:=by
 refine h.ay (λk cu _ q=>hg.block k (ae q) (λe=>?_)) (λ_ _ s=>s);rcases ho.2 with ⟨rfl,_⟩|⟨g,cap,cur,rfl,_,hgg,_⟩
 ·cases e
 ·cases e;simp only[] at q;rw[hgg] at q;cases q;exact hT rfl
theorem aR.lt(h:aR w S m rs vss H) {j:Nat} {r:List Fv} {i:Nat} {zs:List ByteArray} (h1:rs[j]?=M r) (h2:r[i]?=M (.l zs)) (h3:zs≠[]):H j i<w.heap.size:=by
 have hj:j<vss.length:=by rw[h.len];exact (Yc.1 h1).1
 obtain⟨v,_,a,len,cap,_,_,_,_,_,h9⟩:=h.cell j r _ h1 (Yi hj) i _ h2;rcases h9 with h9|⟨_,_,cu,q4,_⟩
 ·exact absurd h9 h3
 ·exact ae q4
theorem aR.sel(h:aR w S m rs vss H) {rs':List (List Fv)} {aub:List (List Value)} (f:Nat->Nat) (hl:aub.length=rs'.length) (hr:∀j,j<rs'.length->rs'[j]?=rs[f j]?) (hv:∀j,j<rs'.length->aub[j]?=vss[f j]?)
  (hf:∀j j',j<rs'.length->j'<rs'.length->f j=f j'->j=j'):aR w S m rs' aub (λj=>H (f j)):=by
 have lt1:∀{j:Nat} {r},rs'[j]?=M r->j<rs'.length:=λh=>(Yc.1 h).1;have lt2:∀{j:Nat} {r},aub[j]?=M r->j<rs'.length:=λh=>by rw[<-hl];exact (Yc.1 h).1
 refine⟨hl,λj vs h1=>h.all (f j) vs (by rw[<-hv j (lt2 h1)];exact h1),λj r h1=>h.rl (f j) r (by rw[<-hr j (lt1 h1)];exact h1),λj r vs h1 h2=>h.cell (f j) r vs (by rw[<-hr j (lt1 h1)];exact h1) (by rw[<-hv j (lt1 h1)];exact h2),?_⟩;intro j r i zs j' r' i' ZB h1 h2 h3 h4 h5 h6 h7;obtain⟨e1,e2⟩:=h.inj (f j) r i zs (f j') r' i' ZB (by rw[<-hr j (lt1 h1)];exact h1) h2 h3 (by rw[<-hr j' (lt1 h4)];exact h4) h5 h6 h7;exact⟨hf j j' (lt1 h1) (lt1 h4) e1,e2⟩
theorem aR.push(h:aR w S m rs vss H) {r:List Fv} {vs:List Value} {hh:Nat->Nat} (hr:r.length=m) (hvs:vs.length=m) (hc:∀(i:Nat) f,r[i]?=M f->∃v,vs[i]?=M v/\f.Fr w (hh i) S v)
  (hn:∀(i:Nat) zs,r[i]?=M (.l zs)->zs≠[]->∀(j:Nat) r' (i':Nat) ZB,rs[j]?=M r'->r'[i']?=M (.l ZB)->ZB≠[]->¬H j i'=hh i)
  (h1:∀(i i':Nat) zs ZB,r[i]?=M (.l zs)->zs≠[]->r[i']?=M (.l ZB)->ZB≠[]->i=i'):
  aR w S m (rs++[r]) (vss++[vs]) (λj=>if j=rs.length then hh else H j):=by
 have at1:∀{α:Type} {l:List α} {x y:α} {j:Nat},(l++[x])[j]?=M y->(j=l.length/\y=x)\/(j<l.length/\l[j]?=M y):=by
  intro α l x y j hj;by_cases e:j<l.length
  ·rw[Yu e] at hj;exact Zk ⟨e,hj⟩
  ·rw[List.getElem?_append_right af] at hj;rcases Nat.eq_zero_or_pos (j - l.length) with e0|e0
   ·rw[e0] at hj;exact Zl ⟨by omega,by simpa using hj.symm⟩
   ·rw[List.getElem?_eq_none bg] at hj;cases hj
 refine⟨by simp[h.len],λj v hv=>?_,λj r' hj=>?_,λj r' v hj hv i f hf=>?_,λj r1 i zs j' r2 i' ZB a1 a2 a3 b1 b2 b3 e=>?_⟩
 ·rcases at1 hv with ⟨_,rfl⟩|⟨_,hv⟩
  ·exact hvs
  ·exact h.all j v hv
 ·rcases at1 hj with ⟨_,rfl⟩|⟨_,hj⟩
  ·exact hr
  ·exact h.rl j r' hj
 ·rcases at1 hj with ⟨e1,rfl⟩|⟨e1,hj⟩
  ·rcases at1 hv with ⟨_,rfl⟩|⟨e2,hv⟩
   ·simp only[e1,if_true];exact hc i f hf
   ·have:=h.len;omega
  ·rcases at1 hv with ⟨e2,rfl⟩|⟨e2,hv⟩
   ·have:=h.len;omega
   ·simp only[if_neg (show¬j=rs.length by omega)];exact h.cell j r' v hj hv i f hf
 ·rcases at1 a1 with ⟨e1,rfl⟩|⟨e1,a4⟩ <;> rcases at1 b1 with ⟨e2,rfl⟩|⟨e2,b4⟩
  ·exact⟨by omega,h1 _ _ _ _ a2 a3 b2 b3⟩
  ·simp only[e1,if_true,if_neg (show¬j'=rs.length by omega)] at e;exact absurd e.symm (hn i zs a2 a3 j' r2 i' ZB b4 b2 b3)
  ·simp only[e2,if_true,if_neg (show¬j=rs.length by omega)] at e;exact absurd e (hn i' ZB b2 b3 j r1 i zs a4 a2 a3)
  ·simp only[if_neg (show¬j=rs.length by omega),if_neg (show¬j'=rs.length by omega)] at e;exact h.inj j r1 i zs j' r2 i' ZB a4 a2 a3 b4 b2 b3 e
end
theorem gF {m:Nat} :∀{vss:List (List α)},(∀(j:Nat) vs,vss[j]?=M vs->vs.length=m)->∀{j:Nat} {vs:List α} {i:Nat} {u:α},vss[j]?=M vs->vs[i]?=M u->vss.flatten[j*m+i]?=M u
 | [],_,j,vs,i,u,h,_=>by simp at h
 | x ::vss,hl,0,vs,i,u,h,hu=>by
  obtain rfl:x=vs:=j_
  have hx:=hl 0 x rfl;have hi:=(Yc.1 hu).1;rw[List.flatten_cons,Yu af,Nat.zero_mul,Yp];exact hu
 | x ::vss,hl,j+1,vs,i,u,h,hu=>by
  have hx:=hl 0 x rfl;rw[List.flatten_cons,List.getElem?_append_right (by rw[hx,Nat.succ_mul];omega),hx,show (j+1)*m+i - m=j*m+i by rw[Nat.succ_mul];omega];exact gF (λj' vs' h'=>hl (j'+1) vs' (by simpa using h')) j_ hu
theorem ku {m:Nat} :∀{vss:List (List α)},(∀(j:Nat) vs,vss[j]?=M vs->vs.length=m)->∀{k:Nat} {u:α},vss.flatten[k]?=M u->∃(j i:Nat) (vs:List α),vss[j]?=M vs/\vs[i]?=M u/\k=j*m+i
 | [],_,k,u,h=>by simp at h
 | x ::vss,hl,k,u,h=>by
  have hx:=hl 0 x rfl;rw[List.flatten_cons] at h;by_cases e:k<m
  ·rw[Yu af] at h;exact⟨0,k,x,rfl,h,by omega⟩
  ·rw[List.getElem?_append_right af,hx] at h;obtain⟨j,i,vs,h1,h2,h3⟩:=ku (λj' vs' h'=>hl (j'+1) vs' (by simpa using h')) h;exact⟨j+1,i,vs,by simpa using h1,h2,by rw[Nat.succ_mul];omega⟩
theorem eH {m:Nat} :∀{vss:List (List α)},(∀(j:Nat) vs,vss[j]?=M vs->vs.length=m)->vss.flatten.length=vss.length*m
 | [],_=>by simp
 | x ::vss,hl=>by
  have hx:=hl 0 x rfl;rw[List.flatten_cons,YP,eH (λj' vs' h'=>hl (j'+1) vs' (by simpa using h')),hx,List.length_cons,Nat.succ_mul];omega
theorem aR.one {w:World} {m:Nat} {rs:List (List Fv)} (h:aR w S m rs vss H):∀u∈vss.flatten,u.oneCell'=Zi:=by
 intro u hu;obtain⟨k,hk,rfl⟩:=List.mem_iff_getElem.1 hu;obtain⟨j,i,vs,h1,h2,_⟩:=ku h.all (Yi hk);have hj:j<rs.length:=by rw[<-h.len];exact (Yc.1 h1).1
 have hr:=Yi hj;have hi:i<(rs[j]).length:=by rw[h.rl j _ hr,<-h.all j vs h1];exact (Yc.1 h2).1
 obtain⟨v,h3,h4⟩:=h.cell j _ vs hr h1 i _ (Yi hi);rw[h2] at h3;cases h3;exact h4.one
theorem aR.own {w:World} {m:Nat} {rs:List (List Fv)} (h:aR w S m rs vss H) {base n:Nat} {v:Value} (ho:w.ownsRow base T m v n vss.flatten) (hn:n=rs.length) (hT:¬T=9) (hS:∀g,v.ownBlock=M g->S g):
  ∃a cap,v=U a rs.length cap/\av w a rs.length cap m T rs S:=by
 subst hn;rcases ho.2 with ⟨rfl,h0⟩|⟨g,cap,cur,rfl,_,hgg,h1,h2,h3,h4⟩
 ·obtain rfl:rs=[]:=YO h0;exact⟨J,0,rfl,av.nil _ _ _ _ _ af⟩
 ·refine⟨_,cap,rfl,rfl,h1,by unfold maxLen at h2;omega,Zk ⟨g,cur,H,rfl,hgg,hS g rfl,h.rl,λj r hj i f hi=>?_,h.inj⟩⟩;have hjl:j<vss.length:=by rw[h.len];exact (Yc.1 hj).1
  have hv:=Yi hjl;obtain⟨u,h5,h6⟩:=h.cell j r _ hj hv i f hi;have h7:=gF h.all hv h5;rw[<-h4,YC] at h7;split at h7
  ·exact⟨u,by simpa using h7,h6.own hgg hT⟩
  ·cases h7
theorem av.jK {w:World} {m:Nat} {len:Nat} {rs:List (List Fv)} (h:av w a len cap m T rs S):
  ∃vss H,aR w S m rs vss H/\∀(k:Nat) u,vss.flatten[k]?=M u->∃g,a=M ⟨g,0,J⟩/\S g/\w.cell? ⟨g,k,J⟩=M u:=by
 obtain⟨h1,h2,h3,h4⟩:=h;rcases h4 with rfl|⟨g,cur,H,rfl,h5⟩
 ·exact⟨[],λ_ _=>0,aR.nil _ _ _ _,λk u hu=>by simp at hu⟩
 ·have aq1:∀(j i:Nat),((Y3 rs.length).map λj=>(Y3 m).map λi=>cur.getD (j*m+i) undef)[j]?=if j<rs.length then M ((Y3 m).map λi=>cur.getD (j*m+i) undef) else J:=by
   intro j _;rw[Yt];split
   ·next e=>rw[List.getElem?_range e];rfl
   ·next e=>rw[List.getElem?_eq_none (by simpa using e)];rfl
  have hval:∀(j:Nat) r,rs[j]?=M r->∀(i:Nat),i<m->∃f v,r[i]?=M f/\cur[j*m+i]?=M v/\f.Own w (H j i) S g v/\((Y3 m).map λi=>cur.getD (j*m+i) undef)[i]?=M v:=by
   intro j r hr i hi;have hl:=h5.len j r hr;have hf:=Yi (l:=r) (i:=i) af;obtain⟨v,q1,q2⟩:=h5.cell j r hr i _ hf;refine⟨_,v,hf,q1,q2,?_⟩;rw[Yt,List.getElem?_range hi];simp[Ys,q1]
  have arA:aR w S m rs ((Y3 rs.length).map λj=>(Y3 m).map λi=>cur.getD (j*m+i) undef) H:=by
   refine⟨by simp,λj vs hv=>?_,h5.len,λj r vs hr hv i f hf=>?_,h5.inj⟩
   ·rw[aq1 j 0] at hv;split at hv
    ·cases hv;simp
    ·cases hv
   ·rw[aq1 j 0,if_pos (Yc.1 hr).1] at hv;cases hv;have hi:i<m:=by rw[<-h5.len j r hr];exact (Yc.1 hf).1
    obtain⟨f',v,q1,q2,q3,q4⟩:=hval j r hr i hi;rw[hf] at q1;cases q1;exact⟨v,q4,q3.fr⟩
  refine⟨_,H,arA,λk u hu=>⟨g,rfl,h5.inS,?_⟩⟩;obtain⟨j,i,vs,e1,e2,rfl⟩:=ku arA.all hu;rw[aq1 j 0] at e1;split at e1
  ·next e=>
   cases e1;have hi:i<m:=by have:=(Yc.1 e2).1;simpa using this
   obtain⟨f',v,q1,q2,q3,q4⟩:=hval j _ (Yi e) i hi;rw[e2] at q4;cases q4;exact (al h5.blk _).trans q2
  ·cases e1
theorem eG:∀x:List UInt8,Yk x x=Zg
 | []=>rfl
 | a ::x=>by simp[Yk,eG x]
theorem cK:∀x y z:List UInt8,Yk x y=Zi->Yk y z=Zi->Yk x z=Zi
 | _,[],_,h,_=>by cases ‹List UInt8› <;> simp[Yk] at h
 | _,_ ::_,[],_,h=>by simp[Yk] at h
 | [],_ ::_,_ ::_,_,_=>rfl
 | a ::x,b ::y,c ::z,h,k=>by
  simp only[Yk,Bool.or_eq_true,decide_eq_true_eq,YI,beq_iff_eq] at h k ⊢;rcases h with h|⟨rfl,h⟩
  ·rcases k with k|⟨rfl,k⟩
   ·exact Zl (UInt8.lt_trans h k)
   ·exact Zl h
  ·rcases k with k|⟨rfl,k⟩
   ·exact Zl k
   ·exact Zk ⟨rfl,cK x y z h k⟩
section
variable {α:Type} {nm:α->ByteArray} {xs:List α} {t:ByteArray}
def aH(nm:α->ByteArray) (xs:List α):Prop:=∀(j:Nat) x y,xs[j+1]?=M x->xs[j]?=M y->Yk (nm y).toList (nm x).toList=Zi
theorem aH.lt(h:aH nm xs) {i j:Nat} {x y:α} (hij:i<j) (hi:xs[i]?=M x) (hj:xs[j]?=M y):Yk (nm x).toList (nm y).toList=Zi:=by
 induction j generalizing y with
 | zero=>omega
 | succ j ih=>
  by_cases e:i=j
  ·subst e;exact h i y x hj hi
  ·have hl:j<xs.length:=by have:=(Yc.1 hj).1;omega
   have hz:xs[j]?=M (xs[j]'hl):=Yi _;exact cK _ _ _ (ih af hz) (h j y _ hj hz)
theorem aH.inj(h:aH nm xs) {i j:Nat} {x y:α} (hi:xs[i]?=M x) (hj:xs[j]?=M y) (e:nm x=nm y):i=j/\x=y:=by
 have hij:i=j:=by
  rcases Nat.lt_trichotomy i j with k|k|k
  ·have:=h.lt k hi hj;rw[e,eG] at this;cases this
  ·exact k
  ·have:=h.lt k hj hi;rw[e,eG] at this;cases this
 subst hij;rw[hi] at hj;exact⟨rfl,Yd hj⟩
def pl(nm:α->ByteArray) (xs:List α) (t:ByteArray):Nat:=xs.findIdx (λx=> !Yk (nm x).toList t.toList)
def hit(nm:α->ByteArray) (xs:List α) (t:ByteArray):Bool:=match xs[pl nm xs t]? with|M x=>(nm x).toList==t.toList|J=>Zg
theorem pj {k:Nat} {x:α} (h:∀(j:Nat) y,j<k->xs[j]?=M y->Yk (nm y).toList t.toList=Zi) (hx:xs[k]?=M x) (hl:Yk (nm x).toList t.toList=Zg):pl nm xs t=k:=by
 have hk:k<xs.length:=(Yc.1 hx).1;have hxe:xs[k]=x:=(Yc.1 hx).2;unfold pl;rw[List.findIdx_eq hk];refine⟨by rw[hxe,hl];rfl,λj hj=>?_⟩;rw[h j _ hj (Yi af)];rfl
theorem ik(h:∀(j:Nat) y,xs[j]?=M y->Yk (nm y).toList t.toList=Zi):pl nm xs t=xs.length:=by
 unfold pl;rw[List.findIdx_eq_length];intro x hx;obtain⟨j,hj,rfl⟩:=List.mem_iff_getElem.1 hx;rw[h j _ (Yi hj)];rfl
theorem dy {a b:ByteArray} (h:(a.toList==b.toList)=Zi):a=b:=by
 by_cases e:a=b
 ·exact e
 ·rw[bu e] at h;cases h
theorem bj(hr:aH nm xs) {j:Nat} {x:α} (hx:xs[j]?=M x) (hn:nm x=t):pl nm xs t=j/\hit nm xs t=Zi:=by
 have h:pl nm xs t=j:=pj (λi y hi hy=>by rw[<-hn];exact hr.lt hi hy hx) hx (by rw[hn];exact eG _);refine⟨h,?_⟩;unfold hit;rw[h,hx];exact aP hn
theorem cy(h:hit nm xs t=Zi):∃x,xs[pl nm xs t]?=M x/\nm x=t:=by
 unfold hit at h;split at h
 ·next x hx=>exact⟨x,hx,dy h⟩
 ·cases h
def fk(ok:α->Prop) (nm:α->ByteArray) (xs:List α) (Zu:Int):Prop:=(xs.length:Int)<=Zu/\(∀(j:Nat) x,xs[j]?=M x->ok x)/\aH nm xs
end
theorem ar.yes {p:Prop} {w:World} (h:ar p w e w') (hp:p):e=Zh (Zf Zi)/\Below w.heap.size w w':=by
 obtain⟨r,rfl,hr,hb⟩:=h;exact⟨by rw[hr.2 hp],hb⟩
theorem ar.no {p:Prop} {w:World} (h:ar p w e w') (hp:¬p):e=Zh (Zf Zg)/\Below w.heap.size w w':=by
 obtain⟨r,rfl,hr,hb⟩:=h;cases r
 ·exact⟨rfl,hb⟩
 ·exact absurd (hr.1 rfl) hp
theorem ar.t {p:Prop} {w:World} (hp:p) (hb:Below w.heap.size w w'):ar p w (Zh (Zf Zi)) w':=⟨Zi,rfl,⟨λ_=>hp,λ_=>rfl⟩,hb⟩
theorem ar.f {p:Prop} {w:World} (hp:¬p) (hb:Below w.heap.size w w'):ar p w (Zh (Zf Zg)) w':=⟨Zg,rfl,⟨λh=>(by cases h),λh=>absurd h hp⟩,hb⟩
def xI(x:Nd):Prop:=yr x.n x.z x.c x.s x.u x.zs
def xS(x:Kd):Prop:=kE x.n x.z
def rM(v:Vd):Prop:=Bu v.n v.c v.z v.k v.x v.m v.y v.zs
def gX(x:Xd):Prop:=iT x.n x.z x.k x.v
def vy(x:Pd):Prop:=Sa x.n x.c x.z x.zs x.d x.p
def Bw(y W:World):Prop:=Below y.heap.size y W
theorem Bw.refl(y:World):Bw y y:=Yh _ _
theorem Bw.below {y W':World} (h:Bw y W) (hb:Below W.heap.size W W'):Bw y W':=Below.trans h (hb.mono (Below.size h))
theorem Bw.out {y:World} (h:Bw y W):Below y.heap.size y W:=h
def bG(w:World) (a:Option Addr) (l c:Nat) (zs:List ByteArray) (S:Nat->Prop):Prop:=
 aw w a l c zs/\(zs=[]\/∃g cur,a=M ⟨g,0,J⟩/\S g/\w.heap[g]?=M (Ze cur 9 (0,0)))
theorem bG.ay {w:World} {l c:Nat} {zs:List ByteArray} (h:bG w a l c zs S) (hk:∀k,k<w.heap.size->S k->w'.heap[k]?=w.heap[k]?) (hs:∀k,k<w.heap.size->S k->S' k):bG w' a l c zs S':=by
 obtain⟨⟨h1,h2,h3,h4,h5⟩,h6⟩:=h;rcases h6 with rfl|⟨g,cur,rfl,hS,hg⟩
 ·exact⟨⟨h1,h2,h3,h4,Zl rfl⟩,Zl rfl⟩
 ·have hg':=(hk g (ae hg) hS).trans hg;refine⟨⟨h1,h2,h3,h4,h5.imp id ?_⟩,Zk ⟨g,cur,rfl,hs g (ae hg) hS,hg'⟩⟩;rintro⟨b,o,e,Zo,hc⟩;cases e;exact⟨g,0,rfl,ae hg',λj x hx=>by have:=hc j x hx;rw[al hg] at this;rw[al hg'];exact this⟩
theorem bG.below {w:World} {l c:Nat} {zs:List ByteArray} (h:bG w a l c zs S) (hb:Below w.heap.size w w'):bG w' a l c zs S:=h.ay (λk hk _=>hb.block k hk) (λ_ _ s=>s)
theorem bG.bC {w:World} {l c:Nat} {zs:List ByteArray} (h:bG w a l c zs S) (hs:∀k,k<w.heap.size->S k->S' k):bG w a l c zs S':=h.ay (λ_ _ _=>rfl) hs
theorem bG.row {w:World} {l c:Nat} {zs:List ByteArray} (h:bG w a l c zs S):aw w a l c zs:=h.1
theorem bG.fh {w:World} {n:Nat} {v:Value} {zs:List ByteArray} (h:w.ownsRow base 9 1 v n (zs.map Yn)) (hs:∀(j:Nat) x,zs[j]?=M x->x.size<=9223372036854775807):∃a c,v=U a n c/\bG w a n c zs (λk=>base<=k):=by
 obtain⟨hl,h⟩:=h;have hl':zs.length=n:=by simpa using hl
 rcases h with ⟨rfl,rfl⟩|⟨g,cap,cur,rfl,hbg,hg,hnc,hcm,Zq,htk⟩
 ·obtain rfl:zs=[]:=YO hl';exact⟨J,0,rfl,⟨rfl,Ye _,by omega,λj x hx=>by simp at hx,Zl rfl⟩,Zl rfl⟩
 ·refine⟨M ⟨g,0,J⟩,cap,rfl,⟨hl',hnc,by unfold maxLen at hcm;omega,hs,Zk ⟨g,0,rfl,ae hg,λj x hx=>?_⟩⟩,Zk ⟨g,cur,rfl,hbg,hg⟩⟩;exact Q7
theorem cv {w:World} {n m:Nat} {v:Value} {xs:List Value} (h:w.ownsRow base T m v n xs) (hb:Below w.heap.size w w'):w'.ownsRow base T m v n xs:=by
 refine⟨h.1,h.2.imp id ?_⟩;rintro⟨g,cap,cur,h1,h2,h3,h4⟩;exact⟨g,cap,cur,h1,h2,(hb.block _ (ae h3)).trans h3,h4⟩
end Rc
namespace Ap
def cj(zs:List ByteArray) (w:World) (a:Option Addr) (len cap:Nat) (w':World):Prop:=
 aw w' a len cap zs/\(zs=[]\/∃g cur,a=M ⟨g,0,J⟩/\w.heap.size<=g/\w'.heap[g]?=M (Ze cur 9 (0,0)))/\Below w.heap.size w w'
theorem A6 {w:World} {ad:Addr} {len:Nat} {zs:List ByteArray} (h:aw w (M ad) len cap zs):∀j u,(zs.map Yn)[j]?=M u->w.cell? (ad.add j)=M u:=by
 intro j u hu;rw[Yt] at hu;obtain⟨x,hx,rfl⟩:=YE.1 hu;rcases h.2.2.2.2 with h|⟨b,o,e,_,hc⟩
 ·subst h;simp at hx
 ·cases e;rw[Ym];exact hc j x hx
theorem cj.set {zs:List ByteArray} {w:World} {l p b X:Nat} {v:Value} (h:aw w' a l p zs/\(zs=[]\/∃g cur,a=M ⟨g,0,J⟩/\X<=g/\w'.heap[g]?=M (Ze cur 9 (0,0)))/\Below w.heap.size w w') (hb:w.heap.size<=b) (hX:b<X):
  aw (w'.setCell ⟨b,i,J⟩ v) a l p zs/\(zs=[]\/∃g cur,a=M ⟨g,0,J⟩/\X<=g/\(w'.setCell ⟨b,i,J⟩ v).heap[g]?=M (Ze cur 9 (0,0)))/\Below w.heap.size w (w'.setCell ⟨b,i,J⟩ v):=by
 obtain⟨⟨h1,h2,h3,h4,h5⟩,h6,h7⟩:=h;refine⟨⟨h1,h2,h3,h4,?_⟩,?_,h7.setCell hb v⟩
 ·rcases h6 with h6|⟨g,cur,rfl,hg,hh⟩
  ·exact Zl h6
  ·rcases h5 with h5|⟨g',o,e,hl,hc⟩
   ·exact Zl h5
   ·cases e;have hs:(w'.setCell ⟨b,i,J⟩ v).heap[g]?=w'.heap[g]?:=Ya _ _ _ _ (show g≠b by omega);exact Zk ⟨g,0,rfl,by simpa[YV] using hl,λj x hx=>by have:=hc j x hx;simp only[YX,hs] at this ⊢;exact this⟩
 ·rcases h6 with h6|⟨g,cur,rfl,hg,hh⟩
  ·exact Zl h6
  ·exact Zk ⟨g,cur,rfl,hg,(Ya _ _ _ _ (show g≠b by omega)).trans hh⟩
theorem alI(n:ByteArray) (c:Int) (z:ByteArray) (k:ByteArray) (x:Bool) (m:ByteArray) (y:Bool) (a:Option Addr) (len cap:Nat) (zs:List ByteArray) (w:World) (hr:aw w a len cap zs) (hl:len<=8001):
  Calls Tryz.prog 38 #[Zj #[I n,V O c,I z,I k,Zf x,I m,Zf y,U a len cap]] w λe w'=> ∃a' l p,e=Zh (Zj #[I n,V O c,I z,I k,Zf x,I m,Zf y,U a' l p])/\cj zs w a' l p w':=by
 have ζ:(((w.alloc (Ze #[I n,V O c,I z,I k,Zf x,I m,Zf y,U a len cap] 37)).alloc (Ze #[I ⟨#[]⟩,V O 0,I ⟨#[]⟩,I ⟨#[]⟩,Zf Zg,I ⟨#[]⟩,Zf Zg,U J 0 0] 37)).alloc (Ze #[] 9)).ownsRow (w.heap.size+1+1) 9 1 (U (M ⟨w.heap.size+1+1,0,J⟩) 0 0) 0 []:=⟨rfl,Zk ⟨w.heap.size+1+1,0,#[],rfl,Ye _,km _ _ _ _,Ye _,by unfold maxLen;omega,rfl,rfl⟩⟩;have ρ:=G ζ;have hr3:=hr.below (cO w (Ze #[I n,V O c,I z,I k,Zf x,I m,Zf y,U a len cap] 37) (Ze #[I ⟨#[]⟩,V O 0,I ⟨#[]⟩,I ⟨#[]⟩,Zf Zg,I ⟨#[]⟩,Zf Zg,U J 0 0] 37) (Ze #[] 9));have HZ:=G hr.2.2.2.1;have hzl:=hr.1;have HR3:=G hr3;clear ζ hr3;obtain⟨i0,hi,ZO,η,ZP⟩:=info_parts eQ;cases a with
 | none=>
  obtain rfl:zs=[]:=by
   rcases hr.2.2.2.2 with h|⟨b,o,e,_⟩
   ·exact h
   ·cases e
  obtain rfl:len=0:=by simpa using hzl.symm
  clear hr hi ZO η ZP
  go_enter Tryz.func38,Tryz.ntmps38
  go_wp2
  exact bodyPost_ret (v:=Zj #[I n,V O c,I z,I k,Zf x,I m,Zf y,U (M ⟨w.heap.size+1+1,0,J⟩) 0 0]) (by simp[results,Tryz.results38,go_sem]) rfl ⟨_,_,_,rfl,⟨rfl,Ye _,by omega,λj x hx=>by simp at hx,Zl rfl⟩,Zl rfl,cO _ _ _ _⟩
 | some ad=>
  have HN:=G (A6 HR3.out);clear hr
  go_enter Tryz.func38,Tryz.ntmps38
  go_wp2_with (first|(at_builtin;refine wpList_append_own _ rfl _ _ 35 rfl (w.heap.size+1+1) 9 i0 (I ⟨#[]⟩) 1 16 Tryz.underlying35 hi ZO η ZP rfl ag _ 0 _ rfl ρ.out ad len cap (zs.map Yn) rfl ?c1 HN.out ?c3 ?c4 ?c5 aF ?_))
  case c1=>simpa using hzl
  case c3=>intro u hu;obtain⟨x,_,rfl⟩:=List.mem_map.1 hu;rfl
  case c4=>unfold maxLen;omega
  case c5=>omega
  intro v' w3 Z5 ZC hv;have Zy:=(Yh (w.heap.size+1+1) _).grown ZC aF (λk hk=>by simp[YK] at hk;omega);have g0:=(Zy.block w.heap.size af).trans (mo _ _ _ _);have g1:=(Zy.block (w.heap.size+1) af).trans (ko _ _ _ _)
  obtain⟨a',l,p,rfl,hq⟩:∃a' l p,v'=U a' l p/\(aw w3 a' l p zs/\(zs=[]\/∃g cur,a'=M ⟨g,0,J⟩/\w.heap.size+1+1<=g/\w3.heap[g]?=M (Ze cur 9 (0,0)))/\Below w.heap.size w w3):=by
   have δ:=(cO w _ _ _).trans (Zy.mono af);have ho:=Z5;obtain⟨hl1,h⟩:=ho;have hl':=hzl
   rcases h with ⟨rfl,h0⟩|⟨g,cp,cur,rfl,hbg,hg,hnc,hcm,Zq,htk⟩
   ·obtain rfl:zs=[]:=YO af;exact⟨J,0,0,rfl,⟨rfl,Ye _,by omega,λj x hx=>by simp at hx,Zl rfl⟩,Zl rfl,δ⟩
   ·refine⟨M ⟨g,0,J⟩,len,cp,rfl,⟨hl',hnc,by unfold maxLen at hcm;omega,HZ.out,Zk ⟨g,0,rfl,ae hg,λj x hx=>?_⟩⟩,Zk ⟨g,cur,rfl,hbg,hg⟩,δ⟩;rw[Yp,al hg]
    have hj:j<len:=by have:=(Yc.1 hx).1;omega
    have e1:(cur.toList.take (len*1))[j]?=M (I x):=by rw[htk];simp[hx]
    rw[YC,if_pos af] at e1
    simpa using e1
  have HQ:=G hq;have d0:=ck0 g0;have d1:=ck1 g0;have d2:=ck2 g0;have d3:=ck3 g0;have d4:=ck4 g0;have d5:=ck5 g0;have d6:=ck6 g0;have d7:=ck7 g0;have df7:=ak g0 7;have e0:=ck0 g1;have ef0:=ak g1 0;have e1:=ck1 g1;have ef1:=ak g1 1;have e2:=ck2 g1;have ef2:=ak g1 2;have e3:=ck3 g1;have ef3:=ak g1 3;have e4:=ck4 g1;have ef4:=ak g1 4;have e5:=ck5 g1;have ef5:=ak g1 5;have e6:=ck6 g1;have ef6:=ak g1 6;have e7:=ck7 g1;have ef7:=ak g1 7;have ν:=G (cj.set (cj.set (cj.set (cj.set (cj.set (cj.set (cj.set (cj.set (cj.set HQ.out (b:=w.heap.size) (i:=7) af af (v:=U a' l p)) (b:=w.heap.size+1) (i:=0) af af (v:=(I n))) (b:=w.heap.size+1) (i:=1) af af (v:=(V O c))) (b:=w.heap.size+1) (i:=2) af af (v:=(I z))) (b:=w.heap.size+1) (i:=3) af af (v:=(I k))) (b:=w.heap.size+1) (i:=4) af af (v:=(Zf x))) (b:=w.heap.size+1) (i:=5) af af (v:=(I m))) (b:=w.heap.size+1) (i:=6) af af (v:=(Zf y))) (b:=w.heap.size+1) (i:=7) af af (v:=(U a' l p)));clear Z5 ZC hv Zy g0 g1 hq;go_wp2_with fail;refine bodyPost_ret (v:=Zj #[I n,V O c,I z,I k,Zf x,I m,Zf y,U a' l p]) (by simp[results,Tryz.results38,go_sem, *]) rfl ⟨a',l,p,rfl,ν.1,?_,ν.2.2⟩
  rcases ν.2.1 with h|⟨g,cur,h1,h2,h3⟩
  ·exact Zl h
  ·exact Zk ⟨g,cur,h1,by omega,h3⟩
end Ap
namespace Rc
theorem bG.fr {w:World} {l c:Nat} {zs:List ByteArray} (h:bG w a l c zs S):∃g,LFr w g S zs (U a l c):=by
 obtain⟨⟨h1,h2,h3,h4,h5⟩,h6⟩:=h;rcases h6 with rfl|⟨g,cur,rfl,hS,hg⟩
 ·exact⟨0,_,_,_,rfl,h1,h2,h3,h4,Zl rfl⟩
 ·refine⟨g,_,_,_,rfl,h1,h2,h3,h4,h5.imp id ?_⟩;rintro⟨b,o,e,Zo,hc⟩;cases e;exact⟨rfl,hS,cur,hg,λj x hx=>by have:=hc j x hx;rw[al hg,Yp] at this;exact this⟩
theorem LFr.lt {w:World} {zs:List ByteArray} {v:Value} (k:LFr w h S zs v) (hz:zs≠[]):S h/\h<w.heap.size:=by
 obtain⟨a',l',c',h1,h2,h3,h4,h5,h6⟩:=k;rcases h6 with h6|⟨_,q2,cu,q4,_⟩
 ·exact absurd h6 hz
 ·exact⟨q2,ae q4⟩
theorem en(w:World) (vs:List Value) (T:TypeId):∀(j:Nat) u,vs[j]?=M u->(w.alloc (Ze vs.toArray T)).cell? ((⟨w.heap.size,0,J⟩:Addr).add j)=M u:=by
 intro j u hu;rw[Ym,al (heap_alloc_new w _),Yp];simpa using hu
theorem aR.app {w:World} {m:Nat} {rs:List (List Fv)} {n:Nat} {v:Value} {xs:List Value} (h:aR w S m rs vss H) (hb:Below w.heap.size w W) (ho:W.ownsRow base T m v n xs) (hT:¬T=9) (hg:W.grownBy w' v.ownBlock)
  {r:List Fv} {vs:List Value} {hh:Nat} (hr:r.length=m) (hvs:vs.length=m) (hc:∀(i:Nat) f,r[i]?=M f->∃v,vs[i]?=M v/\f.Fr W hh S v) (hfr:∀(i:Nat) zs,r[i]?=M (.l zs)->zs≠[]->w.heap.size<=hh)
  (h1:∀(i i':Nat) zs ZB,r[i]?=M (.l zs)->zs≠[]->r[i']?=M (.l ZB)->ZB≠[]->i=i'):aR w' S m (rs++[r]) (vss++[vs]) (λj=>if j=rs.length then λ_=>hh else H j):=
 ((h.below hb).push hr hvs hc (λi zs a b j r' i' ZB c d e q=>by have q1:=h.lt c d e;have q2:=hfr i zs a b;omega) h1).grown ho hT hg
theorem B5 {x:Nd} {zs:List ByteArray} (h:(ndF x)[i]?=M (.l zs)):i=6/\zs=x.zs:=by
 rcases i with _|_|_|_|_|_|_|i
 ·cases h
 ·cases h
 ·cases h
 ·cases h
 ·cases h
 ·cases h
 ·cases h;exact⟨rfl,rfl⟩
 ·simp[ndF] at h
theorem aiI {w:World} {x:Nd} {Q:Nat->Prop} {l c:Nat} (hn:x.n.size<=9223372036854775807) (hz:x.z.size<=9223372036854775807) (hl:LFr w g Q x.zs (U a l c)):∀(i:Nat) f,(ndF x)[i]?=M f->∃v,[I x.n,I x.z,V O x.c,V O x.s,V O x.u,Zf x.d,U a l c][i]?=M v/\f.Fr w g Q v:=by
 intro i f h;rcases i with _|_|_|_|_|_|_|i
 ·cases h;exact⟨_,rfl,rfl,hn⟩
 ·cases h;exact⟨_,rfl,rfl,hz⟩
 ·cases h;exact⟨_,rfl,rfl⟩
 ·cases h;exact⟨_,rfl,rfl⟩
 ·cases h;exact⟨_,rfl,rfl⟩
 ·cases h;exact⟨_,rfl,rfl⟩
 ·cases h;exact⟨_,rfl,hl⟩
 ·simp[ndF] at h
theorem BD {x:Vd} {zs:List ByteArray} (h:(vdF x)[i]?=M (.l zs)):i=7/\zs=x.zs:=by
 rcases i with _|_|_|_|_|_|_|_|i
 ·cases h
 ·cases h
 ·cases h
 ·cases h
 ·cases h
 ·cases h
 ·cases h
 ·cases h;exact⟨rfl,rfl⟩
 ·simp[vdF] at h
theorem CI {w:World} {x:Vd} {Q:Nat->Prop} {l c:Nat} (hn:x.n.size<=9223372036854775807) (hz:x.z.size<=9223372036854775807) (hk:x.k.size<=9223372036854775807) (hm:x.m.size<=9223372036854775807) (hl:LFr w g Q x.zs (U a l c)):∀(i:Nat) f,(vdF x)[i]?=M f->∃v,[I x.n,V O x.c,I x.z,I x.k,Zf x.x,I x.m,Zf x.y,U a l c][i]?=M v/\f.Fr w g Q v:=by
 intro i f h;rcases i with _|_|_|_|_|_|_|_|i
 ·cases h;exact⟨_,rfl,rfl,hn⟩
 ·cases h;exact⟨_,rfl,rfl⟩
 ·cases h;exact⟨_,rfl,rfl,hz⟩
 ·cases h;exact⟨_,rfl,rfl,hk⟩
 ·cases h;exact⟨_,rfl,rfl⟩
 ·cases h;exact⟨_,rfl,rfl,hm⟩
 ·cases h;exact⟨_,rfl,rfl⟩
 ·cases h;exact⟨_,rfl,hl⟩
 ·simp[vdF] at h
theorem B2 {x:Pd} {zs:List ByteArray} (h:(pdF x)[i]?=M (.l zs)):i=3/\zs=x.zs:=by
 rcases i with _|_|_|_|_|_|i
 ·cases h
 ·cases h
 ·cases h
 ·cases h;exact⟨rfl,rfl⟩
 ·cases h
 ·cases h
 ·simp[pdF] at h
theorem aiH {w:World} {x:Pd} {Q:Nat->Prop} {l c:Nat} (hn:x.n.size<=9223372036854775807) (hz:x.z.size<=9223372036854775807) (hd:x.d.size<=9223372036854775807) (hl:LFr w g Q x.zs (U a l c)):∀(i:Nat) f,(pdF x)[i]?=M f->∃v,[I x.n,V O x.c,I x.z,U a l c,I x.d,V O x.p][i]?=M v/\f.Fr w g Q v:=by
 intro i f h;rcases i with _|_|_|_|_|_|i
 ·cases h;exact⟨_,rfl,rfl,hn⟩
 ·cases h;exact⟨_,rfl,rfl⟩
 ·cases h;exact⟨_,rfl,rfl,hz⟩
 ·cases h;exact⟨_,rfl,hl⟩
 ·cases h;exact⟨_,rfl,rfl,hd⟩
 ·cases h;exact⟨_,rfl,rfl⟩
 ·simp[pdF] at h
def anK(xs:List Nd) (t:ByteArray) (w:World) (e:Ending) (w':World):Prop:=
 Below w.heap.size w w'/\((∃(j:Nat) (x:Nd),xs[j]?=M x/\x.n=t/\e=Zh (V O j))\/((∀(j:Nat) x,xs[j]?=M x->¬x.n=t)/\e=Zh (V O (-1))))
theorem jz(d:Ad) (now:Int) (xs:List Nd) (t:ByteArray) (w:World) (hr:aV w d.a1 d.l1 d.c1 7 (xs.map ndF)):
  Calls Tryz.prog 110 #[Zj (Zs d now),I t] w (anK xs t w):=by
 unfold Zs;have HR:=G hr;have Z4:xs.length=d.l1:=ef
 have hlc:=Yo hr.2.1 hr.2.2.1;clear hr;go_enter Tryz.func110,Tryz.ntmps110;go_wp2;go_loopw [5] (λi wr=> ∃k:Nat,k<=d.l1/\i=V O k/\wr=w.alloc (Ze #[U d.a1 d.l1 d.c1,U d.a2 d.l2 d.c2,U d.a3 d.l3 d.c3,U d.a4 d.l4 d.c4,U d.a5 d.l5 d.c5,V O now] 29)/\Hid (∀(j:Nat) z,j<k->xs[j]?=M z->¬z.n=t)) (λi _=>d.l1 - (intOf i).toNat);case atStart=>exact⟨0,by omega,rfl,rfl,λ_ _ h=>absurd h af⟩
 case round=>
  obtain⟨k,hk,rfl,rfl,HE⟩:=hrel;by_cases Zo:k<d.l1
  ·obtain⟨b,o,x,ha,hb,hx,Zc⟩:=dF HR.out Zo;obtain⟨va,vl,vc,Zx,-,-,c0,-,-,-,-,-,-⟩:=bo Zc;have HX:=G hx;clear Zc hx Zx;exact vn
  ·obtain rfl:k=d.l1:=af
   exact vd
def anL(xs:List Kd) (t:ByteArray) (w:World) (e:Ending) (w':World):Prop:=
 Below w.heap.size w w'/\((∃(j:Nat) (x:Kd),xs[j]?=M x/\x.n=t/\e=Zh (V O j))\/((∀(j:Nat) x,xs[j]?=M x->¬x.n=t)/\e=Zh (V O (-1))))
theorem jA(d:Ad) (now:Int) (xs:List Kd) (t:ByteArray) (w:World) (hr:aV w d.a2 d.l2 d.c2 4 (xs.map kdF)):
  Calls Tryz.prog 34 #[Zj (Zs d now),I t] w (anL xs t w):=by
 unfold Zs;have HR:=G hr;have Z4:xs.length=d.l2:=ef
 have hlc:=Yo hr.2.1 hr.2.2.1;clear hr;go_enter Tryz.func34,Tryz.ntmps34;go_wp2;go_loopw [5] (λi wr=> ∃k:Nat,k<=d.l2/\i=V O k/\wr=w.alloc (Ze #[U d.a1 d.l1 d.c1,U d.a2 d.l2 d.c2,U d.a3 d.l3 d.c3,U d.a4 d.l4 d.c4,U d.a5 d.l5 d.c5,V O now] 29)/\Hid (∀(j:Nat) z,j<k->xs[j]?=M z->¬z.n=t)) (λi _=>d.l2 - (intOf i).toNat);case atStart=>exact⟨0,by omega,rfl,rfl,λ_ _ h=>absurd h af⟩
 case round=>
  obtain⟨k,hk,rfl,rfl,HE⟩:=hrel;by_cases Zo:k<d.l2
  ·obtain⟨b,o,x,ha,hb,hx,Zc⟩:=gR HR.out Zo;obtain⟨-,-,c0,-,-,-⟩:=dh Zc;have HX:=G hx;clear Zc hx;exact vn
  ·obtain rfl:k=d.l2:=af
   exact vd
def anI(xs:List Vd) (t:ByteArray) (w:World) (e:Ending) (w':World):Prop:=
 Below w.heap.size w w'/\((∃(j:Nat) (x:Vd),xs[j]?=M x/\x.n=t/\e=Zh (V O j))\/((∀(j:Nat) x,xs[j]?=M x->¬x.n=t)/\e=Zh (V O (-1))))
theorem jy(d:Ad) (now:Int) (xs:List Vd) (t:ByteArray) (w:World) (hr:aV w d.a3 d.l3 d.c3 8 (xs.map vdF)):
  Calls Tryz.prog 64 #[Zj (Zs d now),I t] w (anI xs t w):=by
 unfold Zs;have HR:=G hr;have Z4:xs.length=d.l3:=ef
 have hlc:=Yo hr.2.1 hr.2.2.1;clear hr;go_enter Tryz.func64,Tryz.ntmps64;go_wp2;go_loopw [5] (λi wr=> ∃k:Nat,k<=d.l3/\i=V O k/\wr=w.alloc (Ze #[U d.a1 d.l1 d.c1,U d.a2 d.l2 d.c2,U d.a3 d.l3 d.c3,U d.a4 d.l4 d.c4,U d.a5 d.l5 d.c5,V O now] 29)/\Hid (∀(j:Nat) z,j<k->xs[j]?=M z->¬z.n=t)) (λi _=>d.l3 - (intOf i).toNat);case atStart=>exact⟨0,by omega,rfl,rfl,λ_ _ h=>absurd h af⟩
 case round=>
  obtain⟨k,hk,rfl,rfl,HE⟩:=hrel;by_cases Zo:k<d.l3
  ·obtain⟨b,o,x,ha,hb,hx,Zc⟩:=bY HR.out Zo;obtain⟨va,vl,vc,Zx,-,-,-,-,c0,-,-,-,-,-,-,-⟩:=bm Zc;have HX:=G hx;clear Zc hx Zx;exact vn
  ·obtain rfl:k=d.l3:=af
   exact vd
def anH(xs:List Xd) (t:ByteArray) (w:World) (e:Ending) (w':World):Prop:=
 Below w.heap.size w w'/\((∃(j:Nat) (x:Xd),xs[j]?=M x/\x.n=t/\e=Zh (V O j))\/((∀(j:Nat) x,xs[j]?=M x->¬x.n=t)/\e=Zh (V O (-1))))
theorem gZ(d:Ad) (now:Int) (xs:List Xd) (t:ByteArray) (w:World) (hr:aV w d.a4 d.l4 d.c4 5 (xs.map xdF)):
  Calls Tryz.prog 33 #[Zj (Zs d now),I t] w (anH xs t w):=by
 unfold Zs;have HR:=G hr;have Z4:xs.length=d.l4:=ef
 have hlc:=Yo hr.2.1 hr.2.2.1;clear hr;go_enter Tryz.func33,Tryz.ntmps33;go_wp2;go_loopw [5] (λi wr=> ∃k:Nat,k<=d.l4/\i=V O k/\wr=w.alloc (Ze #[U d.a1 d.l1 d.c1,U d.a2 d.l2 d.c2,U d.a3 d.l3 d.c3,U d.a4 d.l4 d.c4,U d.a5 d.l5 d.c5,V O now] 29)/\Hid (∀(j:Nat) z,j<k->xs[j]?=M z->¬z.n=t)) (λi _=>d.l4 - (intOf i).toNat);case atStart=>exact⟨0,by omega,rfl,rfl,λ_ _ h=>absurd h af⟩
 case round=>
  obtain⟨k,hk,rfl,rfl,HE⟩:=hrel;by_cases Zo:k<d.l4
  ·obtain⟨b,o,x,ha,hb,hx,Zc⟩:=dB HR.out Zo;obtain⟨-,-,-,c0,-,-,-,-⟩:=bD Zc;have HX:=G hx;clear Zc hx;exact vn
  ·obtain rfl:k=d.l4:=af
   exact vd
theorem cw {s:ByteArray} (h:s=⟨#[]⟩):s.toList.isEmpty=Zi:=by rw[h];exact A_
def oE(c:Cl) (t s:ByteArray):Prop:=∃(i j:Nat) (x:Xd) (v:Vd),c.xs[i]?=M x/\x.n=t/\c.vs[j]?=M v/\v.n=s/\x.v=s/\v.m=t/\x.z<=v.c/\v.k=x.k/\v.x=x.x
def QV(c:Cl) (v:Vd):Prop:=hit Kd.n c.ks v.k=Zi/\(v.m=⟨#[]⟩\/oE c v.m v.n)
def QX(c:Cl) (x:Xd):Prop:=hit Kd.n c.ks x.k=Zi/\(x.v=⟨#[]⟩\/oE c x.n x.v)
def yx(c:Cl):Prop:=(∀(j:Nat) v,c.vs[j]?=M v->QV c v)/\(∀(j:Nat) x,c.xs[j]?=M x->QX c x)
def InL(zs:List ByteArray) (t:ByteArray):Prop:=∃j:Nat,zs[j]?=M t
def aX(c:Cl) (t:ByteArray) (v:Vd):Prop:=∃(i j:Nat) (x:Xd),c.xs[i]?=M x/\x.n=t/\c.vs[j]?=M v/\v.n=x.v
def cpuOf(t:ByteArray):List Pd->Int
 | []=>0
 | p ::ps=>(if p.d=t then p.c else 0)+cpuOf t ps
theorem kA(t:ByteArray):∀ps qs:List Pd,cpuOf t (ps++qs)=cpuOf t ps+cpuOf t qs
 | [],qs=>by simp[cpuOf]
 | p ::ps,qs=>by simp[cpuOf,kA t ps];omega
theorem gH {t:ByteArray} {ps:List Pd} {k:Nat} {p:Pd} (h:ps[k]?=M p):cpuOf t (ps.take (k+1))=cpuOf t (ps.take k)+(if p.d=t then p.c else 0):=by
 rw[YM,h,kA];simp[cpuOf]
def Bz(c:Cl) (t:ByteArray):Prop:=∀(i j:Nat) p q,c.ps[i]?=M p->c.ps[j]?=M q->¬p.d=⟨#[]⟩->¬q.d=⟨#[]⟩->InL p.zs t->InL q.zs t->p.d=q.d
theorem aX.inj {c:Cl} {t:ByteArray} {v v':Vd} (hx:aH Xd.n c.xs) (hv:aH Vd.n c.vs) (h:aX c t v) (h':aX c t v'):v=v':=by
 obtain⟨i,j,x,e1,e2,e3,e4⟩:=h;obtain⟨i',j',x',f1,f2,f3,f4⟩:=h';obtain⟨_,rfl⟩:=hx.inj e1 f1 (e2.trans f2.symm);exact (hv.inj e3 f3 (e4.trans f4.symm)).2
def aiN(c:Cl) (p:Pd):Prop:=∃(i:Nat) (n:Nd),c.ns[i]?=M n/\n.n=p.d/\(p.z=⟨#[]⟩\/p.z=n.z)/\∀(j:Nat) t,p.zs[j]?=M t->∃v,aX c t v/\v.z=n.z
def am3(c:Cl) (p:Pd):Prop:=∃(i:Nat) (n:Nd),c.ns[i]?=M n/\n.n=p.d/\n.d=Zg/\∀(j:Nat) t,p.zs[j]?=M t->∃v,aX c t v/\InL n.zs v.n
def Sd(c:Cl) (n:Nd):Prop:=∀(j:Nat) t,n.zs[j]?=M t->∃(i:Nat) (v:Vd),c.vs[i]?=M v/\v.n=t/\(n.d=Zi\/InL v.zs n.n)
open Classical in
noncomputable def onOf (t:ByteArray):List Vd->Int
 | []=>0
 | v ::vs=>(if InL v.zs t then 1 else 0)+onOf t vs
theorem eF(t:ByteArray):∀vs us:List Vd,onOf t (vs++us)=onOf t vs+onOf t us
 | [],us=>by simp[onOf]
 | v ::vs,us=>by simp[onOf,eF t vs];omega
open Classical in
theorem kU {t:ByteArray} {vs:List Vd} {k:Nat} {v:Vd} (h:vs[k]?=M v):onOf t (vs.take (k+1))=onOf t (vs.take k)+(if InL v.zs t then 1 else 0):=by
 rw[YM,h,eF];simp[onOf]
def PQ1(c:Cl) (p:Pd):Prop:=(∀(j:Nat) t,p.zs[j]?=M t->hit Xd.n c.xs t=Zi)/\(p.d=⟨#[]⟩\/aiN c p)
def PQ2(c:Cl) (n:Nd):Prop:=cpuOf n.n c.ps<=n.c
def PQ3(c:Cl) (v:Vd):Prop:=v.x=Zi->¬v.m=⟨#[]⟩->Bz c v.m
def ru(c:Cl):Prop:=(∀(j:Nat) z,c.ps[j]?=M z->PQ1 c z)/\(∀(j:Nat) z,c.ns[j]?=M z->PQ2 c z)/\(∀(j:Nat) z,c.vs[j]?=M z->PQ3 c z)
def AQ1(c:Cl) (v:Vd):Prop:=∀(j:Nat) t,v.zs[j]?=M t->∃(i:Nat) (n:Nd),c.ns[i]?=M n/\n.n=t/\n.z=v.z
def AQ2(c:Cl) (n:Nd):Prop:=onOf n.n c.vs<=n.s
def pO(c:Cl):Prop:=(∀(j:Nat) z,c.vs[j]?=M z->AQ1 c z)/\(∀(j:Nat) z,c.ns[j]?=M z->AQ2 c z)
def MQ2(c:Cl) (p:Pd):Prop:=p.p=2->am3 c p
def oi(c:Cl):Prop:=(∀(j:Nat) z,c.ns[j]?=M z->Sd c z)/\(∀(j:Nat) z,c.ps[j]?=M z->MQ2 c z)
def cP(c:Cl):Prop:=fk xI Nd.n c.ns 6/\fk xS Kd.n c.ks 8/\fk rM Vd.n c.vs 8/\fk gX Xd.n c.xs 8/\fk vy Pd.n c.ps 8
def au(c:Cl):Prop:=Inn c.now 0 1000000/\cP c/\yx c/\ru c/\pO c/\oi c
theorem cP.ne {c:Cl} (h:cP c) (j:Nat) (v:Vd) (hv:c.vs[j]?=M v):¬v.n=⟨#[]⟩:=λe=>by
 have h1:=(h.2.2.1.2.1 j v hv).1.1;rw[e] at h1;exact absurd h1 ag
theorem cP.cpu {c:Cl} (h:cP c) (j:Nat) (p:Pd) (hp:c.ps[j]?=M p):0<=p.c/\p.c<=1000000:=(h.2.2.2.2.2.1 j p hp).2.1
theorem bZ(a:Option Addr) (len cap:Nat) (zs:List ByteArray) (t:ByteArray) (w:World) (hr:aw w a len cap zs):
  Calls Tryz.prog 114 #[U a len cap,I t] w (ar (InL zs t) w):=by
 have HR:=G hr;have hlc:=Yo hr.2.1 hr.2.2.1;have hzl:=hr.1;clear hr;go_enter Tryz.func114,Tryz.ntmps114;go_wp2;go_loop [5] (λi=> ∃k:Nat,k<=len/\i=V O k/\Hid (∀(j:Nat) x,j<k->zs[j]?=M x->¬x=t)) (λi=>len - (intOf i).toNat);case atStart=>exact⟨0,by omega,rfl,λ_ _ h=>absurd h af⟩
 case round=>
  obtain⟨k,hk,rfl,HE⟩:=hrel;by_cases Zo:k<len
  ·obtain⟨b,o,x,rfl,hb,hx,hc,Zq⟩:=HR.at Zo;have HX:=G hx;clear hx;by_cases hn:x=t
   ·have hq:=aP hn;have HN:=G hn;clear hn;go_wp2;go_ret;exact ar.t ⟨k,by rw[HX.out,HN.out]⟩ (Yh _ _)
   ·have hq:=bu hn;have HN:=G hn;clear hn;go_wp2;refine⟨⟨k+1,by omega,by go_num,λj z hj hz=>?_⟩,by simp[intOf];omega⟩;exact Pv
  ·obtain rfl:len=k:=af
   go_wp2;go_ret;exact ar.f (λ⟨j,hj⟩=>HE.out j t uT hj rfl) (Yh _ _)
theorem fK(d:Ad) (now:Int) (xs:List Nd) (t:ByteArray) (w:World) (hr:aV w d.a1 d.l1 d.c1 7 (xs.map ndF)) (hs:aH Nd.n xs) {j:Nat} {x:Nd} (hx:xs[j]?=M x) (hn:x.n=t):
  Calls Tryz.prog 110 #[Zj (Zs d now),I t] w λe w'=>e=Zh (V O j)/\Below w.heap.size w w':=by
 unfold Zs;refine (jz d now xs t w hr).mono ?_;exact vf
theorem BF(d:Ad) (now:Int) (xs:List Nd) (t:ByteArray) (w:World) (hr:aV w d.a1 d.l1 d.c1 7 (xs.map ndF)) (hn:∀(j:Nat) x,xs[j]?=M x->¬x.n=t):
  Calls Tryz.prog 110 #[Zj (Zs d now),I t] w λe w'=>e=Zh (V O (-1))/\Below w.heap.size w w':=by
 unfold Zs;refine (jz d now xs t w hr).mono ?_;exact u_
theorem eB(d:Ad) (now:Int) (xs:List Kd) (t:ByteArray) (w:World) (hr:aV w d.a2 d.l2 d.c2 4 (xs.map kdF)) (hs:aH Kd.n xs) {j:Nat} {x:Kd} (hx:xs[j]?=M x) (hn:x.n=t):
  Calls Tryz.prog 34 #[Zj (Zs d now),I t] w λe w'=>e=Zh (V O j)/\Below w.heap.size w w':=by
 unfold Zs;refine (jA d now xs t w hr).mono ?_;exact vf
theorem oH(d:Ad) (now:Int) (xs:List Kd) (t:ByteArray) (w:World) (hr:aV w d.a2 d.l2 d.c2 4 (xs.map kdF)) (hn:∀(j:Nat) x,xs[j]?=M x->¬x.n=t):
  Calls Tryz.prog 34 #[Zj (Zs d now),I t] w λe w'=>e=Zh (V O (-1))/\Below w.heap.size w w':=by
 unfold Zs;refine (jA d now xs t w hr).mono ?_;exact u_
theorem eA(d:Ad) (now:Int) (xs:List Vd) (t:ByteArray) (w:World) (hr:aV w d.a3 d.l3 d.c3 8 (xs.map vdF)) (hs:aH Vd.n xs) {j:Nat} {x:Vd} (hx:xs[j]?=M x) (hn:x.n=t):
  Calls Tryz.prog 64 #[Zj (Zs d now),I t] w λe w'=>e=Zh (V O j)/\Below w.heap.size w w':=by
 unfold Zs;refine (jy d now xs t w hr).mono ?_;exact vf
theorem iD(d:Ad) (now:Int) (xs:List Vd) (t:ByteArray) (w:World) (hr:aV w d.a3 d.l3 d.c3 8 (xs.map vdF)) (hn:∀(j:Nat) x,xs[j]?=M x->¬x.n=t):
  Calls Tryz.prog 64 #[Zj (Zs d now),I t] w λe w'=>e=Zh (V O (-1))/\Below w.heap.size w w':=by
 unfold Zs;refine (jy d now xs t w hr).mono ?_;exact u_
theorem eZ(d:Ad) (now:Int) (xs:List Xd) (t:ByteArray) (w:World) (hr:aV w d.a4 d.l4 d.c4 5 (xs.map xdF)) (hs:aH Xd.n xs) {j:Nat} {x:Xd} (hx:xs[j]?=M x) (hn:x.n=t):
  Calls Tryz.prog 33 #[Zj (Zs d now),I t] w λe w'=>e=Zh (V O j)/\Below w.heap.size w w':=by
 unfold Zs;refine (gZ d now xs t w hr).mono ?_;exact vf
theorem eX(d:Ad) (now:Int) (xs:List Xd) (t:ByteArray) (w:World) (hr:aV w d.a4 d.l4 d.c4 5 (xs.map xdF)) (hn:∀(j:Nat) x,xs[j]?=M x->¬x.n=t):
  Calls Tryz.prog 33 #[Zj (Zs d now),I t] w λe w'=>e=Zh (V O (-1))/\Below w.heap.size w w':=by
 unfold Zs;refine (gZ d now xs t w hr).mono ?_;exact u_
def am0(c:Cl) (t:ByteArray) (w:World) (e:Ending) (w':World):Prop:=
 Below w.heap.size w w'/\((∃(j:Nat) (v:Vd),c.vs[j]?=M v/\aX c t v/\e=Zh (V O j))\/((∀v,¬aX c t v)/\e=Zh (V O (-1))))
theorem iF(d:Ad) (c:Cl) (t:ByteArray) (w:World) (hr:aA w d c.raw) (hx:aH Xd.n c.xs) (hv:aH Vd.n c.vs) (ZE:∀(j:Nat) v,c.vs[j]?=M v->¬v.n=⟨#[]⟩):
  Calls Tryz.prog 37 #[Zj (Zs d c.now),I t] w (am0 c t w):=by
 have υ:=@G _ @ack;exact bQ
theorem fN(d:Ad) (c:Cl) (t:ByteArray) (w:World) (hr:aA w d c.raw) (hx:aH Xd.n c.xs) (hv:aH Vd.n c.vs) (ZE:∀(j:Nat) v,c.vs[j]?=M v->¬v.n=⟨#[]⟩) {j:Nat} {v:Vd} (hj:c.vs[j]?=M v) (hb:aX c t v):
  Calls Tryz.prog 37 #[Zj (Zs d c.now),I t] w λe w'=>e=Zh (V O j)/\Below w.heap.size w w':=by
 unfold Zs;refine (iF d c t w hr hx hv ZE).mono ?_;rintro e w' ⟨hw,h⟩;rcases h with ⟨i,u,h1,h2,rfl⟩|⟨h1,rfl⟩
 ·obtain rfl:=aX.inj hx hv h2 hb;obtain⟨rfl,_⟩:=hv.inj h1 hj rfl;exact⟨rfl,hw⟩
 ·exact absurd hb (h1 v)
theorem gi(d:Ad) (c:Cl) (t:ByteArray) (w:World) (hr:aA w d c.raw) (hx:aH Xd.n c.xs) (hv:aH Vd.n c.vs) (ZE:∀(j:Nat) v,c.vs[j]?=M v->¬v.n=⟨#[]⟩) (hb:∀v,¬aX c t v):
  Calls Tryz.prog 37 #[Zj (Zs d c.now),I t] w λe w'=>e=Zh (V O (-1))/\Below w.heap.size w w':=by
 unfold Zs;refine (iF d c t w hr hx hv ZE).mono ?_;rintro e w' ⟨hw,h⟩;rcases h with ⟨i,u,h1,h2,rfl⟩|⟨h1,rfl⟩
 ·exact absurd h2 (hb u)
 ·exact⟨rfl,hw⟩
theorem aX.at {c:Cl} {t:ByteArray} {v:Vd} (h:aX c t v):∃j:Nat,c.vs[j]?=M v:=by
 obtain⟨_,j,_,_,_,h,_⟩:=h;exact⟨j,h⟩
theorem kI(d:Ad) (now:Int) (ps:List Pd) (t:ByteArray) (w:World) (hr:aV w d.a5 d.l5 d.c5 6 (ps.map pdF)) (hl:ps.length<=8) (hp:∀(j:Nat) p,ps[j]?=M p->0<=p.c/\p.c<=1000000):
  Calls Tryz.prog 112 #[Zj (Zs d now),I t] w λe w'=>e=Zh (V O (cpuOf t ps))/\Below w.heap.size w w':=by
 have aut:=@G _ @acZ;exact z_
theorem yE(d:Ad) (now:Int) (vs:List Vd) (t:ByteArray) (w:World) (hr:aV w d.a3 d.l3 d.c3 8 (vs.map vdF)) (hl:vs.length<=8):
  Calls Tryz.prog 113 #[Zj (Zs d now),I t] w λe w'=>e=Zh (V O (onOf t vs))/\Below w.heap.size w w':=by
 have ard:=@G _ @VJ;exact qf
def pM(c:Cl) (p q:Pd):Prop:=p.d=⟨#[]⟩\/q.d=⟨#[]⟩\/p.d=q.d\/∀(j:Nat) t,p.zs[j]?=M t->∀v,aX c t v->v.x=Zi->¬InL q.zs t
theorem iE(d:Ad) (c:Cl) (p q:Pd) (pa:Option Addr) (pl pc:Nat) (qa:Option Addr) (ql qc:Nat) (w:World) (hr:aA w d c.raw) (hx:aH Xd.n c.xs) (hv:aH Vd.n c.vs) (ZE:∀(j:Nat) v,c.vs[j]?=M v->¬v.n=⟨#[]⟩) (hp:aw w pa pl pc p.zs) (hq:aw w qa ql qc q.zs):
  Calls Tryz.prog 111 #[Zj (Zs d c.now),Zj #[I p.n,V O p.c,I p.z,U pa pl pc,I p.d,V O p.p],Zj #[I q.n,V O q.c,I q.z,U qa ql qc,I q.d,V O q.p]] w (ar (pM c p q) w):=by
 have υ:=@G _ @acj;exact bQ
theorem BQ(d:Ad) (c:Cl) (w:World) (hr:aA w d c.raw):
  Calls Tryz.prog 56 #[Zj (Zs d c.now)] w (ar (cP c) w):=by
 have υ:=@G _ @aci;exact bQ
def ahm(c:Cl) (t:ByteArray):Prop:=∃(i:Nat) (k:Kd),c.ks[i]?=M k/\k.n=t
def SV(c:Cl) (v:Vd):Prop:=ahm c v.k/\(v.m=⟨#[]⟩\/∃(i:Nat) (x:Xd),c.xs[i]?=M x/\x.n=v.m/\x.v=v.n)
def SX(c:Cl) (x:Xd):Prop:=ahm c x.k/\(x.v=⟨#[]⟩\/∃(j:Nat) (v:Vd),c.vs[j]?=M v/\v.n=x.v/\v.m=x.n/\x.z<=v.c/\v.k=x.k/\v.x=x.x)
def yv(c:Cl):Prop:=(∀(j:Nat) z,c.vs[j]?=M z->SV c z)/\(∀(j:Nat) z,c.xs[j]?=M z->SX c z)
theorem wH(d:Ad) (c:Cl) (w:World) (hr:aA w d c.raw) (hks:aH Kd.n c.ks) (hxs:aH Xd.n c.xs) (hvs:aH Vd.n c.vs):
  Calls Tryz.prog 57 #[Zj (Zs d c.now)] w (ar (yv c) w):=by
 have υ:=@G _ @ach;exact bQ
end Rc
end Go.Proofs.YtcnmlpiffcldkaaGreatDoor
