import Derived.Test.YtfhdfmdaiookjaaGreatDoorRows
import Derived.WalkKit
import Derived.WalkSpells
import Derived.OwnWalk
import Derived.Outline
import Derived.Laws.Cover1
import Derived.Lib.BufferWrite
import Derived.Laws.CopyOwn
import Derived.Deep.QuietTactic
import Derived.BigQuiet
import Derived.WalkSmall
import Derived.Laws.IdiomStrings
import Derived.Laws.AppendOwn
import Derived.Laws.AppendOwnNone
import Derived.Deep.AppendLies
import Derived.LaidEql
import Derived.Stop.Asserts
import Derived.RowKitTokens
import Derived.RegionTactic
import Derived.Lib.Overlaps
import Derived.Lib.SliceRun
import Derived.Lib.AppendZerosOnto
import Derived.Deep.RegionLaw
import Derived.Shelf.RegionOpenPlain
import Derived.Lib.Bytealg
import Derived.RangeFuncNested
import Derived.RangeFuncBound
import Derived.RangeFuncCalls
import Derived.RangeFuncLeaves
import Derived.Shelf.Abstract
import Derived.Shelf.RegionOpen
import Derived.OwnWalkIn
import Derived.TacticsInMore
import Derived.LoopNIn
import Derived.LoopIn
import Derived.ScopeJumps
import Derived.WalkMore
import Derived.Deep.RegionWith
import Derived.Maps.OwnSet
import Derived.DeepKeys4
import Derived.WideKeyEntry
import Derived.OpenShut
import Derived.Deep.CutRange
import Derived.Laws.StructEq
import Derived.BigRegion
import Derived.ChangeAlike
import Derived.Laws.Rows
import Derived.Lib.VarintMem
import Derived.Lib.Hide
import Derived.Lib.Slices
import Derived.Deep.Cut
import Derived.Stop.LaidErr
import Derived.ChangeVars
/-
 What NameRight of the program and of the specification answer: yes just where a text is a name: 1 to 20 bytes, the first a lower letter, the others lower letters, digits or '_'; at every text.
-/
set_option maxRecDepth 100000
set_option maxHeartbeats 12800000
open Bool renaming false→Y_,true→Zb
open Go.Ending renaming returned→Za
open Go.IntKind renaming i64→Y6
open Go.Obj renaming cells→Y8
open Go.Value renaming string→I,slice→J,int→Y7,bool→Y9,agg→Zc,pointer→Zf,tuple→Zg
open Option renaming none→U,some→Y5
open Or renaming inr→Zd,inl→Ze
open And renaming intro→Yb
open Array renaming getElem?_push_size→Yg, getD_eq_getD_getElem?→Yr, getElem?_eq_some_iff→Yw
open Bool renaming and_eq_true→YG
open Classical renaming byContradiction→YH
open Go.Addr renaming add_lit→Yn
open Go.Calls renaming quiet_of_same→Yz
open Go.Lib renaming toList_data→Y3
open Go.Op renaming bytesLess→Yk
open Go.Region renaming wanted→YP, ready→YQ, binds→YR
open Go.RowKit.Below renaming heap_setCell→Ya, refl→Yh, heap_alloc→Yl
open Go.Value renaming string→Ym, ownBlock→YL
open List renaming getElem?_eq_some_iff→Yc, lookup→Yf, getElem?_eq_getElem→Yi, length_map→Yo, mem_of_getElem?→Ys, setIfInBounds_toArray→Yt, getElem?_append_left→Yu, getElem?_map→Yv, drop_eq_nil_of_le→Yx, getElem?_take→YA, set_cons_zero→YC, getElem?_of_mem→YD, set_cons_succ→YE, length_take→YF, forall_mem_cons→YI, take_of_length_le→YJ, eq_nil_of_length_eq_zero→YM, take_add_one→YN, mem_cons→YO, foldr→YT, range→YU, getElem?_set→YZ
open Nat renaming le_refl→Ye, lt_of_lt_of_le→Yj, le_trans→Yp, zero_add→Yq, le_succ→Yy, zero_le→YK
open Option renaming map_eq_some_iff→YB
open Option.some renaming inj→Yd
open UInt8 renaming lt_iff_toNat_lt→YX
namespace Go.Proofs.YtfhdfmdaiookjaaGreatDoor
variable {p:Prop}
namespace Mk
end Mk
open Go.RowKit Mk
variable {α:Type} {H:Nat->Nat->Nat} {P:Program} {Q:Exit->Act->World->Prop} {S S':Nat->Prop} {T:TypeId} {W w' w1:World} {a:Option Addr} {a0:Act} {back:Option Oper} {base cap g h i id j:Nat} {cur:Array Value} {e:Ending} {front l rest:List Oper} {listed:Array Bool} {o:Oper} {ops:Array Oper} {r:List Value} {v0 v1 v2 v3 v4 v5 v6:Value} {vss:List (List Value)}
theorem af(h:p:=by omega):p:=h
theorem ag(h:p:=by decide):p:=h
theorem dz(h:p:=by have:=(Yc.1 hz).1;omega):p:=h
theorem bM(h:p:=by first|trivial|rfl):p:=h
theorem aG(h:p:=by simp):p:=h
theorem bf(h:p:=by kernel_rfl):p:=h
theorem bL(h:p:=by simp;omega):p:=h
theorem bU(h:p:=by cases h):p:=h
theorem fg(h:p:=by simpa using hr.1):p:=h
theorem uq(h:p:=by simpa using (show (c.vs.map vdF).length=l3 from hr.v.1)):p:=h
theorem Aj(h:p:=by rw[YA,if_pos hij];exact Yi _):p:=h
theorem uo(h:p:=by have:=(Yc.1 hj).1;omega):p:=h
theorem um(h:p:=by rw[Nat.sub_add_cancel hk0];exact HXx.out):p:=h
theorem Ah(h:p:=by have:=(Yc.1 ht).1;omega):p:=h
theorem Ag(h:p:=by rw[YA,if_pos hij];exact hp):p:=h
theorem NY(h:p:=by simpa using (show (c.xs.map xdF).length=l4 from hr.x.1)):p:=h
theorem np(h:p:=by simpa using h):p:=h
theorem uK(h:p:=by
 have HB:=HB1;clear HB1;have Bk:=Ck;clear Ck;clear ek;go_wp2_with fail;refine⟨⟨k+1,by omega,by go_num,λj z hj hz=>?_,λj z y hj hz hy=>?_,HB.out,Bk.out⟩,by simp[intOf];omega⟩
 ·exact O2
 ·by_cases e:j+1=k
  ·have hj:j=k - 1:=af
   subst hj;rw[Nat.sub_add_cancel hk0,HXx.out] at hz;obtain rfl:=Yd hz;rw[HXy.out] at hy;obtain rfl:=Yd hy;exact hless
  ·exact HO.out j z y af hz hy):p:=h
theorem uJ(h:p:=by
 have HB:=HB1;clear HB1;have Bk:=Ck;clear Ck;clear hd;go_wp2_with fail;refine⟨⟨k+1,by omega,by go_num,λj z hj hz=>?_,λj z y hj hz hy=>?_,HB.out,Bk.out⟩,by simp[intOf];omega⟩
 ·exact O2
 ·by_cases e:j+1=k
  ·exact absurd hk0 af
  ·exact HO.out j z y af hz hy):p:=h
theorem uI(h:p:=by
 by_cases hn:x.n=t
 ·have hq:=aP hn;have HN:=aa hn;clear hn;go_wp2;go_ret;exact⟨ak _ _,Ze ⟨k,x,HX.out,HN.out,rfl⟩⟩
 ·have hq:=bu hn;have HN:=aa hn;clear hn;go_wp2;refine⟨⟨k+1,by omega,by go_num,by rw[ha],λj z hj hz=>?_⟩,by simp[intOf];omega⟩;exact O1):p:=h
theorem ah5(h:p:=by
 have HN:=aa (λh=>hq (hr.2 h));clear hr;go_wp2_with fail;go_ret;exact⟨Y_,rfl,⟨λh=>bU,λh=>(HN.out (h.1)).elim⟩,ak _ _⟩):p:=h
theorem ah3(h:p:=by
 have HN:=aa (λh=>hq (hr.2 h));clear hr;go_wp2_with fail;go_ret;exact⟨Y_,rfl,⟨λh=>bU,λh=>(HN.out (h.2.2.1)).elim⟩,ak _ _⟩):p:=h
theorem amh(h:p:=by
 have HN:=aa (λh=>hq (hr.2 h));clear hr;go_wp2_with fail;go_ret;exact⟨Y_,rfl,⟨λh=>bU,λh=>(HN.out (h.2.1)).elim⟩,ak _ _⟩):p:=h
theorem ah1(h:p:=by
 have e:aM a0 (knAll [] front φs) (λt=>a.tmps.getD t undef)=a:=by
  refine agM ((dC _ _ _).trans h.size.symm) ((dD _ _ _).trans h.defers.symm) (λt=>jS a0 a _ (λp hp=>?_) t (λhn=>?_))
  ·rcases dQ front φs [] hp with ⟨i,o,h1,h2,h3⟩|h1
   ·exact hin o (Ys h1) _ h2
   ·simp at h1
  ·refine h.other t (λi o ho hd=>?_);exfalso;have hi:=(Yc.1 ho).1;have hφ:φs[i]?=Y5 (φs[i]'(by omega)):=Yi _;cases hk:(knAll [] front φs).lookup t with
   | none=>exact (c_ front φs [] hk).2 i o _ ho hφ hd
   | some φ=>
    have:∃p∈knAll [] front φs,p.1=t:=by
     revert hk
     generalize knAll [] front φs=l
     intro hk
     induction l with
     | nil=>simp at hk
     | cons p l ih=>
      rw[List.lookup_cons] at hk
      cases hb:t==p.1 with
      | true=>exact⟨p,by simp,(by simpa using hb:t=p.1).symm⟩
      | false=>
       rw[hb] at hk;obtain⟨q,hq,he⟩:=ih hk;exact⟨q,by simp[hq],he⟩
    obtain⟨p,hp,he⟩:=this;exact hn p hp he
 rw[e] at h1;exact h1):p:=h
theorem amg(h:p:=by
 have HN:=aa (λh=>hq (hr.2 h));clear hr;go_wp2_with fail;go_ret;exact⟨Y_,rfl,⟨λh=>bU,λh=>(HN.out (h.2.2.2.1)).elim⟩,ak _ _⟩):p:=h
theorem Ow(h:p:=by
 obtain⟨φ,hφ,ho,hr⟩:=h;obtain⟨φs,hl,hs,hf⟩:=Grow.spec l _ hr;refine⟨φ ::φs,by simp[hl],?_,hf⟩;intro i o' φ' h1 h2;cases i with
 | zero=>
  simp only[List.getElem?_cons_zero,Option.some.injEq] at h1 h2;subst h1;subst h2;exact⟨hφ,ho⟩
 | succ i=>
  simp only[List.getElem?_cons_succ] at h1 h2
  simpa[knAll] using hs i o' φ' h1 h2):p:=h
theorem oV(h:p:=by
 obtain⟨b,o,r,h1,h2,h3,h4⟩:=h.at hj;rw[Yv] at h3;obtain⟨x,h5,rfl⟩:=YB.1 h3;exact⟨b,o,x,h1,h2,h5,h4⟩):p:=h
theorem uC(h:p:=by
 rintro e w' ⟨hb,h⟩;rcases h with ⟨i,y,h1,h2,rfl⟩|⟨h1,rfl⟩
 ·obtain⟨rfl,_⟩:=hs.inj h1 hx (h2.trans hn.symm);exact⟨rfl,hb⟩
 ·exact absurd hn (h1 j x hx)):p:=h
theorem ame(h:p:=by
 have HN:=aa (λh=>hq (hr.2 h));clear hr;go_wp2_with fail;go_ret;exact⟨Y_,rfl,⟨λh=>bU,λh=>(HN.out (h.2.2.2.2.1)).elim⟩,ak _ _⟩):p:=h
theorem ahU(h:p:=by
 intro j o ho t ht i p hp hd;have z413z:=@aa _ @ab7;exact zA):p:=h
theorem ahR(h:p:=by
 induction known with
 | nil=>exact (h (λp hp=>by simp at hp)).symm
 | cons p l ih=>
  have e:aM a0 (p ::l) (λt=>a.tmps.getD t undef)=(aM a0 l (λt=>a.tmps.getD t undef)).put (Y5 p.1) (a.tmps.getD p.1 undef):=rfl;rw[e,jZ,dC]
  by_cases hp:p.1=t
  ·subst hp;rw[if_pos ⟨rfl,hk p aG⟩]
  ·rw[if_neg (λh=>hp h.1)]
   exact ih (λq hq=>hk q (by simp[hq])) (λhn=>h (λq hq=>by
    rcases YO.1 hq with rfl|hq
    ·exact hp
    ·exact hn q hq))):p:=h
theorem uA(h:p:=by
 go_wp2;go_ret;exact⟨ak _ _,Zd ⟨λj z hz=>HE.out j z dz hz,rfl⟩⟩):p:=h
theorem ahO(h:p:=by
 intro t ht;have hne:o.dst≠Y5 t:=λhd=>by
  have:=ht j o ho hd;simp[Yr,hj] at this
 have h1:=h.other t (λi p hp hd=>by
  have h2:=ht i p hp hd
  have e:¬j=i:=λe=>by subst e;exact hne (by rw[Yd (ho.symm.trans hp)];exact hd)
  simpa[Yr,Array.getElem?_setIfInBounds,e] using h2)
 exact O3):p:=h
theorem uz(h:p:=by
 rintro e w' ⟨hb,h⟩;rcases h with ⟨i,y,h1,h2,rfl⟩|⟨h1,rfl⟩
 ·exact absurd h2 (hn i y h1)
 ·exact⟨rfl,hb⟩):p:=h
theorem ahJ(h:p:=by
 obtain⟨h1,h2⟩:=c_ l φs (kn o.dst ψ known) h;rw[kN] at h1;by_cases hd:o.dst=Y5 t
 ·rw[if_pos hd] at h1;cases h1
 ·rw[if_neg hd] at h1;refine⟨h1,λi o' φ h3 h4=>?_⟩;cases i with
  | zero=>simp only[List.getElem?_cons_zero,Option.some.injEq] at h3;subst h3;exact hd
  | succ i=>exact h2 i o' φ (by simpa using h3) (by simpa using h4)):p:=h
theorem Ar(h:p:=by
 go_wp2;go_round;case rel=>exact⟨k+1,by omega,by go_num,o6 hlt HB.out HA.out⟩
 case measure=>simp[intOf];omega):p:=h
theorem ahG(h:p:=by
 rcases dQ l φs (kn o.dst ψ known) h with ⟨i,o',h1,h2,h3⟩|h
 ·exact Ze ⟨i+1,o',by simpa using h1,h2,by simpa using h3⟩
 ·cases hd:o.dst with
  | none=>rw[hd] at h;exact Zd h
  | some d=>
   rw[hd] at h;simp only[kn,YO] at h
   rcases h with rfl|h
   ·exact Ze ⟨0,o,rfl,hd,rfl⟩
   ·exact Zd h):p:=h
theorem ahy(h:p:=by
 rcases cZ l φs (kn o.dst ψ known) h with ⟨i,o',h1,h2,h3⟩|h
 ·exact Ze ⟨i+1,o',by simpa using h1,h2,by simpa using h3⟩
 ·rw[kN] at h;by_cases hd:o.dst=Y5 t
  ·rw[if_pos hd] at h;exact Ze ⟨0,o,rfl,hd,by simpa using h⟩
  ·rw[if_neg hd] at h;exact Zd h):p:=h
theorem qA(h:p:=by
 have:=List.count_le_length (a:=Y_) (l:=(Array.replicate l.toArray.size Y_).toList);simp at this ⊢):p:=h
theorem QH(h:p:=by
 intro j o ho e he;have hj:j<(front++back.toList).toArray.size:=(Yw.1 ho).1;have:=List.all_eq_true.1 h4 j (List.mem_range.2 hj);rw[ho] at this;have:=Array.all_eq_true.1 this;obtain⟨k,hk,rfl⟩:=Array.mem_iff_getElem.1 he;simpa using this k hk):p:=h
theorem wR(h:p:=by
 go_wp2;go_ret;exact⟨congrArg (λz=>Ending.returned (Y7 Y6 z)) (HS.trans (by rw[YJ af])),HB.out⟩):p:=h
theorem wQ(h:p:=by
 cases hk:back with
 | none=>rw[hk] at h1;exact h1
 | some o=>
  have h2:=hb o hk;rw[hall _ (by rw[hsz,hk];simp)] at h2
  cases h2):p:=h
theorem QA(h:p:=by
 rw[Yq,an hg];have hj:j<n:=by have:=(Yc.1 hx).1;omega
 have e1:(cur.toList.take (n*1))[j]?=Y5 (I x):=by rw[htk];simp[hx]
 rw[YA,if_pos af] at e1;simpa using e1):p:=h
theorem nz(h:p:=by
 obtain⟨q,h1,h2⟩:=haty 0 _ rfl;obtain⟨rfl,-⟩:=h2;exact h1):p:=h
theorem wP(h:p:=by
 go_wp2_with (go_at_call 107;refine (lN _ _ _ _).mono ?_;rintro e w1 ⟨r,rfl,hr,rfl⟩);go_ret;exact⟨r,rfl,hr,rfl⟩):p:=h
theorem Qv(h:p:=by
 by_cases h:∃v,aO c t v
 ·exact Ze h
 ·exact Zd (λv hv=>h ⟨v,hv⟩)):p:=h
theorem Qq(h:p:=by
 cases d with
 | none=>simp[kn]
 | some d=>
  simp only[kn,Option.some.injEq,List.lookup_cons]
  by_cases h:d=t
  ·subst h;simp
  ·rw[if_neg h]
   have:(t==d)=Y_:=by simpa using λe=>h e.symm
   rw[this]):p:=h
theorem Qj(h:p:=by
 obtain⟨h1,h2,h3,h5⟩:=h;refine⟨h1,h2,h3,?_⟩;rcases h5 with h5|⟨b,o,rfl,hlt,hc⟩
 ·exact Or.inl h5
 ·exact Or.inr ⟨b,o,rfl,Yj hlt hb.size,λj v hv=>(hc j v hv).below hlt hb⟩):p:=h
theorem aky(h:p:=by
 have HN:=aa (λh=>hq (hr.2 h));clear hsl hb hb1 hr;go_wp2_with fail;go_ret;exact⟨Y_,rfl,⟨λh=>bU,λh=>(HN.out (dy h.2.2.2.2.2.2)).elim⟩,HB.out⟩):p:=h
theorem qx(h:p:=by
 go_wp2;go_ret;exact⟨Y_,rfl,by unfold aL;simp;omega,rfl⟩):p:=h
theorem qv(h:p:=by
 clear HQ;go_wp2;go_ret;exact au.t ⟨HQ1.out,HQ2.out⟩ HB.out):p:=h
theorem wH(h:p:=by
 obtain⟨l',rfl⟩:=List.getLast?_eq_some_iff.1 hb;rw[<-hf];simp):p:=h
theorem PR(h:p:=by
 go_wp2;go_ret;refine⟨Zb,rfl,?_,rfl⟩;simp only[true_iff];exact⟨by omega,by omega,λi h=>HA.out i h af⟩):p:=h
theorem PF(h:p:=by
 rw[if_pos hw];exact h a w K h1 h2 (λt ht=>h3 t (by unfold Oper.looksAt;exact List.mem_append_left _ ht)) h4):p:=h
theorem PD(h:p:=by
 rcases h5 with h5|⟨b,o,rfl,hlt,hc⟩
 ·subst h5;simp at h1;omega
 ·exact⟨b,o,_,rfl,hlt,hx,hc j _ hx⟩):p:=h
theorem PC(h:p:=by
 show _=_;rw[kJ HX.out,if_neg (λh=>by have:=HI.2 h;cases this),<-HS.out,Int.add_zero]):p:=h
theorem PB(h:p:=by
 rcases Nat.lt_or_ge b w.heap.size with h1|h1
 ·exact h1
 ·rw[Array.getElem?_eq_none h1] at h;cases h):p:=h
theorem Py(h:p:=by
 rw[ht,jZ,if_pos ⟨rfl,by rw[h.size];exact hin o (Ys ho) t ht⟩];exact hv):p:=h
theorem Pg(h:p:=by
 obtain⟨h6,h7⟩:=this;obtain⟨k,hk,hx⟩:=Array.any_eq_true.1 h7;simp only[YG,beq_iff_eq] at hx;exact⟨h6,_,Array.getElem_mem hk,hx.1,hx.2⟩):p:=h
theorem Pb(h:p:=by
 rintro e w1 ⟨r,rfl,hr,rfl⟩;go_wp2_with fail;go_ret;exact⟨r,rfl,⟨λh=>⟨h0.out,h1.out,h2.out,hr.1 h⟩,λh=>hr.2 h.2.2.2⟩,ak _ _⟩):p:=h
theorem O7(h:p:=by
 rintro e w1 ⟨r,rfl,hr,rfl⟩;go_wp2_with fail;go_ret;exact⟨r,rfl,⟨λh=>⟨h0.out,hr.1 h⟩,λh=>hr.2 h.2⟩,ak _ _⟩):p:=h
theorem O3(h:p:=by
 cases hd:o.dst with
 | none=>exact h1
 | some d=>
  rw[jZ,if_neg (λhx=>hne (hd.trans (by rw[hx.1])))];exact h1):p:=h
theorem O2(h:p:=by
 by_cases e:j=k
 ·subst e;rw[HXx.out] at hz;obtain rfl:=Yd hz;exact HOK.out
 ·exact HQ.out j z af hz):p:=h
theorem O1(h:p:=by
 by_cases e:j=k
 ·subst e;rw[HX.out] at hz;obtain rfl:=Yd hz;exact HN.out
 ·exact HE.out j z af hz):p:=h
theorem OY(h:p:=by
 go_wp2;go_ret;exact⟨Y_,rfl,⟨λh=>bU,λh=>absurd (h.2.2.2.2.2.1 rfl) hm0⟩,ak _ _⟩):p:=h
theorem al1(h:p:=by
 have z339z:=@aa _ @ac0;exact zP):p:=h
theorem qo(h:p:=by
 have z421z:=@aa _ @ab2;exact zz):p:=h
theorem ahq(h:p:=by
 have v1w:=λq:Wd w2=>(q.cell hbv).trans v1;have v3w:=λq:Wd w2=>(q.cell hbv).trans v3;have v4w:=λq:Wd w2=>(q.cell hbv).trans v4;have v5w:=λq:Wd w2=>(q.cell hbv).trans v5;have hne0:=Wd.ne w2;exact Yb v1w (Yb v3w (Yb v4w (Yb v5w hne0)))):p:=h
theorem N_(h:p:=by
 have HW:=HB;have k1:=λq:Wd wr=>q.slot (o:=1) Gk.out rfl;have z421z:=@aa _ @ab1;exact zz):p:=h
theorem eu(h:p:=by
 have Ck:=upK Gk q1.b;have Cr:=upK Gr q1.b;exact Yb Ck Cr):p:=h
theorem N9(h:p:=by
 have z1397z:=@aa _ @Iy;exact sX):p:=h
theorem ux(h:p:=by
 have x5:=λq:Wd wr=>(q.cell hb).trans c5;have x6:=λq:Wd wr=>(q.cell hb).trans c6;exact Yb x5 x6):p:=h
theorem fE(h:p:=by
 have Gk:=Bk;have Gr:=Br;have HW:=HB;exact Yb Gk (Yb Gr HW)):p:=h
theorem uv(h:p:=by
 have yw:=λq:Wd wr=>(q.cell hb).trans y0;have hne0:=Wd.ne wr;exact Yb yw hne0):p:=h
theorem alO(h:p:=by
 have HB1:=upB HW q.b;have Ck:=upK Gk q.b;exact Yb HB1 Ck):p:=h
theorem jQ(h:p:=by
 have HB2:=upB HW q2.b;have Ck:=upK Gk q2.b;exact Yb HB2 Ck):p:=h
theorem ahe(h:p:=by
 have yw:=λq:Wd w1=>(q.cell hbv).trans hcv;have hne0:=Wd.ne w1;have HC0:=aa (λq:Wd w1=>d_ ⟨a1,l1,y1,a2,l2,y2,(Y5 ⟨b,o,U⟩),l3,y3,(Y5 ⟨b4,o4,U⟩),l4,y4,a5,l5,y5⟩ c.now c.ks v.k q.w (HR.k.below (HW.trans (q.b.mono HW.size))) HKS.out HG1.out HG2.out);exact Yb yw (Yb hne0 HC0)):p:=h
theorem iL(h:p:=by
 have HB1:=upB HW q1.b;have Ck:=upK Gk q1.b;exact Yb HB1 Ck):p:=h
theorem oO(h:p:=by
 have HW:=HB;have k3:=λq:Wd wr=>q.slot (o:=3) Gk.out rfl;exact Yb HW k3):p:=h
theorem N1(h:p:=by
 have HW:=HB;have k4:=λq:Wd wr=>q.slot (o:=4) Gk.out rfl;exact Yb HW k4):p:=h
theorem gZ(h:p:=by
 have HXx:=aa hx;have HTx:=aa hvr;have HZx0:=aa z0;exact Yb HXx (Yb HTx HZx0)):p:=h
theorem Ol(h:p:=by
 have hne0:=Wd.ne w1;have HC0:=aa (λq:Wd w1=>d_ ⟨a1,l1,y1,a2,l2,y2,(Y5 ⟨b,o,U⟩),l3,y3,a4,l4,y4,a5,l5,y5⟩ c.now c.ks v.k q.w (HR.k.below (HW.trans (q.b.mono HW.size))) HKS.out HG1.out HG2.out);exact Yb hne0 HC0):p:=h
theorem nv(h:p:=by
 have hd:decide ((0:Int)<k)=Y_:=by simp;omega
 have Gk:=Bk;exact Yb hd Gk):p:=h
theorem iU(h:p:=by
 have HX:=aa hx;have HV:=aa hv;have HNE:=aa hne;exact Yb HX (Yb HV HNE)):p:=h
theorem ajZ(h:p:=by
 have Gk:Hid (wr.heap[w.heap.size]?=Y5 (Y8 (clo6 (Y5 ⟨b,o,U⟩) l1 y1 a2 l2 y2 a3 l3 y3 a4 l4 y4 a5 l5 y5 c.now) 29 (0,0))):=Bk.out;have HW:=HB;have k0:=λq:Wd wr=>q.slot (o:=0) Gk.out rfl;exact Yb Gk (Yb HW k0)):p:=h
theorem ajY(h:p:=by
 have Gk:Hid (wr.heap[w.heap.size]?=Y5 (Y8 (clo6 a1 l1 y1 a2 l2 y2 (Y5 ⟨b,o,U⟩) l3 y3 a4 l4 y4 a5 l5 y5 c.now) 29 (0,0))):=Bk.out;have HW:=HB;have k2:=λq:Wd wr=>q.slot (o:=2) Gk.out rfl;exact Yb Gk (Yb HW k2)):p:=h
theorem ajP(h:p:=by
 rintro _ ⟨q2,rfl⟩;obtain⟨HB2,Ck⟩:=jQ;have Cx:=upK Gx q2.b;have Cy:=upK Gy q2.b;clear hne0 HW HB k2 x3 y3 tw vw Gk Gx Gy Bk Bx By;have z664z:=@aa _ @WB;exact pP):p:=h
theorem ajO(h:p:=by
 rintro _ ⟨q2,rfl⟩;obtain⟨HB2,Ck⟩:=jQ;have Cx:=upK Gx q2.b;have Cy:=upK Gy q2.b;clear hne0 HW HB k2 x3 y3 Gk Gx Gy Bk Bx By;have z664z:=@aa _ @Wz;exact pP):p:=h
theorem ajN(h:p:=by
 rintro _ ⟨qz,rfl⟩;have HB3:=upB HW qz.b;have Ck:=upK Gk qz.b;have Cr:=upK Gr qz.b;clear hne0 HW HB k2 r0 r1 r2 r3 r4 v1w v3w v4w v5w Gk Gr Bk Br pr v1 v3 v4 v5 hbv;have HB:=HB3;clear HB3;have Bk:=Ck;clear Ck;have Br:=Cr;clear Cr;clear q1 q2 q3 q4;have z644z:=@aa _ @WR;exact lA):p:=h
theorem ajM(h:p:=by
 rintro _ ⟨q1,rfl⟩;have HB3:=upB HW q1.b;obtain⟨Ck,Cr⟩:=eu;clear hne0 HW HB k2 r0 r1 r2 r3 r4 Gk Gr Bk Br pr;have HB:=HB3;clear HB3;have z1027z:=@aa _ @Ns;exact gY):p:=h
theorem ajL(h:p:=by
 have z530z:=@aa _ @aaA;exact lB):p:=h
theorem ajK(h:p:=by
 have z530z:=@aa _ @aaz;exact lB):p:=h
theorem ajJ(h:p:=by
 have z530z:=@aa _ @aay;exact lB):p:=h
theorem ajI(h:p:=by
 have z530z:=@aa _ @aax;exact lB):p:=h
theorem aX(h:p:=by
 go_wp2_with fail;have z795z:=@aa _ @UP;exact pL):p:=h
theorem ajc(h:p:=by
 have z745z:=@aa _ @Vs;exact yW):p:=h
theorem ajb(h:p:=by
 have z745z:=@aa _ @Vr;exact yW):p:=h
theorem aja(h:p:=by
 have z693z:=@aa _ @V8;exact y8):p:=h
theorem ai_(h:p:=by
 have z1087z:=@aa _ @MD;exact nh):p:=h
theorem ai9(h:p:=by
 repeat (go_big_quiet_step (first|(go_at_call 108;exact Calls.wide (HC0.out _))|fail))
 have z668z:=@aa _ @Wx;exact bO):p:=h
theorem ai8(h:p:=by
 repeat (go_big_quiet_step (first|(go_at_call 108;exact Calls.wide (HC0.out _))|fail))
 have z668z:=@aa _ @Ww;exact bO):p:=h
theorem ai7(h:p:=by
 repeat (go_big_quiet_step (first|(go_at_call 108;exact Calls.wide (HC0.out _))|fail))
 have z668z:=@aa _ @Wv;exact bO):p:=h
theorem ai6(h:p:=by
 repeat (go_big_quiet_step (first|(go_at_call 108;exact Calls.wide (HC0.out _))|fail))
 have z668z:=@aa _ @Wu;exact bO):p:=h
theorem ai5(h:p:=by
 repeat (go_big_quiet_step (first|(go_at_call 109;exact Calls.wide (HC0.out _))|fail))
 have z668z:=@aa _ @Wt;exact bO):p:=h
theorem ai4(h:p:=by
 repeat (go_big_quiet_step (first|(go_at_call 109;exact Calls.wide (HC0.out _))|fail))
 have z668z:=@aa _ @Ws;exact bO):p:=h
theorem ai3(h:p:=by
 repeat (go_big_quiet_step (first|(go_at_call 109;exact Calls.wide (HC0.out _))|fail))
 have z668z:=@aa _ @Wr;exact bO):p:=h
theorem ai2(h:p:=by
 repeat (go_big_quiet_step (first|(go_at_call 109;exact Calls.wide (HC0.out _))|fail))
 have z668z:=@aa _ @Wq;exact bO):p:=h
theorem ai1(h:p:=by
 repeat (go_big_quiet_step (first|(go_at_call 110;exact Calls.wide (HC0.out _))|fail))
 have z668z:=@aa _ @Wp;exact bO):p:=h
theorem ai0(h:p:=by
 repeat (go_big_quiet_step (first|(go_at_call 110;exact Calls.wide (HC0.out _))|fail))
 have z668z:=@aa _ @Wo;exact bO):p:=h
theorem aiZ(h:p:=by
 repeat (go_big_quiet_step (first|(go_at_call 110;exact Calls.wide (HC0.out _))|fail))
 have z668z:=@aa _ @Wm;exact bO):p:=h
theorem aiY(h:p:=by
 repeat (go_big_quiet_step (first|(go_at_call 110;exact Calls.wide (HC0.out _))|fail))
 have z668z:=@aa _ @Wl;exact bO):p:=h
theorem aiX(h:p:=by
 repeat (go_big_quiet_step (first|(go_at_call 111;exact Calls.wide (HC0.out _))|fail))
 have z668z:=@aa _ @Wk;exact bO):p:=h
theorem aiW(h:p:=by
 repeat (go_big_quiet_step (first|(go_at_call 111;exact Calls.wide (HC0.out _))|fail))
 have z668z:=@aa _ @Wj;exact bO):p:=h
theorem aiV(h:p:=by
 repeat (go_big_quiet_step (first|(go_at_call 111;exact Calls.wide (HC0.out _))|fail))
 have z668z:=@aa _ @Wi;exact bO):p:=h
theorem aiU(h:p:=by
 repeat (go_big_quiet_step (first|(go_at_call 111;exact Calls.wide (HC0.out _))|fail))
 have z668z:=@aa _ @Wh;exact bO):p:=h
theorem aiT(h:p:=by
 repeat (go_big_quiet_step (first|(go_at_call 112;exact Calls.wide (HC0.out _))|fail))
 have z668z:=@aa _ @Wg;exact bO):p:=h
theorem aiS(h:p:=by
 repeat (go_big_quiet_step (first|(go_at_call 112;exact Calls.wide (HC0.out _))|fail))
 have z668z:=@aa _ @Wf;exact bO):p:=h
theorem aiR(h:p:=by
 repeat (go_big_quiet_step (first|(go_at_call 112;exact Calls.wide (HC0.out _))|fail))
 have z668z:=@aa _ @We;exact bO):p:=h
theorem aiQ(h:p:=by
 repeat (go_big_quiet_step (first|(go_at_call 112;exact Calls.wide (HC0.out _))|fail))
 have z668z:=@aa _ @Wb;exact bO):p:=h
theorem aiP(h:p:=by
 have z521z:=@aa _ @aaI;exact fa):p:=h
theorem aiO(h:p:=by
 have z521z:=@aa _ @aaH;exact fa):p:=h
theorem aiN(h:p:=by
 have z521z:=@aa _ @aaG;exact fa):p:=h
theorem aiM(h:p:=by
 have z521z:=@aa _ @aaF;exact fa):p:=h
theorem aiL(h:p:=by
 have z521z:=@aa _ @aaE;exact fa):p:=h
theorem aC(h:p:=by
 have z1247z:=@aa _ @Kx;exact bY):p:=h
theorem aeI(h:p:=by
 have z550z:=@aa _ @OY;exact pU):p:=h
theorem aeH(h:p:=by
 have z550z:=@aa _ @aai;exact pU):p:=h
theorem aeG(h:p:=by
 have z550z:=@aa _ @aah;exact pU):p:=h
theorem qm(h:p:=by
 go_enter Tryz.func110,Tryz.ntmps110;go_wp2_with fail;refine (bW n _ hn).mono ?_;rintro e w1 ⟨r,rfl,hr,rfl⟩;by_cases hq:r=Zb;case neg=>
  exact ah5
 have h0:=aa (hr.1 hq);subst hq;clear hr;go_wp2_with fail;refine (o8 c _).mono ?_;have z588z:=@aa _ @XL;exact fU):p:=h
theorem aez(h:p:=by
 refine (bW z _ hz).mono ?_;have z588z:=@aa _ @XK;exact fU):p:=h
theorem aey(h:p:=by
 refine (ig z _ hz).mono ?_;exact O7):p:=h
theorem aex(h:p:=by
 refine (o8 z _).mono ?_;have z588z:=@aa _ @XJ;exact fU):p:=h
theorem aew(h:p:=by
 refine (uZ c _).mono ?_;have z588z:=@aa _ @XI;exact fU):p:=h
theorem fb(h:p:=by
 rintro e w1 ⟨r,rfl,hr,rfl⟩;by_cases hq:r=Zb;case neg=>
  exact ah5
 have h0:=aa (hr.1 hq);subst hq;clear hr;go_wp2_with fail;exact z218z):p:=h
theorem adK(h:p:=by
 have HX:=aa hx;have HT:=aa hvr;clear hat hx z0 z2 z3 z5 hvr;go_wp2_with fail;refine (bX va vl vc v.zs t _ HT.out).mono ?_;rintro e w1 ⟨r,rfl,hi,hb2⟩;replace Bk:=upK Bk hb2;replace HB:=upB HB hb2;clear hb2;have HI:=aa hi;clear hi hb kk c0 c1 c2 c3 c4 c5 c6 c7;cases r
 ·go_wp2;refine⟨⟨k+1,s,by omega,rfl,by go_num,?_,by omega,by omega,HB.out,Bk.out⟩,by simp[intOf];omega⟩;exact PC
 ·go_wp2;refine⟨⟨k+1,s+1,by omega,by go_num,by go_num,?_,by omega,by omega,HB.out,Bk.out⟩,by simp[intOf];omega⟩;show _=_;rw[kJ HX.out,if_pos (HI.1 bM),<-HS.out]):p:=h
theorem fV(h:p:=by
 obtain⟨va,vl,vc,hvr,z0,z2,z3,z5,c0,c1,c2,c3,c4,c5,c6,c7⟩:=aW hat;exact z280z):p:=h
theorem ac0(h:p:=by
 have hl2:c.ks.length=l2:=by simpa using (show (c.ks.map kdF).length=l2 from hr.k.1)
 have hm2:l2<=9223372036854775807:=Yp hr.k.2.1 hr.k.2.2.1;have z1351z:=@aa _ @I9;exact tg):p:=h
theorem zP(h:p:=by
 have z1416z:=@aa _ @Ij;exact sR):p:=h
theorem acv(h:p:=by
 have hend:∀(listed:Array Bool) (a:Act) (w:World),listed.size=ops.size->(∀i,i<ops.size->listed.getD i Y_=Zb)->(∀o,back=Y5 o->listed.getD front.length Y_=Y_)->At front φs W a0 listed a w->Q .normal a w:=by
  intro listed a w hz hall hb h;have h1:=hf.last hlen hin h (λi hi=>hall i af);exact wQ
 intro fuel;induction fuel with
 | zero=>
  intro listed a w hz hc hb h;have hall:∀i,i<ops.size->listed.getD i Y_=Zb:=λi hi=>hJ af i af;refine⟨?_,hend listed a w hz hall hb h⟩
  cases hr:YQ .any ops listed with
  | nil=>rfl
  | cons j js=>
   have hm:j∈YQ .any ops listed:=by rw[hr];simp
   obtain⟨h1,o,ho,-⟩:=mem_ready.1 hm;have hj:=(Yw.1 ho).1;rw[<-cU af,hall j hj] at h1
   cases h1
 | succ fuel ih=>
  intro listed a w hz hc hb h;refine⟨λhr=>hend listed a w hz (gB hz hlt hr) hb h,λj hj=>?_⟩;obtain⟨hun,o,ho,hall⟩:=mem_ready.1 hj;have hjs:j<ops.size:=(Yw.1 ho).1;have hcs:=count_set (listed:=listed) (i:=j) af hun
  by_cases hjf:j<front.length
  ·have hof:front[j]?=Y5 o:=by rw[hops] at ho;simpa[Yu hjf] using ho
   have hφ:φs[j]?=Y5 (φs[j]'(by omega)):=Yi _;obtain⟨hm,hob⟩:=hs j o _ hof hφ
   have hfacts:∀t∈o.looksAt ops,aj a0 (knAll [] (front.take j) (φs.take j)) a w t:=by
    intro t ht;unfold aj
    cases hk:(knAll [] (front.take j) (φs.take j)).lookup t with
    | some φ=>
     rcases cZ _ _ _ hk with ⟨i,p,h1,h2,h3⟩|h1
     ·have hij:i<j:=by have:=(Yc.1 h1).1;simp at this;omega
      rw[YA,if_pos hij] at h1 h3;obtain⟨-,e,he,hon,hbi⟩:=hdep j o hof t ht i p h1 h2;have hl:=hall e he hbi;rw[hon] at hl;exact h.known i p φ h1 h3 t h2 hl
     ·simp at h1
    | none=>
     refine h.other t (λi p hp hd=>?_)
     exfalso
     obtain⟨hij,-⟩:=hdep j o hof t ht i p hp hd;have hi:=(Yc.1 hp).1;exact (c_ _ _ _ hk).2 i p (φs[i]'(by omega)) Ag Aj hd
   have h1:=hob a w (wpAny P .any ops Q fuel (listed.setIfInBounds j Zb)) h.size h.below hfacts (λv w' hbw hv=>by
    refine ih _ _ _ (by simpa using hz) af (λo' ho'=>?_) (h.step hn hin (λi o φ h1 h2=>(hs i o φ h1 h2).1) hof hφ af hbw hv);have h2:=hb o' ho'
    have e:¬j=front.length:=af
    simpa[Yr,Array.getElem?_setIfInBounds,e] using h2)
   unfold wpOp;rw[ho]
   simp only
   split
   ·rename_i hw;rw[if_pos hw] at h1;exact Ze h1
   ·rename_i hw;rw[if_neg hw] at h1;exact h1
  ·cases hk:back with
   | none=>rw[hk] at hsz;simp at hsz;omega
   | some b=>
    have hjn:j=front.length:=by rw[hk] at hsz;simp at hsz;omega
    subst hjn
    have hob:o=b:=by
     rw[hops,hk] at ho
     simp at ho
     exact ho.symm
    subst hob
    have hfl:∀i,i<front.length->listed.getD i Y_=Zb:=λi hi=>by
     obtain⟨e,he,hon,hbi⟩:=hback o hk i hi;have:=hall e he hbi
     rwa [hon] at this
    have h1:=hf.last hlen hin h hfl;rw[hk] at h1
    have h2:=h1 (wpAny P .any ops Q fuel (listed.setIfInBounds front.length Zb)) (λa' w' hq=>by
     have hr:YQ .any ops (listed.setIfInBounds front.length Zb)=[]:=by
      cases hr:YQ .any ops (listed.setIfInBounds front.length Zb) with
      | nil=>rfl
      | cons i is=>
       have hm:i∈YQ .any ops (listed.setIfInBounds front.length Zb):=by rw[hr];simp
       obtain⟨h3,o',ho',-⟩:=mem_ready.1 hm;have hi:=(Yw.1 ho').1
       exfalso
       by_cases e:front.length=i
       ·subst e
        simp[Yr,show front.length<listed.size from by omega] at h3
       ·have h4:=hfl i (by rw[hk] at hsz;simp at hsz;omega);rw[cU af] at h4
        simp[Yr,e] at h3 h4
        rw[h3] at h4
        cases h4
     cases fuel with
     | zero=>exact⟨hr,hq⟩
     | succ fuel=>exact⟨λ_=>hq,λi hi=>by rw[hr] at hi;cases hi⟩)
    unfold wpOp;rw[ho]
    simp only
    split
    ·rename_i hw;rw[if_pos hw] at h2;exact Ze h2
    ·rename_i hw;rw[if_neg hw] at h2;exact h2):p:=h
theorem p_(h:p:=by
 obtain⟨hn,hin,hdep,hlt,hback⟩:=gf hB;rw[<-hops] at hdep hlt;have hsz:ops.size=front.length+back.toList.length:=by rw[hops];simp
 exact z382z):p:=h
theorem ab7(h:p:=by
 have:=List.all_eq_true.1 this t ht;have:=List.all_eq_true.1 this i (List.mem_range.2 hi);rw[hp] at this;simp only[hd,bne_self_eq_false,Bool.false_or,YG,decide_eq_true_eq] at this;exact Pg):p:=h
theorem zA(h:p:=by
 have hj:j<front.length:=(Yc.1 ho).1;have hi:i<front.length:=(Yc.1 hp).1;have:=List.all_eq_true.1 h3 j (List.mem_range.2 hj);rw[ho] at this;exact z413z):p:=h
theorem ab2(h:p:=by
 have x4:=λq:Wd wr=>(q.cell hb).trans c4;exact Yb x0 (Yb x1 (Yb x2 (Yb x3 x4)))):p:=h
theorem ab1(h:p:=by
 exact Yb HW (Yb k1 (Yb x0 (Yb x1 (Yb x2 x3))))):p:=h
theorem zz(h:p:=by
 have x0:=λq:Wd wr=>(q.cell hb).trans c0;have x1:=λq:Wd wr=>(q.cell hb).trans c1;have x2:=λq:Wd wr=>(q.cell hb).trans c2;have x3:=λq:Wd wr=>(q.cell hb).trans c3;exact z421z):p:=h
theorem abY(h:p:=by
 go_enter Tryz.func115,Tryz.ntmps115;go_wp2;go_loopw [5,6] (λq i wr=> ∃(k:Nat) (s:Int),k<=l5/\q=Y7 Y6 s/\i=Y7 Y6 k/\Hid (s=cpuOf t (ps.take k))/\0<=s/\s<=k*1000000/\wr=w.alloc (Y8 #[J a1 l1 y1,J a2 l2 y2,J a3 l3 y3,J a4 l4 y4,J a5 l5 y5,Y7 Y6 now] 29)) (λ_ i _=>l5 - (intOf i).toNat);case atStart=>exact⟨0,0,by omega,rfl,rfl,rfl,by omega,by omega,rfl⟩
 case round=>
  obtain⟨k,s,hk,rfl,rfl,HS,hs0,hs1,rfl⟩:=hrel;by_cases hlt:k<l5
  ·obtain⟨b,o,p,rfl,hb,hx,hat⟩:=cg HR.out hlt;have z1042z:=@aa _ @Nf;exact cK
  ·obtain rfl:l5=k:=af
   go_wp2;go_ret;exact⟨congrArg (λz=>Ending.returned (Y7 Y6 z)) (HS.trans (by rw[YJ af])),ak _ _⟩):p:=h
theorem zx(h:p:=by
 obtain⟨a1,l1,y1,a2,l2,y2,a3,l3,y3,a4,l4,y4,a5,l5,y5⟩:=d;dsimp only at hr ⊢;have HR:=aa hr;have hxl:ps.length=l5:=fg
 have HP:=aa hp;clear hr hp;exact z427z):p:=h
theorem abU(h:p:=by
 obtain⟨v3,h3,rfl,z3⟩:=h 3 _ rfl;obtain⟨v4,h4,rfl⟩:=h 4 _ rfl;obtain⟨v5,h5,rfl,z5⟩:=h 5 _ rfl;obtain⟨v6,h6,rfl⟩:=h 6 _ rfl;obtain⟨v7,h7,a,len,cap,rfl,hr⟩:=h 7 _ rfl;exact⟨a,len,cap,hr,z0,z2,z3,z5,h0,h1,h2,h3,h4,h5,h6,h7⟩):p:=h
theorem abT(h:p:=by
 obtain⟨v3,h3,rfl⟩:=h 3 _ rfl;obtain⟨v4,h4,rfl,z4⟩:=h 4 _ rfl;exact⟨z0,z2,z4,h0,h1,h2,h3,h4⟩):p:=h
theorem abS(h:p:=by
 obtain⟨v3,h3,a,len,cap,rfl,hr⟩:=h 3 _ rfl;obtain⟨v4,h4,rfl,z4⟩:=h 4 _ rfl;obtain⟨v5,h5,rfl⟩:=h 5 _ rfl;exact⟨a,len,cap,hr,z0,z2,z4,h0,h1,h2,h3,h4,h5⟩):p:=h
theorem pX(h:p:=by
 obtain⟨v0,h0,rfl,z0⟩:=h 0 _ rfl;obtain⟨v1,h1,rfl⟩:=h 1 _ rfl;obtain⟨v2,h2,rfl,z2⟩:=h 2 _ rfl;exact z433z):p:=h
theorem abK(h:p:=by
 by_cases hL1:(6:Int)<l1
 ·go_enter Tryz.func68,Tryz.ntmps68;go_wp2;go_ret;exact au.f (λh=>by have:=h.1.1;omega) (ak _ _)
 by_cases hL2:(8:Int)<l2
 ·go_enter Tryz.func68,Tryz.ntmps68;go_wp2;go_ret;exact au.f (λh=>by have:=h.2.1.1;omega) (ak _ _)
 by_cases hL3:(8:Int)<l3
 ·go_enter Tryz.func68,Tryz.ntmps68;go_wp2;go_ret;exact au.f (λh=>by have:=h.2.2.1.1;omega) (ak _ _)
 by_cases hL4:(8:Int)<l4
 ·go_enter Tryz.func68,Tryz.ntmps68;go_wp2;go_ret;exact au.f (λh=>by have:=h.2.2.2.1.1;omega) (ak _ _)
 by_cases hL5:(8:Int)<l5
 ·go_enter Tryz.func68,Tryz.ntmps68;go_wp2;go_ret;exact au.f (λh=>by have:=h.2.2.2.2.1;omega) (ak _ _)
 go_enter Tryz.func68,Tryz.ntmps68;go_wp2;go_loopw [3] (λi wr=> ∃k:Nat,k<=l1/\i=Y7 Y6 k/\Hid (∀(j:Nat) z,j<k->c.ns[j]?=Y5 z->wV z)/\Hid (∀(j:Nat) z u,j+1<k->c.ns[j+1]?=Y5 z->c.ns[j]?=Y5 u->Yk u.n.toList z.n.toList=Zb)/\Hid (Below w.heap.size w wr)/\Hid (wr.heap[w.heap.size]?=Y5 (Y8 (clo6 a1 l1 y1 a2 l2 y2 a3 l3 y3 a4 l4 y4 a5 l5 y5 c.now) 29 (0,0)))) (λi _=>l1 - (intOf i).toNat);case atStart=>exact⟨0,by omega,rfl,λ_ _ h=>absurd h af,λ_ _ _ h=>absurd h af,ak _ _,Yg⟩
 case round=>
  obtain⟨k,hk,rfl,HQ,HO,HB,Bk⟩:=hrel;have pk:=ck0 Bk;by_cases hlt:k<l1
  ·obtain⟨b,o,x,rfl,hb,hx,hat⟩:=dh (HR.n.below HB.out) hlt;obtain⟨va,vl,vc,hvr,z0,z1,c0,c1,c2,c3,c4,c5,c6⟩:=bg hat;obtain⟨HXx,HTx,HZx0⟩:=gZ;have HZx1:=aa z1;clear hat hx z0 z1 hvr;by_cases hok:wV x;rotate_left
   ·have HOK:=aa hok;clear hok;have Gk:=Bk;have HW:=HB;have k0:=λq:Wd wr=>q.slot (o:=0) Gk.out rfl;obtain⟨x0,x1,x2,x3,x4⟩:=qo;obtain⟨x5,x6⟩:=ux;have hne0:=Wd.ne wr;have HC0:=aa (λq:Wd wr=>(oy x.n x.z x.c x.s x.u x.d va vl vc x.zs q.w HZx0.out HZx1.out (HTx.below q.b)).mono (λ_ _ h=>au.no h HOK.out));have z55z:=@aa _ @ai9;exact aC
   have HOK:=aa hok;clear hok;by_cases hk0:0<k;rotate_left
   ·obtain⟨hd,Gk⟩:=nv;have HW:=HB;have k0:=λq:Wd wr=>q.slot (o:=0) Gk.out rfl;obtain⟨x0,x1,x2,x3,x4⟩:=qo;obtain⟨x5,x6⟩:=ux;have hne0:=Wd.ne wr;have z1432z:=@aa _ @Hy;exact sN
   have ek:((k:Int) - 1).toNat=k - 1:=af
   obtain⟨b',o',y,e',hb',hy,haty⟩:=dh (HR.n.below HB.out) (show k - 1<l1 by omega);cases e';have y0:wr.cell? ⟨b,o+(k - 1)*7,U⟩=Y5 (I y.n):=by
    exact nz
   have HXy:=aa hy;clear hy haty;cases hless:Yk y.n.toList x.n.toList
   ·have z1070z:=@aa _ @MQ;exact tU
   ·have z1070z:=@aa _ @MP;exact tU
  ·obtain rfl:l1=k:=af
   have HR1:Hid (dI wV Nd.n c.ns 6):=⟨by omega,λj z hz=>HQ.out j z dz hz,λj z u hz hu=>HO.out j z u dz hz hu⟩;clear HQ HO;skip;have kc:=ck1 Bk;go_wp2;go_loopw [4] (λi wr=> ∃k:Nat,k<=l2/\i=Y7 Y6 k/\Hid (∀(j:Nat) z,j<k->c.ks[j]?=Y5 z->xi z)/\Hid (∀(j:Nat) z u,j+1<k->c.ks[j+1]?=Y5 z->c.ks[j]?=Y5 u->Yk u.n.toList z.n.toList=Zb)/\Hid (Below w.heap.size w wr)/\Hid (wr.heap[w.heap.size]?=Y5 (Y8 (clo6 a1 l1 y1 a2 l2 y2 a3 l3 y3 a4 l4 y4 a5 l5 y5 c.now) 29 (0,0)))) (λi _=>l2 - (intOf i).toNat);case atStart=>exact⟨0,by omega,rfl,λ_ _ h=>absurd h af,λ_ _ _ h=>absurd h af,HB.out,Bk.out⟩
   case round=>
    obtain⟨k,hk,rfl,HQ,HO,HB,Bk⟩:=hrel;have pk:=ck1 Bk;by_cases hlt:k<l2
    ·obtain⟨b,o,x,rfl,hb,hx,hat⟩:=gH (HR.k.below HB.out) hlt;obtain⟨z0,z3,c0,c1,c2,c3⟩:=da hat;have HXx:=aa hx;have HZx0:=aa z0;have HZx3:=aa z3;clear hat hx z0 z3;by_cases hok:xi x;rotate_left
     ·have HOK:=aa hok;clear hok;have Gk:=Bk;obtain⟨HW,k1,x0,x1,x2,x3⟩:=N_;have hne0:=Wd.ne wr;have HC0:=aa (λq:Wd wr=>(iT x.n x.z x.x x.y q.w HZx0.out HZx3.out).mono (λ_ _ h=>au.no h HOK.out));have z55z:=@aa _ @ai5;exact aC
     have HOK:=aa hok;clear hok;by_cases hk0:0<k;rotate_left
     ·obtain⟨hd,Gk⟩:=nv;obtain⟨HW,k1,x0,x1,x2,x3⟩:=N_;have hne0:=Wd.ne wr;have HC0:=aa (λq:Wd wr=>(iT x.n x.z x.x x.y q.w HZx0.out HZx3.out).mono (λ_ _ h=>au.yes h HOK.out));have z55z:=@aa _ @ai4;exact aC
     have ek:((k:Int) - 1).toNat=k - 1:=af
     obtain⟨b',o',y,e',hb',hy,haty⟩:=gH (HR.k.below HB.out) (show k - 1<l2 by omega);cases e';have y0:wr.cell? ⟨b,o+(k - 1)*4,U⟩=Y5 (I y.n):=by
      exact nz
     have HXy:=aa hy;clear hy haty;cases hless:Yk y.n.toList x.n.toList
     ·have z1017z:=@aa _ @NA;exact tZ
     ·have z1017z:=@aa _ @Nz;exact tZ
    ·obtain rfl:l2=k:=af
     have HR2:Hid (dI xi Kd.n c.ks 8):=⟨by omega,λj z hz=>HQ.out j z dz hz,λj z u hz hu=>HO.out j z u dz hz hu⟩;clear HQ HO;skip;have kc:=ck2 Bk;go_wp2;go_loopw [5] (λi wr=> ∃k:Nat,k<=l3/\i=Y7 Y6 k/\Hid (∀(j:Nat) z,j<k->c.vs[j]?=Y5 z->pA z)/\Hid (∀(j:Nat) z u,j+1<k->c.vs[j+1]?=Y5 z->c.vs[j]?=Y5 u->Yk u.n.toList z.n.toList=Zb)/\Hid (Below w.heap.size w wr)/\Hid (wr.heap[w.heap.size]?=Y5 (Y8 (clo6 a1 l1 y1 a2 l2 y2 a3 l3 y3 a4 l4 y4 a5 l5 y5 c.now) 29 (0,0)))) (λi _=>l3 - (intOf i).toNat);case atStart=>exact⟨0,by omega,rfl,λ_ _ h=>absurd h af,λ_ _ _ h=>absurd h af,HB.out,Bk.out⟩
     case round=>
      obtain⟨k,hk,rfl,HQ,HO,HB,Bk⟩:=hrel;have pk:=ck2 Bk;by_cases hlt:k<l3
      ·have z1359z:=@aa _ @I3;exact tf
      ·obtain rfl:l3=k:=af
       have HR3:Hid (dI pA Vd.n c.vs 8):=⟨by omega,λj z hz=>HQ.out j z dz hz,λj z u hz hu=>HO.out j z u dz hz hu⟩;clear HQ HO;skip;have kc:=ck3 Bk;go_wp2;go_loopw [6] (λi wr=> ∃k:Nat,k<=l4/\i=Y7 Y6 k/\Hid (∀(j:Nat) z,j<k->c.xs[j]?=Y5 z->gK z)/\Hid (∀(j:Nat) z u,j+1<k->c.xs[j+1]?=Y5 z->c.xs[j]?=Y5 u->Yk u.n.toList z.n.toList=Zb)/\Hid (Below w.heap.size w wr)/\Hid (wr.heap[w.heap.size]?=Y5 (Y8 (clo6 a1 l1 y1 a2 l2 y2 a3 l3 y3 a4 l4 y4 a5 l5 y5 c.now) 29 (0,0)))) (λi _=>l4 - (intOf i).toNat);case atStart=>exact⟨0,by omega,rfl,λ_ _ h=>absurd h af,λ_ _ _ h=>absurd h af,HB.out,Bk.out⟩
       case round=>
        obtain⟨k,hk,rfl,HQ,HO,HB,Bk⟩:=hrel;have pk:=ck3 Bk;by_cases hlt:k<l4
        ·have z1731z:=@aa _ @Dd;exact mm
        ·obtain rfl:l4=k:=af
         have HR4:Hid (dI gK Xd.n c.xs 8):=⟨by omega,λj z hz=>HQ.out j z dz hz,λj z u hz hu=>HO.out j z u dz hz hu⟩;clear HQ HO;skip;have kc:=ck4 Bk;go_wp2;go_loopw [7] (λi wr=> ∃k:Nat,k<=l5/\i=Y7 Y6 k/\Hid (∀(j:Nat) z,j<k->c.ps[j]?=Y5 z->uS z)/\Hid (∀(j:Nat) z u,j+1<k->c.ps[j+1]?=Y5 z->c.ps[j]?=Y5 u->Yk u.n.toList z.n.toList=Zb)/\Hid (Below w.heap.size w wr)/\Hid (wr.heap[w.heap.size]?=Y5 (Y8 (clo6 a1 l1 y1 a2 l2 y2 a3 l3 y3 a4 l4 y4 a5 l5 y5 c.now) 29 (0,0)))) (λi _=>l5 - (intOf i).toNat);case atStart=>exact⟨0,by omega,rfl,λ_ _ h=>absurd h af,λ_ _ _ h=>absurd h af,HB.out,Bk.out⟩
         case round=>
          obtain⟨k,hk,rfl,HQ,HO,HB,Bk⟩:=hrel;have pk:=ck4 Bk;by_cases hlt:k<l5
          ·obtain⟨b,o,x,rfl,hb,hx,hat⟩:=cg (HR.p.below HB.out) hlt;obtain⟨va,vl,vc,hvr,z0,z2,z4,c0,c1,c2,c3,c4,c5⟩:=bH hat;obtain⟨HXx,HTx,HZx0⟩:=gZ;have HZx2:=aa z2;have HZx4:=aa z4;clear hat hx z0 z2 z4 hvr;by_cases hok:uS x;rotate_left
           ·have HOK:=aa hok;clear hok;have Gk:=Bk;have z1657z:=@aa _ @Ec;exact mu
           have HOK:=aa hok;clear hok;by_cases hk0:0<k;rotate_left
           ·obtain⟨hd,Gk⟩:=nv;have z1657z:=@aa _ @Eb;exact mu
           have ek:((k:Int) - 1).toNat=k - 1:=af
           obtain⟨b',o',y,e',hb',hy,haty⟩:=cg (HR.p.below HB.out) (show k - 1<l5 by omega);cases e';have y0:wr.cell? ⟨b,o+(k - 1)*6,U⟩=Y5 (I y.n):=by
            exact nz
           have HXy:=aa hy;clear hy haty;cases hless:Yk y.n.toList x.n.toList
           ·have z966z:=@aa _ @Sq;exact yx
           ·have z966z:=@aa _ @Sp;exact yx
          ·obtain rfl:l5=k:=af
           have HR5:Hid (dI uS Pd.n c.ps 8):=⟨by omega,λj z hz=>HQ.out j z dz hz,λj z u hz hu=>HO.out j z u dz hz hu⟩;clear HQ HO;go_wp2;go_ret;exact au.t ⟨HR1.out,HR2.out,HR3.out,HR4.out,HR5.out⟩ HB.out):p:=h
theorem abJ(h:p:=by
 have HKS:=aa hks;have HXS:=aa hxs;have HVS:=aa hvs;clear hks hxs hvs;go_enter Tryz.func69,Tryz.ntmps69;go_wp2;go_loopw [3] (λi wr=> ∃k:Nat,k<=l3/\i=Y7 Y6 k/\Hid (∀(j:Nat) z,j<k->c.vs[j]?=Y5 z->SV c z)/\Hid (Below w.heap.size w wr)/\Hid (wr.heap[w.heap.size]?=Y5 (Y8 (clo6 a1 l1 y1 a2 l2 y2 a3 l3 y3 a4 l4 y4 a5 l5 y5 c.now) 29 (0,0)))) (λi _=>l3 - (intOf i).toNat);case atStart=>exact⟨0,by omega,rfl,λ_ _ h=>absurd h af,ak _ _,Yg⟩
 case round=>
  obtain⟨k,hk,rfl,HQ,HB,Bk⟩:=hrel;have pk:=ck2 Bk;by_cases hlt:k<l3
  ·have z1289z:=@aa _ @JU;exact mV
  ·obtain rfl:l3=k:=af
   have HQ1:Hid (∀(j:Nat) z,c.vs[j]?=Y5 z->SV c z):=λj z hz=>HQ.out j z dz hz;clear HQ;have kc:=ck3 Bk;go_wp2;go_loopw [6] (λi wr=> ∃k:Nat,k<=l4/\i=Y7 Y6 k/\Hid (∀(j:Nat) z,j<k->c.xs[j]?=Y5 z->SX c z)/\Hid (Below w.heap.size w wr)/\Hid (wr.heap[w.heap.size]?=Y5 (Y8 (clo6 a1 l1 y1 a2 l2 y2 a3 l3 y3 a4 l4 y4 a5 l5 y5 c.now) 29 (0,0)))) (λi _=>l4 - (intOf i).toNat);case atStart=>exact⟨0,by omega,rfl,λ_ _ h=>absurd h af,HB.out,Bk.out⟩
   case round=>
    obtain⟨k,hk,rfl,HQ,HB,Bk⟩:=hrel;have pk:=ck3 Bk;by_cases hlt:k<l4
    ·have z1731z:=@aa _ @Dc;exact mm
    ·obtain rfl:l4=k:=af
     have HQ2:Hid (∀(j:Nat) z,c.xs[j]?=Y5 z->SX c z):=λj z hz=>HQ.out j z dz hz;exact qv):p:=h
theorem b_(h:p:=by
 obtain⟨a1,l1,y1,a2,l2,y2,a3,l3,y3,a4,l4,y4,a5,l5,y5⟩:=d;dsimp only;obtain⟨HR,hl1,hm1,hl2,hm2,hl3,hm3,hl4,hm4,hl5,hm5⟩:=al1;clear hr;exact z448z):p:=h
theorem aaI(h:p:=by
 have z1020z:=@aa _ @Ny;exact nk):p:=h
theorem aaH(h:p:=by
 have z1020z:=@aa _ @Nx;exact nk):p:=h
theorem aaG(h:p:=by
 have z1020z:=@aa _ @Nw;exact nk):p:=h
theorem aaF(h:p:=by
 have HB2:=upB HW q1.b;obtain⟨Ck,Cr⟩:=eu;clear hne0 HW HB HC0 k0 k1 k2 k3 k4 k5 r0 r1 r2 r3 r4 r5 r6 r7 yw Gk Gr Bk Br hcv hbv;have HB:=HB2;clear HB2;have Bk:=Ck;clear Ck;have Br:=Cr;clear Cr;have z1375z:=@aa _ @IP;exact jK):p:=h
theorem aaE(h:p:=by
 have HB2:=upB HW q1.b;obtain⟨Ck,Cr⟩:=eu;clear hne0 HW HB HC0 k0 k1 k2 k3 k4 k5 r0 r1 r2 r3 r4 r5 r6 r7 yw Gk Gr Bk Br hcv hbv;have HB:=HB2;clear HB2;have z1027z:=@aa _ @Nr;exact gY):p:=h
theorem fa(h:p:=by
 repeat (go_big_quiet_step (first|(go_at_call 38;exact Calls.wide (HC0.out _))|fail))
 refine wpQuiet_nil ?_;rintro _ ⟨q1,rfl⟩;exact z521z):p:=h
theorem aaA(h:p:=by
 rcases (h.2 k x HXx.out).2 with h2|⟨i,y2,h2,h3,h4⟩
 ·exact HEm.out h2
 ·obtain⟨_,rfl⟩:=HVS.inj h2 HJ.out (h3.trans HN.symm);exact HNo.out h4.1):p:=h
theorem aaz(h:p:=by
 rcases (h.2 k x HXx.out).2 with h2|⟨i,y2,h2,h3,h4⟩
 ·exact HEm.out h2
 ·obtain⟨_,rfl⟩:=HVS.inj h2 HJ.out (h3.trans HN.symm);have h5:=h4.2.1;have h6:=HNo.out;omega):p:=h
theorem aay(h:p:=by
 rcases (h.2 k x HXx.out).2 with h2|⟨i,y2,h2,h3,h4⟩
 ·exact HEm.out h2
 ·obtain⟨_,rfl⟩:=HVS.inj h2 HJ.out (h3.trans HN.symm);exact HNo.out h4.2.2.1):p:=h
theorem aax(h:p:=by
 rcases (h.2 k x HXx.out).2 with h2|⟨i,y2,h2,h3,h4⟩
 ·exact HEm.out h2
 ·obtain⟨_,rfl⟩:=HVS.inj h2 HJ.out (h3.trans HN.symm);exact HNo.out h4.2.2.2):p:=h
theorem lB(h:p:=by
 rintro _ ⟨q1,rfl⟩;have HB3:=upB HW q1.b;obtain⟨Ck,Cr⟩:=eu;clear hne0 HW HB k2 r0 r1 r2 r3 r4 v1w v3w v4w v5w Gk Gr Bk Br pr v1 v3 v4 v5 hbv;have HB:=HB3;clear HB3;have z1027z:=@aa _ @Nq;exact gY):p:=h
theorem aaw(h:p:=by
 have HR:=aa hr;have hl4:c.xs.length=l4:=NY
 clear hr;obtain⟨HX,HV,HNE⟩:=iU;have HB:=aa (Yh w.heap.size w);clear hx hv hne;go_enter Tryz.func34,Tryz.ntmps34;go_wp2_with fail;refine (eN ⟨a1,l1,y1,a2,l2,y2,a3,l3,y3,a4,l4,y4,a5,l5,y5⟩ c.now c.xs t _ (HR.x.below (ak _ _))).mono ?_;rintro e w1 ⟨hb,hf⟩;have z1073z:=@aa _ @MO;exact fC):p:=h
theorem aav(h:p:=by
 have HR:=aa hr;have hl3:c.vs.length=l3:=uq
 clear hr;obtain⟨HX,HV,HNE⟩:=iU;have HP:=aa hp;have HQ0:=aa hq;have hlc:=Yp hp.2.1 hp.2.2.1;have hzl:=hp.1;clear hx hv hne hp hq;by_cases hp0:p.d=⟨#[]⟩
 ·have e1:=cC hp0;have HH:=aa hp0;clear hp0;go_enter Tryz.func114,Tryz.ntmps114;go_wp2;go_ret;exact au.t (Ze HH.out) (dj _ _ _ _)
 by_cases hq0:q.d=⟨#[]⟩
 ·have e1:=aY hp0;have e2:=cC hq0;have HH:=aa hq0;clear hp0 hq0;go_enter Tryz.func114,Tryz.ntmps114;go_wp2;go_ret;exact au.t (Zd (Ze HH.out)) (dj _ _ _ _)
 by_cases hpq:p.d=q.d
 ·have e1:=aY hp0;have e2:=aY hq0;have e3:=aP hpq;have HH:=aa hpq;clear hp0 hq0 hpq;go_enter Tryz.func114,Tryz.ntmps114;go_wp2;go_ret;exact au.t (Zd (Zd (Ze HH.out))) (dj _ _ _ _)
 have e1:=aY hp0;have e2:=aY hq0;have e3:=bu hpq;have HP0:=aa hp0;have HQ1:=aa hq0;have HPQ:=aa hpq;clear hp0 hq0 hpq;go_enter Tryz.func114,Tryz.ntmps114;go_wp2;clear e1 e2 e3;go_loopw [7] (λi wr=> ∃k:Nat,k<=pl/\i=Y7 Y6 k/\Hid (∀(j:Nat) t,j<k->p.zs[j]?=Y5 t->∀v,aO c t v->v.x=Zb->¬InL q.zs t)/\Hid (Below w.heap.size w wr)/\Hid (wr.heap[w.heap.size]?=Y5 (Y8 (clo6 a1 l1 y1 a2 l2 y2 a3 l3 y3 a4 l4 y4 a5 l5 y5 c.now) 29 (0,0)))/\Hid (wr.heap[w.heap.size+1]?=Y5 (Y8 (pov p pa pl pc) 40 (0,0)))/\Hid (wr.heap[w.heap.size+1+1]?=Y5 (Y8 (pov q qa ql qc) 40 (0,0)))) (λi _=>pl - (intOf i).toNat);case atStart=>exact⟨0,by omega,rfl,λ_ _ h=>absurd h af,dj _ _ _ _,lS _ _ _ _,jX _ _ _ _,lR _ _ _ _⟩
 case round=>
  obtain⟨k,hk,rfl,HQ,HB,Bk,Bx,By⟩:=hrel;have px3:=ck3 Bx;by_cases hlt:k<pl
  ·obtain⟨b,o,t,rfl,hb,hxt,hc,hsz⟩:=HP.at hlt;have HXt:=aa hxt;have hcw:=(ai HB.out hb).trans hc;have hbw:=Yj hb HB.size;clear hxt hsz;have hcase:(∃v,aO c t v)\/(∀v,¬aO c t v):=by
    exact Qv
   rcases hcase with ⟨v,hbd⟩|hbd
   ·have z927z:=@aa _ @SZ;exact yC
   ·have HD:=aa hbd;clear hbd;have z1735z:=@aa _ @Da;exact rU
  ·obtain rfl:pl=k:=af
   go_wp2;go_ret;exact au.t (Zd (Zd (Zd (λj t ht=>HQ.out j t Ah ht)))) HB.out):p:=h
theorem cP(h:p:=by
 obtain⟨a1,l1,y1,a2,l2,y2,a3,l3,y3,a4,l4,y4,a5,l5,y5⟩:=d;dsimp only;exact z535z):p:=h
theorem aai(h:p:=by
 have z1014z:=@aa _ @NC;exact t_):p:=h
theorem aah(h:p:=by
 have z1014z:=@aa _ @NB;exact t_):p:=h
theorem pU(h:p:=by
 go_wp2_with fail;refine (bW k _ hk).mono ?_;have z1327z:=@aa _ @Jq;exact jM):p:=h
theorem XL(h:p:=by
 refine (bW z _ hz).mono ?_;rintro e w1 ⟨r,rfl,hr,rfl⟩;by_cases hq:r=Zb;case neg=>
  exact ah3
 have h2:=aa (hr.1 hq);subst hq;clear hr;exact z206z):p:=h
theorem XK(h:p:=by
 refine (uZ c _).mono ?_;have z941z:=@aa _ @SL;exact iu):p:=h
theorem XJ(h:p:=by
 refine (bW k _ hk).mono ?_;have z941z:=@aa _ @SJ;exact iu):p:=h
theorem XI(h:p:=by
 refine (ig z _ hz).mono ?_;have z941z:=@aa _ @SI;exact iu):p:=h
theorem fU(h:p:=by
 rintro e w1 ⟨r,rfl,hr,rfl⟩;by_cases hq:r=Zb;case neg=>
  exact amh
 have h1:=aa (hr.1 hq);subst hq;clear hr;go_wp2_with fail;exact z588z):p:=h
theorem WR(h:p:=by
 by_cases e:j=k
 ·subst e;rw[HXx.out] at hz;obtain rfl:=Yd hz;exact⟨⟨i2,kd2,HG1.out,HG2.out⟩,Zd ⟨j3,y,HJ.out,HN.out,HY1.out,HY2.out,HY3.out,HY4.out⟩⟩
 ·exact HQ.out j z af hz):p:=h
theorem lA(h:p:=by
 have z1375z:=@aa _ @IN;exact jK):p:=h
theorem WB(h:p:=by
 by_cases e:j=k
 ·subst e;rw[HXt.out] at hs;obtain rfl:=Yd hs;intro v2 h1 h2;obtain rfl:=aO.inj HX.out HV.out HD.out h1;rw[HSi.out] at h2;cases h2
 ·exact HQ.out j s af hs):p:=h
theorem Wz(h:p:=by
 by_cases e:j=k
 ·subst e;rw[HXt.out] at hs;obtain rfl:=Yd hs;intro v2 h1;exact absurd h1 (HD.out v2)
 ·exact HQ.out j s af hs):p:=h
theorem Wy(h:p:=by
 by_cases e:j=k
 ·subst e;rw[HXt.out] at hs;obtain rfl:=Yd hs;intro v2 h1 h2;exact HIn.out
 ·exact HQ.out j s af hs):p:=h
theorem pP(h:p:=by
 have HB:=HB2;clear HB2;have Bk:=Ck;clear Ck;have Bx:=Cx;clear Cx;have By:=Cy;clear Cy;go_wp2_with fail;refine⟨⟨k+1,by omega,by go_num,λj s hj hs=>?_,HB.out,Bk.out,Bx.out,By.out⟩,by simp[intOf];omega⟩;exact z664z):p:=h
theorem Wx(h:p:=by
 clear hne0 HW HB HC0 k0 x0 x1 x2 x3 x4 x5 x6 Gk Bk c0 c1 c2 c3 c4 c5 c6 pk;have HB:=HB1;clear HB1;have Bk:=Ck;clear Ck;go_wp2;go_ret;exact au.f (λh=>HOK.out (h.1.2.1 k x HXx.out)) HB.out):p:=h
theorem Ww(h:p:=by
 clear hne0 HW HB HC0 k0 x0 x1 x2 x3 x4 x5 x6 Gk Bk c0 c1 c2 c3 c4 c5 c6 pk;exact uJ):p:=h
theorem Wv(h:p:=by
 clear hne0 HW HB HC0 k0 x0 x1 x2 x3 x4 x5 x6 yw Gk Bk c0 c1 c2 c3 c4 c5 c6 pk y0;have z1099z:=@aa _ @Mu;exact gV):p:=h
theorem Wu(h:p:=by
 clear hne0 HW HB HC0 k0 x0 x1 x2 x3 x4 x5 x6 yw Gk Bk c0 c1 c2 c3 c4 c5 c6 pk y0;exact uK):p:=h
theorem Wt(h:p:=by
 clear hne0 HW HB HC0 k1 x0 x1 x2 x3 Gk Bk c0 c1 c2 c3 pk;have HB:=HB1;clear HB1;have Bk:=Ck;clear Ck;go_wp2;go_ret;exact au.f (λh=>HOK.out (h.2.1.2.1 k x HXx.out)) HB.out):p:=h
theorem Ws(h:p:=by
 clear hne0 HW HB HC0 k1 x0 x1 x2 x3 Gk Bk c0 c1 c2 c3 pk;exact uJ):p:=h
theorem Wr(h:p:=by
 clear hne0 HW HB HC0 k1 x0 x1 x2 x3 yw Gk Bk c0 c1 c2 c3 pk y0;have z1099z:=@aa _ @Mt;exact gV):p:=h
theorem Wq(h:p:=by
 clear hne0 HW HB HC0 k1 x0 x1 x2 x3 yw Gk Bk c0 c1 c2 c3 pk y0;exact uK):p:=h
theorem Wp(h:p:=by
 clear hne0 HW HB HC0 k2 x0 x1 x2 x3 x4 x5 x6 x7 Gk Bk c0 c1 c2 c3 c4 c5 c6 c7 pk;have HB:=HB1;clear HB1;have Bk:=Ck;clear Ck;go_wp2;go_ret;exact au.f (λh=>HOK.out (h.2.2.1.2.1 k x HXx.out)) HB.out):p:=h
theorem Wo(h:p:=by
 clear hne0 HW HB HC0 k2 x0 x1 x2 x3 x4 x5 x6 x7 Gk Bk c0 c1 c2 c3 c4 c5 c6 c7 pk;exact uJ):p:=h
theorem Wm(h:p:=by
 clear hne0 HW HB HC0 k2 x0 x1 x2 x3 x4 x5 x6 x7 yw Gk Bk c0 c1 c2 c3 c4 c5 c6 c7 pk y0;have z1099z:=@aa _ @Ms;exact gV):p:=h
theorem Wl(h:p:=by
 clear hne0 HW HB HC0 k2 x0 x1 x2 x3 x4 x5 x6 x7 yw Gk Bk c0 c1 c2 c3 c4 c5 c6 c7 pk y0;exact uK):p:=h
theorem Wk(h:p:=by
 clear hne0 HW HB HC0 k3 x0 x1 x2 x3 x4 Gk Bk c0 c1 c2 c3 c4 pk;have HB:=HB1;clear HB1;have Bk:=Ck;clear Ck;go_wp2;go_ret;exact au.f (λh=>HOK.out (h.2.2.2.1.2.1 k x HXx.out)) HB.out):p:=h
theorem Wj(h:p:=by
 clear hne0 HW HB HC0 k3 x0 x1 x2 x3 x4 Gk Bk c0 c1 c2 c3 c4 pk;exact uJ):p:=h
theorem Wi(h:p:=by
 clear hne0 HW HB HC0 k3 x0 x1 x2 x3 x4 yw Gk Bk c0 c1 c2 c3 c4 pk y0;have z1099z:=@aa _ @Mr;exact gV):p:=h
theorem Wh(h:p:=by
 clear hne0 HW HB HC0 k3 x0 x1 x2 x3 x4 yw Gk Bk c0 c1 c2 c3 c4 pk y0;exact uK):p:=h
theorem Wg(h:p:=by
 clear hne0 HW HB HC0 k4 x0 x1 x2 x3 x4 x5 Gk Bk c0 c1 c2 c3 c4 c5 pk;have HB:=HB1;clear HB1;have Bk:=Ck;clear Ck;go_wp2;go_ret;exact au.f (λh=>HOK.out (h.2.2.2.2.2.1 k x HXx.out)) HB.out):p:=h
theorem Wf(h:p:=by
 clear hne0 HW HB HC0 k4 x0 x1 x2 x3 x4 x5 Gk Bk c0 c1 c2 c3 c4 c5 pk;exact uJ):p:=h
theorem We(h:p:=by
 clear hne0 HW HB HC0 k4 x0 x1 x2 x3 x4 x5 yw Gk Bk c0 c1 c2 c3 c4 c5 pk y0;have z1099z:=@aa _ @Mq;exact gV):p:=h
theorem Wb(h:p:=by
 clear hne0 HW HB HC0 k4 x0 x1 x2 x3 x4 x5 yw Gk Bk c0 c1 c2 c3 c4 c5 pk y0;exact uK):p:=h
theorem bO(h:p:=by
 refine wpQuiet_nil ?_;rintro _ ⟨q,rfl⟩;obtain⟨HB1,Ck⟩:=alO;exact z668z):p:=h
theorem V8(h:p:=by
 have Cx:=upK Gx q2.b;have Cy:=upK Gy q2.b;clear hne0 HW HB HC0 k2 x3 y3 tw vw Gk Gx Gy Bk Bx By;have HB:=HB2;clear HB2;have Bk:=Ck;clear Ck;have Bx:=Cx;clear Cx;have By:=Cy;clear Cy;go_wp2;go_ret;refine au.f (λh=>?_) HB.out;rcases h with h|h|h|h
 ·exact HP0.out h
 ·exact HQ1.out h
 ·exact HPQ.out h
 ·exact h k t HXt.out v HD.out HSi.out HIn.out):p:=h
theorem y8(h:p:=by
 have z1087z:=@aa _ @MC;exact nh):p:=h
theorem Vs(h:p:=by
 exact⟨HB.out,Ze ⟨j2,v,HF1.out,⟨_,_,x,HX1.out,HN1.out,HF1.out,HF2.out⟩,rfl⟩⟩):p:=h
theorem Vr(h:p:=by
 refine⟨HB.out,Zd ⟨λv ⟨i,j2,x2,e1,e2,e3,e5⟩=>?_,rfl⟩⟩;obtain⟨_,rfl⟩:=HX.inj e1 HX1.out (e2.trans HN1.symm);exact HF.out ⟨j2,v,e3,e5⟩):p:=h
theorem yW(h:p:=by
 have z1521z:=@aa _ @FU;exact mJ):p:=h
theorem UP(h:p:=by
 exact z15z):p:=h
theorem pL(h:p:=by
 refine bN bf bf ?_;repeat (go_big_quiet_step (first|fail))
 refine wpQuiet_nil ?_;exact z795z):p:=h
theorem Uy(h:p:=by
 exact Yb HR (Yb hl1 (Yb hm1 (Yb hl2 (Yb hm2 (Yb hl3 (Yb hm3 (Yb hl4 (Yb hm4 (Yb hl5 hm5)))))))))):p:=h
theorem yF(h:p:=by
 have hl5:c.ps.length=l5:=by simpa using (show (c.ps.map pdF).length=l5 from hr.p.1)
 have hm5:l5<=9223372036854775807:=Yp hr.p.2.1 hr.p.2.2.1;exact z817z):p:=h
theorem TR(h:p:=by
 obtain⟨r0,r1,r2,r3,r4⟩:=cs5 Br;have ltr_2:=ae Br.out;have z1375z:=@aa _ @IM;exact jK):p:=h
theorem cr(h:p:=by
 have z1227z:=@aa _ @KO;exact ef):p:=h
theorem Tw(h:p:=by
 obtain⟨r0,r1,r2,r3,r4⟩:=cs5 Br;have ltr_1:=ae Br.out;go_wp2_with fail;refine (oq ⟨a1,l1,y1,a2,l2,y2,a3,l3,y3,(Y5 ⟨b,o,U⟩),l4,y4,a5,l5,y5⟩ c.now c.ks x.k _ (HR.k.below HB.out) (λj y h1 h2=>HKH.out ⟨j,y,h1,h2⟩)).mono ?_;have z1714z:=@aa _ @Dt;exact mo):p:=h
theorem Tv(h:p:=by
 have z1474z:=@aa _ @GQ;exact sH):p:=h
theorem fR(h:p:=by
 have z1236z:=@aa _ @KE;exact eR):p:=h
theorem SZ(h:p:=by
 have z1559z:=@aa _ @Fm;exact eQ):p:=h
theorem yC(h:p:=by
 have z1394z:=@aa _ @IA;exact sY):p:=h
theorem SL(h:p:=by
 refine (lN s 0 8 _).mono ?_;have z1327z:=@aa _ @Jp;exact jM):p:=h
theorem SJ(h:p:=by
 refine (ig v _ hv).mono ?_;exact Pb):p:=h
theorem SI(h:p:=by
 refine (iS a len cap zs 3 _ (HR.below (ak _ _))).mono ?_;rintro e w1 ⟨r,rfl,hr,hb⟩;obtain⟨hsl,hb1,-⟩:=gM hb;have HB:Hid (Below w.heap.size w w1):=hb1;by_cases hq:r=Zb;case neg=>
  have HN:=aa (λh=>hq (hr.2 h));clear hsl hb hb1 hr;go_wp2_with fail;go_ret;exact⟨Y_,rfl,⟨λh=>bU,λh=>(HN.out h.2.2.2.1).elim⟩,HB.out⟩
 have h3:=aa (hr.1 hq);subst hq;have hc4:=ck4 hsl;have hc5:=ck5 hsl;clear hr hsl hb hb1;go_wp2_with fail;refine (lN p 0 2 _).mono ?_;rintro e w2 ⟨r,rfl,hr,rfl⟩;by_cases hq:r=Zb;case neg=>
  have HN:=aa (λh=>hq (hr.2 h));clear hr;go_wp2_with fail;go_ret;exact⟨Y_,rfl,⟨λh=>bU,λh=>absurd h.2.2.2.2 (ru (by have h9:¬(0<=p/\p<=2):=HN.out;omega))⟩,HB.out⟩
 have h4:=hr.1 hq;subst hq;clear hr;by_cases hp:p=0
 ·subst hp;go_wp2_with fail;go_ret;exact⟨_,rfl,⟨λh=>⟨h0.out,h1.out,h2.out,h3.out,(fL d).2 ((fj d).1 h)⟩,λh=>(fj d).2 ((fL d).1 h.2.2.2.2)⟩,HB.out⟩
 have hq:(p==0)=Y_:=by simp[hp]
 have hp2:p=1\/p=2:=by unfold Inn at h4;omega
 go_wp2_with fail;refine (bW d _ hd).mono ?_;rintro e w2 ⟨r,rfl,hr,rfl⟩;go_wp2_with fail;go_ret;exact⟨r,rfl,⟨λh=>⟨h0.out,h1.out,h2.out,h3.out,(ji d hp2).2 (hr.1 h)⟩,λh=>hr.2 ((ji d hp2).1 h.2.2.2.2)⟩,HB.out⟩):p:=h
theorem iu(h:p:=by
 rintro e w1 ⟨r,rfl,hr,rfl⟩;by_cases hq:r=Zb;case neg=>
  exact ah3
 have h2:=aa (hr.1 hq);subst hq;clear hr;go_wp2_with fail;exact z941z):p:=h
theorem Sv(h:p:=by
 have z15z:=@aa _ @ajL;exact aX):p:=h
theorem Su(h:p:=by
 have z15z:=@aa _ @ajK;exact aX):p:=h
theorem Ss(h:p:=by
 have z15z:=@aa _ @ajJ;exact aX):p:=h
theorem Sr(h:p:=by
 have z15z:=@aa _ @ajI;exact aX):p:=h
theorem lu(h:p:=by
 obtain⟨Gk,Gr,HW⟩:=fE;have k2:=λq:Wd w2=>q.slot (o:=2) Gk.out rfl;obtain⟨r0,r1,r2,r3,r4⟩:=sl5 Gr;obtain⟨v1w,v3w,v4w,v5w,hne0⟩:=ahq;exact z961z):p:=h
theorem Sq(h:p:=by
 have z55z:=@aa _ @aiR;exact aC):p:=h
theorem Sp(h:p:=by
 have z55z:=@aa _ @aiQ;exact aC):p:=h
theorem yx(h:p:=by
 have Gk:Hid (wr.heap[w.heap.size]?=Y5 (Y8 (clo6 a1 l1 y1 a2 l2 y2 a3 l3 y3 a4 l4 y4 (Y5 ⟨b,o,U⟩) l5 y5 c.now) 29 (0,0))):=Bk.out;have z1657z:=@aa _ @Ea;exact mu):p:=h
theorem Sf(h:p:=by
 replace HB:=upB HB hbx;clear hb2 hbx HA0;clear pk hb c0 c1 c2 c3 c4 c5 c6 c7;by_cases hkh:agU c v.k;rotate_left
 ·have HKH:=aa hkh;clear hkh;have z1492z:=@aa _ @Gm;exact jJ
 obtain⟨i2,kd2,g1,g2⟩:=hkh;have HG1:=aa g1;have HG2:=aa g2;have hi20:¬((i2:Int)<0):=af
 have hi21:decide ((i2:Int)<0)=Y_:=aG
 clear g1 g2;by_cases he:v.m=⟨#[]⟩
 ·have hq:=cC he;have HEm:=aa he;clear he;have z1492z:=@aa _ @Gl;exact jJ
 have hq:=aY he;have HEm:=aa he;clear he;rcases hf with ⟨j4,y,h1,h2,rfl⟩|⟨hh,rfl⟩;rotate_left
 ·have HH:=aa hh;clear hh;have z1335z:=@aa _ @Ji;exact gR
 have hl4':j4<l4:=by have h3:=(Yc.1 h1).1;omega
 obtain⟨b4,o4,y',rfl,hb4,hy',hat⟩:=dL HR.x hl4';rw[h1] at hy';obtain rfl:=Yd hy';obtain⟨z0,z2,z4,c0,c1,c2,c3,c4⟩:=bQ hat;have HJ:=aa h1;have HN:=aa h2;have hcv:=(ai HB.out hb4).trans c4;have hbv:=Yj hb4 HB.size;have hj0:¬((j4:Int)<0):=af
 have hj1:decide ((j4:Int)<0)=Y_:=aG
 clear hy' hat z0 z2 z4 c0 c1 c2 c3 c4 h1 h2;by_cases hvn:y.v=v.n
 ·have hq2:=aP hvn;have HVN:=aa hvn;clear hvn;have z1335z:=@aa _ @Jh;exact gR
 ·have hq2:=bu hvn;have HVN:=aa hvn;clear hvn;have z1335z:=@aa _ @Jg;exact gR):p:=h
theorem pF(h:p:=by
 have z1512z:=@aa _ @F6;exact mK):p:=h
theorem NN(h:p:=by
 have z55z:=@aa _ @aiV;exact aC):p:=h
theorem NM(h:p:=by
 have z55z:=@aa _ @aiU;exact aC):p:=h
theorem yp(h:p:=by
 have Gk:Hid (wr.heap[w.heap.size]?=Y5 (Y8 (clo6 a1 l1 y1 a2 l2 y2 a3 l3 y3 (Y5 ⟨b,o,U⟩) l4 y4 a5 l5 y5 c.now) 29 (0,0))):=Bk.out;obtain⟨HW,k3⟩:=oO;obtain⟨x0,x1,x2,x3,x4⟩:=qo;obtain⟨yw,hne0⟩:=uv;have HC0:=aa (λq:Wd wr=>(fN x.n x.z x.k x.x x.v q.w HZx0.out HZx2.out HZx4.out).mono (λ_ _ h=>au.yes h HOK.out));exact z999z):p:=h
theorem NF(h:p:=by
 have z55z:=@aa _ @aiZ;exact aC):p:=h
theorem ND(h:p:=by
 have z55z:=@aa _ @aiY;exact aC):p:=h
theorem ub(h:p:=by
 obtain⟨Gk,HW,k2⟩:=ajY;obtain⟨x0,x1,x2,x3,x4⟩:=qo;obtain⟨x5,x6⟩:=ux;have x7:=λq:Wd wr=>(q.cell hb).trans c7;obtain⟨yw,hne0⟩:=uv;have z1406z:=@aa _ @Ir;exact sU):p:=h
theorem NC(h:p:=by
 cases x
 ·go_wp2_with fail;go_ret;exact⟨Zb,rfl,⟨λ_=>⟨h0.out,h1.out,h2.out,h3.out,h4.out,HY.out,by simpa using h6.out⟩,λ_=>rfl⟩,HB.out⟩
 ·go_wp2_with fail;go_ret;refine⟨_,rfl,⟨λh=>⟨h0.out,h1.out,h2.out,h3.out,h4.out,HY.out,?_,h6.2⟩,λh=>?_⟩,HB.out⟩
  ·simp at h ⊢;omega
  ·have:=h.2.2.2.2.2.2.1;simp at this ⊢;omega):p:=h
theorem NB(h:p:=by
 cases x
 ·go_wp2_with fail;go_ret;exact⟨Zb,rfl,⟨λ_=>⟨h0.out,h1.out,h2.out,h3.out,h4.out,(λ_=>rfl),by simpa using h6.out⟩,λ_=>rfl⟩,HB.out⟩
 ·go_wp2_with fail;go_ret;refine⟨_,rfl,⟨λh=>⟨h0.out,h1.out,h2.out,h3.out,h4.out,(λ_=>rfl),?_,h6.2⟩,λh=>?_⟩,HB.out⟩
  ·simp at h ⊢;omega
  ·have:=h.2.2.2.2.2.2.1;simp at this ⊢;omega):p:=h
theorem t_(h:p:=by
 go_wp2_with fail;refine (iS a len cap zs 6 _ (HR.below (ak _ _))).mono ?_;rintro e w1 ⟨r,rfl,hr,hb⟩;obtain⟨hsl,hb1,-⟩:=gM hb;have HB:Hid (Below w.heap.size w w1):=hb1;by_cases hq:r=Zb;case neg=>
  exact aky
 have h6:=aa (hr.1 hq);subst hq;have hc4:=ck4 hsl;have hc7:=ck7 hsl;clear hr hsl hb hb1;exact z1014z):p:=h
theorem NA(h:p:=by
 have z55z:=@aa _ @ai3;exact aC):p:=h
theorem Nz(h:p:=by
 have z55z:=@aa _ @ai2;exact aC):p:=h
theorem tZ(h:p:=by
 have Gk:Hid (wr.heap[w.heap.size]?=Y5 (Y8 (clo6 a1 l1 y1 (Y5 ⟨b,o,U⟩) l2 y2 a3 l3 y3 a4 l4 y4 a5 l5 y5 c.now) 29 (0,0))):=Bk.out;obtain⟨HW,k1,x0,x1,x2,x3⟩:=N_;obtain⟨yw,hne0⟩:=uv;have HC0:=aa (λq:Wd wr=>(iT x.n x.z x.x x.y q.w HZx0.out HZx3.out).mono (λ_ _ h=>au.yes h HOK.out));exact z1017z):p:=h
theorem Ny(h:p:=by
 go_wp2;go_ret;exact au.f (λh=>HKH.out (h.1 k v HXv.out).1) HB.out):p:=h
theorem Nx(h:p:=by
 have z1375z:=@aa _ @IL;exact jK):p:=h
theorem Nw(h:p:=by
 go_wp2;go_ret;refine au.f (λh=>?_) HB.out;rcases (h.1 k v HXv.out).2 with h2|⟨i,y,h2,h3,_⟩
 ·exact HEm.out h2
 ·exact HH.out i y h2 h3):p:=h
theorem nk(h:p:=by
 have HB2:=upB HW q1.b;obtain⟨Ck,Cr⟩:=eu;clear hne0 HW HB HC0 k0 k1 k2 k3 k4 k5 r0 r1 r2 r3 r4 r5 r6 r7 Gk Gr Bk Br;have HB:=HB2;clear HB2;have Bk:=Ck;clear Ck;have Br:=Cr;clear Cr;exact z1020z):p:=h
theorem Ns(h:p:=by
 rcases (h.2 k x HXx.out).2 with h2|⟨i,y,h2,h3,_⟩
 ·exact HEm.out h2
 ·exact HH.out i y h2 h3):p:=h
theorem Nr(h:p:=by
 rcases (h.1 k v HXv.out).2 with h2|⟨i,y2,h2,h3,h4⟩
 ·exact HEm.out h2
 ·obtain⟨_,rfl⟩:=HXS.inj h2 HJ.out (h3.trans HN.symm);exact HVN.out h4):p:=h
theorem Nq(h:p:=by
 exact z530z):p:=h
theorem gY(h:p:=by
 have Bk:=Ck;clear Ck;have Br:=Cr;clear Cr;go_wp2;go_ret;refine au.f (λh=>?_) HB.out;exact z1027z):p:=h
theorem Nf(h:p:=by
 have HX:=aa hx;have hpc:=HP.out k p hx;clear hat hx z0 z2 z4 hvr;by_cases hn:p.d=t
 ·have hq:=aP hn;have HN:=aa hn;clear hn;go_wp2;refine⟨⟨k+1,s+p.c,by omega,by go_num,by go_num,?_,by omega,by omega,by first|rfl|trivial⟩,by simp[intOf];omega⟩;show _=_;rw[gn HX.out,if_pos HN.out,<-HS.out]
 ·have hq:=bu hn;have HN:=aa hn;clear hn;go_wp2;refine⟨⟨k+1,s,by omega,rfl,by go_num,?_,by omega,by omega,by first|rfl|trivial⟩,by simp[intOf];omega⟩;show _=_;rw[gn HX.out,if_neg HN.out,<-HS.out,Int.add_zero]):p:=h
theorem cK(h:p:=by
 obtain⟨va,vl,vc,hvr,z0,z2,z4,c0,c1,c2,c3,c4,c5⟩:=bH hat;exact z1042z):p:=h
theorem MT(h:p:=by
 have z1574z:=@aa _ @E_;exact sx):p:=h
theorem nj(h:p:=by
 repeat (go_big_quiet_step (first|(go_at_call 34;exact Calls.wide (HC0.out _))|fail))
 refine wpQuiet_nil ?_;rintro _ ⟨q1,rfl⟩;exact z1066z):p:=h
theorem MQ(h:p:=by
 have z55z:=@aa _ @ai7;exact aC):p:=h
theorem MP(h:p:=by
 have z55z:=@aa _ @ai6;exact aC):p:=h
theorem tU(h:p:=by
 obtain⟨Gk,HW,k0⟩:=ajZ;obtain⟨x0,x1,x2,x3,x4⟩:=qo;obtain⟨x5,x6⟩:=ux;obtain⟨yw,hne0⟩:=uv;have z1432z:=@aa _ @Hx;exact sN):p:=h
theorem MO(h:p:=by
 rcases hf with ⟨j,x,hx,hn,rfl⟩|⟨hh,rfl⟩;rotate_left
 ·have HH:=aa hh;clear hh;obtain⟨k0,k1,k2,k3,k4,k5⟩:=cs6 Bk;go_wp2;go_ret;exact⟨HB.out,Zd ⟨λv ⟨i,j,x,e1,e2,_⟩=>HH.out i x e1 e2,rfl⟩⟩
 have hj:j<l4:=by have h1:=(Yc.1 hx).1;omega
 obtain⟨b,o,y,rfl,hbb,hy,hat⟩:=dL HR.x hj;rw[hx] at hy;obtain rfl:=Yd hy;obtain⟨z0,z2,z4,c0,c1,c2,c3,c4⟩:=bQ hat;have HX1:=aa hx;have HN1:=aa hn;have e4:=(ai HB.out hbb).trans c4;have hb1:=Yj hbb HB.size;have hj0:(0:Int)<=j:=af
 clear hx hn hy hat z0 z2 z4 c0 c1 c2 c3;by_cases he:x.v=⟨#[]⟩
 ·have hq:=cC he;have z1763z:=@aa _ @CM;exact ed
 ·have hq:=aY he;have z1763z:=@aa _ @CL;exact ed):p:=h
theorem fC(h:p:=by
 obtain⟨HA0,hbx⟩:=aV hb;have Bk:=aa HA0;replace HB:=upB HB hbx;clear hb hbx HA0;exact z1073z):p:=h
theorem MD(h:p:=by
 have Cx:=upK Gx q2.b;have Cy:=upK Gy q2.b;clear hne0 HW HB HC0 k2 x3 y3 tw vw Gk Gx Gy Bk Bx By;have z664z:=@aa _ @Wy;exact pP):p:=h
theorem MC(h:p:=by
 exact z693z):p:=h
theorem nh(h:p:=by
 repeat (go_big_quiet_step (first|(go_at_call 36;exact Calls.wide (HC0.out _))|fail))
 refine wpQuiet_nil ?_;rintro _ ⟨q2,rfl⟩;obtain⟨HB2,Ck⟩:=jQ;exact z1087z):p:=h
theorem Mu(h:p:=by
 have h3:=h.1.2.2 (k - 1) x y um HXy.out;rw[hless] at h3;cases h3):p:=h
theorem Mt(h:p:=by
 have h3:=h.2.1.2.2 (k - 1) x y um HXy.out;rw[hless] at h3;cases h3):p:=h
theorem Ms(h:p:=by
 have h3:=h.2.2.1.2.2 (k - 1) x y um HXy.out;rw[hless] at h3;cases h3):p:=h
theorem Mr(h:p:=by
 have h3:=h.2.2.2.1.2.2 (k - 1) x y um HXy.out;rw[hless] at h3;cases h3):p:=h
theorem Mq(h:p:=by
 have h3:=h.2.2.2.2.2.2 (k - 1) x y um HXy.out;rw[hless] at h3;cases h3):p:=h
theorem gV(h:p:=by
 have HB:=HB1;clear HB1;have Bk:=Ck;clear Ck;go_wp2;go_ret;refine au.f (λh=>?_) HB.out;exact z1099z):p:=h
theorem LS(h:p:=by
 have HC0:=aa (λq:Wd wr=>(jh x.n x.c x.z x.k x.x x.m x.y va vl vc x.zs q.w HZx0.out HZx2.out HZx3.out HZx5.out (HTx.below q.b)).mono (λ_ _ h=>au.no h HOK.out));have z55z:=@aa _ @ai1;exact aC):p:=h
theorem LR(h:p:=by
 have z1406z:=@aa _ @Iq;exact sU):p:=h
theorem tI(h:p:=by
 have HW:=HB;have k2:=λq:Wd wr=>q.slot (o:=2) Gk.out rfl;obtain⟨x0,x1,x2,x3,x4⟩:=qo;obtain⟨x5,x6⟩:=ux;have x7:=λq:Wd wr=>(q.cell hb).trans c7;have hne0:=Wd.ne wr;exact z1150z):p:=h
theorem KO(h:p:=by
 exact z864z):p:=h
theorem ef(h:p:=by
 obtain⟨k0,k1,k2,k3,k4,k5⟩:=cs6 Bk;have ltk_2:=ae Bk.out;exact z1227z):p:=h
theorem KG(h:p:=by
 obtain⟨r0,r1,r2,r3,r4⟩:=cs5 Br;have ltr_1:=ae Br.out;go_wp2_with fail;refine (d_ ⟨a1,l1,y1,a2,l2,y2,(Y5 ⟨b3,o3,U⟩),l3,y3,(Y5 ⟨b,o,U⟩),l4,y4,a5,l5,y5⟩ c.now c.ks x.k _ (HR.k.below HB.out) HKS.out HG1.out HG2.out).mono ?_;have z1714z:=@aa _ @Ds;exact mo):p:=h
theorem KF(h:p:=by
 have z1474z:=@aa _ @GO;exact sH):p:=h
theorem KE(h:p:=by
 exact z886z):p:=h
theorem eR(h:p:=by
 obtain⟨k0,k1,k2,k3,k4,k5⟩:=cs6 Bk;have ltk_1:=ae Bk.out;exact z1236z):p:=h
theorem Kx(h:p:=by
 exact z55z):p:=h
theorem Kw(h:p:=by
 have z1066z:=@aa _ @MT;exact nj):p:=h
theorem Kv(h:p:=by
 repeat (go_big_quiet_step (first|(go_at_call 34;exact Calls.wide (HC0.out _))|fail))
 refine wpQuiet_nil ?_;rintro _ ⟨q1,rfl⟩;have z1574z:=@aa _ @E9;exact sx):p:=h
theorem bY(h:p:=by
 go_wp2_with fail;refine bN bf bf ?_;exact z1247z):p:=h
theorem JU(h:p:=by
 have HTv:=aa hvr;have HZv0:=aa z0;have HZv2:=aa z2;have HZv3:=aa z3;have HZv5:=aa z5;clear hat hx z0 z2 z3 z5 hvr;have z1549z:=@aa _ @Fy;exact dB):p:=h
theorem mV(h:p:=by
 obtain⟨b,o,v,rfl,hb,hx,hat⟩:=bK (HR.v.below HB.out) hlt;have z1559z:=@aa _ @Fl;exact eQ):p:=h
theorem Jq(h:p:=by
 refine (ig _ _ hm).mono ?_;have z1614z:=@aa _ @EH;exact my):p:=h
theorem Jp(h:p:=by
 refine (o7 u _).mono ?_;have z1614z:=@aa _ @EG;exact my):p:=h
theorem jM(h:p:=by
 rintro e w1 ⟨r,rfl,hr,rfl⟩;by_cases hq:r=Zb;case neg=>
  exact amg
 have h3:=aa (hr.1 hq);subst hq;clear hr;go_wp2_with fail;exact z1327z):p:=h
theorem Jk(h:p:=by
 have hne0:=Wd.ne w1;have HC0:=aa (λq:Wd w1=>oq ⟨a1,l1,y1,a2,l2,y2,(Y5 ⟨b,o,U⟩),l3,y3,a4,l4,y4,a5,l5,y5⟩ c.now c.ks v.k q.w (HR.k.below (HW.trans (q.b.mono HW.size))) (λj y h1 h2=>HKH.out ⟨j,y,h1,h2⟩));have z55z:=@aa _ @aiP;exact aC):p:=h
theorem Jj(h:p:=by
 obtain⟨hne0,HC0⟩:=Ol;have z55z:=@aa _ @aiO;exact aC):p:=h
theorem Ji(h:p:=by
 obtain⟨hne0,HC0⟩:=Ol;have z55z:=@aa _ @aiN;exact aC):p:=h
theorem Jh(h:p:=by
 obtain⟨yw,hne0,HC0⟩:=ahe;have z55z:=@aa _ @aiM;exact aC):p:=h
theorem Jg(h:p:=by
 obtain⟨yw,hne0,HC0⟩:=ahe;have z55z:=@aa _ @aiL;exact aC):p:=h
theorem gR(h:p:=by
 obtain⟨Gk,Gr,HW⟩:=fE;obtain⟨k0,k1,k2,k3,k4,k5⟩:=sl6 Gk;obtain⟨r0,r1,r2,r3,r4,r5,r6,r7⟩:=sl8 Gr;exact z1335z):p:=h
theorem I9(h:p:=by
 have hl4:c.xs.length=l4:=NY
 have hm4:l4<=9223372036854775807:=Yp hr.x.2.1 hr.x.2.2.1;have z817z:=@aa _ @Uy;exact yF):p:=h
theorem tg(h:p:=by
 have z1661z:=@aa _ @D_;exact r9):p:=h
theorem I3(h:p:=by
 by_cases hok:pA x;rotate_left
 ·have HOK:=aa hok;clear hok;have Gk:=Bk;have z1150z:=@aa _ @LS;exact tI
 have HOK:=aa hok;clear hok;by_cases hk0:0<k;rotate_left
 ·obtain⟨hd,Gk⟩:=nv;have z1150z:=@aa _ @LR;exact tI
 have ek:((k:Int) - 1).toNat=k - 1:=af
 obtain⟨b',o',y,e',hb',hy,haty⟩:=bK (HR.v.below HB.out) (show k - 1<l3 by omega);cases e';have y0:wr.cell? ⟨b,o+(k - 1)*8,U⟩=Y5 (I y.n):=by
  exact nz
 have HXy:=aa hy;clear hy haty;cases hless:Yk y.n.toList x.n.toList
 ·have z1011z:=@aa _ @NF;exact ub
 ·have z1011z:=@aa _ @ND;exact ub):p:=h
theorem tf(h:p:=by
 obtain⟨b,o,x,rfl,hb,hx,hat⟩:=bK (HR.v.below HB.out) hlt;have z1559z:=@aa _ @Fk;exact eQ):p:=h
theorem IP(h:p:=by
 by_cases e:j=k
 ·subst e;rw[HXv.out] at hz;obtain rfl:=Yd hz;exact⟨⟨i2,kd2,HG1.out,HG2.out⟩,Zd ⟨j4,y,HJ.out,HN.out,HVN.out⟩⟩
 ·exact HQ.out j z af hz):p:=h
theorem IN(h:p:=by
 exact z644z):p:=h
theorem IM(h:p:=by
 by_cases e:j=k
 ·subst e;rw[HXx.out] at hz;obtain rfl:=Yd hz;exact⟨⟨i2,kd2,HG1.out,HG2.out⟩,Ze HEm.out⟩
 ·exact HQ.out j z af hz):p:=h
theorem IL(h:p:=by
 by_cases e:j=k
 ·subst e;rw[HXv.out] at hz;obtain rfl:=Yd hz;exact⟨⟨i2,kd2,HG1.out,HG2.out⟩,Ze HEm.out⟩
 ·exact HQ.out j z af hz):p:=h
theorem jK(h:p:=by
 go_wp2_with fail;refine⟨⟨k+1,by omega,by go_num,λj z hj hz=>?_,HB.out,Bk.out⟩,by simp[intOf];omega⟩;exact z1375z):p:=h
theorem IA(h:p:=by
 exact z927z):p:=h
theorem sY(h:p:=by
 obtain⟨j3,hj3⟩:=hbd.at;have hl3':j3<l3:=by have h1:=(Yc.1 hj3).1;omega
 obtain⟨b3,o3,v',rfl,hb3,hv',hat⟩:=bK HR.v hl3';rw[hj3] at hv';obtain rfl:=Yd hv';exact z1394z):p:=h
theorem Iy(h:p:=by
 have tw:=λq:Wd q1.w=>(q.cell hbw1).trans hcw1;have vw:=λq:Wd q1.w=>(q.cell hbv1).trans hcv1;have hne0:=Wd.ne q1.w;exact Yb Gk (Yb Gx (Yb Gy (Yb HW (Yb k2 (Yb x3 (Yb y3 (Yb tw (Yb vw hne0))))))))):p:=h
theorem Ix(h:p:=by
 have hne0:=Wd.ne q1.w;have z15z:=@aa _ @ajO;exact aX):p:=h
theorem sX(h:p:=by
 have Gk:=Bk;have Gx:=Bx;have Gy:=By;have HW:=HB;have k2:=λq:Wd q1.w=>q.slot (o:=2) Gk.out rfl;have x3:=λq:Wd q1.w=>q.slot (o:=3) Gx.out rfl;have y3:=λq:Wd q1.w=>q.slot (o:=3) Gy.out rfl;exact z1397z):p:=h
theorem Ir(h:p:=by
 exact z1011z):p:=h
theorem Iq(h:p:=by
 have z55z:=@aa _ @ai0;exact aC):p:=h
theorem sU(h:p:=by
 have HC0:=aa (λq:Wd wr=>(jh x.n x.c x.z x.k x.x x.m x.y va vl vc x.zs q.w HZx0.out HZx2.out HZx3.out HZx5.out (HTx.below q.b)).mono (λ_ _ h=>au.yes h HOK.out));exact z1406z):p:=h
theorem Ij(h:p:=by
 exact z339z):p:=h
theorem sR(h:p:=by
 have HR:=aa hr;have hl1:c.ns.length=l1:=by simpa using (show (c.ns.map ndF).length=l1 from hr.n.1)
 have hm1:l1<=9223372036854775807:=Yp hr.n.2.1 hr.n.2.2.1;exact z1416z):p:=h
theorem Ie(h:p:=by
 have z55z:=@aa _ @aiS;exact aC):p:=h
theorem Ic(h:p:=by
 exact z966z):p:=h
theorem sP(h:p:=by
 have HC0:=aa (λq:Wd wr=>(jl x.n x.c x.z va vl vc x.zs x.d x.p q.w HZx0.out HZx2.out HZx4.out (HTx.below q.b)).mono (λ_ _ h=>au.yes h HOK.out));exact z1422z):p:=h
theorem Hy(h:p:=by
 have z55z:=@aa _ @ai8;exact aC):p:=h
theorem Hx(h:p:=by
 exact z1070z):p:=h
theorem sN(h:p:=by
 have HC0:=aa (λq:Wd wr=>(oy x.n x.z x.c x.s x.u x.d va vl vc x.zs q.w HZx0.out HZx1.out (HTx.below q.b)).mono (λ_ _ h=>au.yes h HOK.out));exact z1432z):p:=h
theorem GQ(h:p:=by
 have pr:=ck4 Br;obtain⟨Gk,Gr,HW⟩:=fE;have k2:=λq:Wd w2=>q.slot (o:=2) Gk.out rfl;obtain⟨r0,r1,r2,r3,r4⟩:=sl5 Gr;have hne0:=Wd.ne w2;have z15z:=@aa _ @ajM;exact aX):p:=h
theorem GO(h:p:=by
 have z864z:=@aa _ @TR;exact cr):p:=h
theorem sH(h:p:=by
 obtain⟨r0,r1,r2,r3,r4⟩:=cs5 Br;have ltr_1:=ae Br.out;go_wp2_with fail;refine (d_ ⟨a1,l1,y1,a2,l2,y2,a3,l3,y3,(Y5 ⟨b,o,U⟩),l4,y4,a5,l5,y5⟩ c.now c.ks x.k _ (HR.k.below HB.out) HKS.out HG1.out HG2.out).mono ?_;have z1714z:=@aa _ @Dq;exact mo):p:=h
theorem Gw(h:p:=by
 have z886z:=@aa _ @Tw;exact fR):p:=h
theorem Gq(h:p:=by
 have z1236z:=@aa _ @KF;exact eR):p:=h
theorem Gm(h:p:=by
 have z1335z:=@aa _ @Jk;exact gR):p:=h
theorem Gl(h:p:=by
 have z1335z:=@aa _ @Jj;exact gR):p:=h
theorem jJ(h:p:=by
 obtain⟨r,hre⟩:∃r:Int,e=Za (Y7 Y6 r):=by rcases hf with ⟨j,y,_,_,h⟩|⟨_,h⟩ <;> exact⟨_,h⟩
 subst hre;clear hf;exact z1492z):p:=h
theorem F6(h:p:=by
 exact z979z):p:=h
theorem mK(h:p:=by
 rintro e w1 ⟨hb2,hf⟩;clear k0 k1 k2 k3 k4 k5 ltk_0;obtain⟨HA0,hbx⟩:=aV hb2;replace Bk:=upK Bk hbx;have Br:=aa HA0;exact z1512z):p:=h
theorem FU(h:p:=by
 rintro _ ⟨q,rfl⟩;have HB2:=upB HW q.b;have Ck:=upK Gk q.b;clear hne0 HW HB HC0 k0 k1 k2 k3 k4 k5 e4w Gk Bk;have HB:=HB2;clear HB2;have Bk:=Ck;clear Ck;go_wp2_with fail;go_ret;exact z745z):p:=h
theorem mJ(h:p:=by
 have z1778z:=@aa _ @CA;exact mg):p:=h
theorem Fy(h:p:=by
 go_wp2_with fail;refine (eN ⟨a1,l1,y1,a2,l2,y2,(Y5 ⟨b,o,U⟩),l3,y3,a4,l4,y4,a5,l5,y5⟩ c.now c.xs v.m _ (HR.x.below (HB.trans ((ak _ _).mono HB.size)))).mono ?_;have z979z:=@aa _ @Sf;exact pF):p:=h
theorem dB(h:p:=by
 obtain⟨k0,k1,k2,k3,k4,k5⟩:=cs6 Bk;have ltk_0:=ae Bk.out;exact z1549z):p:=h
theorem Fm(h:p:=by
 have HJ:=aa hj3;have HD:=aa hbd;have hcv:=(ai HB.out hb3).trans c4;have hbv:=Yj hb3 HB.size;have hj0:(0:Int)<=j3:=af
 clear hv' hat hvr z0 z2 z3 z5 c0 c1 c2 c3 c4 c5 c6 c7 hj3 hbd;have z1735z:=@aa _ @C_;exact rU):p:=h
theorem Fl(h:p:=by
 have HXv:=aa hx;exact z1289z):p:=h
theorem Fk(h:p:=by
 obtain⟨HXx,HTx,HZx0⟩:=gZ;have HZx2:=aa z2;have HZx3:=aa z3;have HZx5:=aa z5;clear hat hx z0 z2 z3 z5 hvr;exact z1359z):p:=h
theorem eQ(h:p:=by
 obtain⟨va,vl,vc,hvr,z0,z2,z3,z5,c0,c1,c2,c3,c4,c5,c6,c7⟩:=aW hat;exact z1559z):p:=h
theorem E_(h:p:=by
 have z1397z:=@aa _ @Ix;exact sX):p:=h
theorem E9(h:p:=by
 have hcw1:=(q1.cell hbw).trans hcw;have hbw1:=Yj hbw q1.b.size;have hcv1:=(q1.cell hbv).trans hcv;have hbv1:=Yj hbv q1.b.size;clear hcw hbw hcv hbv;rcases Bool.eq_false_or_eq_true v.x with hs|hs;rotate_left
 ·have HSi:=aa hs;rw[hs] at hcv1;clear hs;obtain⟨Gk,Gx,Gy,HW,k2,x3,y3,tw,vw,hne0⟩:=N9;have z15z:=@aa _ @ajP;exact aX
 have HSi:=aa hs;rw[hs] at hcv1;clear hs;by_cases hin:InL q.zs t
 ·have HIn:=aa hin;clear hin;obtain⟨Gk,Gx,Gy,HW,k2,x3,y3,tw,vw,hne0⟩:=N9;have HC0:=aa (λqq:Wd q1.w=>(bX qa ql qc q.zs t qq.w (HQ0.below (HW.trans (qq.b.mono HW.size)))).mono (λ_ _ h=>au.yes h HIn.out));have z55z:=@aa _ @aja;exact aC
 ·have HIn:=aa hin;clear hin;obtain⟨Gk,Gx,Gy,HW,k2,x3,y3,tw,vw,hne0⟩:=N9;have HC0:=aa (λqq:Wd q1.w=>(bX qa ql qc q.zs t qq.w (HQ0.below (HW.trans (qq.b.mono HW.size)))).mono (λ_ _ h=>au.no h HIn.out));have z55z:=@aa _ @ai_;exact aC):p:=h
theorem sx(h:p:=by
 obtain⟨HB1,Ck⟩:=iL;have Cx:=upK Gx q1.b;have Cy:=upK Gy q1.b;clear hne0 HW HB HC0 k0 k1 k2 k3 k4 k5 x3 tw Gk Gx Gy Bk Bx By px3;have HB:=HB1;clear HB1;have Bk:=Ck;clear Ck;have Bx:=Cx;clear Cx;have By:=Cy;clear Cy;exact z1574z):p:=h
theorem EH(h:p:=by
 exact z550z):p:=h
theorem EG(h:p:=by
 go_wp2_with fail;refine (iS a len cap zs 8 _ (HR.below (ak _ _))).mono ?_;rintro e w1 ⟨r,rfl,hr,hb⟩;go_wp2_with fail;go_ret;exact⟨r,rfl,⟨λh=>⟨h0.out,h1.out,h2.out,h3.out,h4.out,hr.1 h⟩,λh=>hr.2 h.2.2.2.2.2⟩,(gM hb).2.1⟩):p:=h
theorem my(h:p:=by
 rintro e w1 ⟨r,rfl,hr,rfl⟩;by_cases hq:r=Zb;case neg=>
  exact ame
 have h4:=aa (hr.1 hq);subst hq;clear hr;exact z1614z):p:=h
theorem Ec(h:p:=by
 have hne0:=Wd.ne wr;have HC0:=aa (λq:Wd wr=>(jl x.n x.c x.z va vl vc x.zs x.d x.p q.w HZx0.out HZx2.out HZx4.out (HTx.below q.b)).mono (λ_ _ h=>au.no h HOK.out));have z55z:=@aa _ @aiT;exact aC):p:=h
theorem Eb(h:p:=by
 have hne0:=Wd.ne wr;have z1422z:=@aa _ @Ie;exact sP):p:=h
theorem Ea(h:p:=by
 obtain⟨yw,hne0⟩:=uv;have z1422z:=@aa _ @Ic;exact sP):p:=h
theorem mu(h:p:=by
 obtain⟨HW,k4⟩:=N1;obtain⟨x0,x1,x2,x3,x4⟩:=qo;have x5:=λq:Wd wr=>(q.cell hb).trans c5;exact z1657z):p:=h
theorem D_(h:p:=by
 exact z1351z):p:=h
theorem r9(h:p:=by
 have hl3:c.vs.length=l3:=uq
 have hm3:l3<=9223372036854775807:=Yp hr.v.2.1 hr.v.2.2.1;exact z1661z):p:=h
theorem Dt(h:p:=by
 go_wp2;go_ret;exact au.f (λh=>HKH.out (h.2 k x HXx.out).1) HB.out):p:=h
theorem Ds(h:p:=by
 have pr:=ck4 Br;have hbv:=Yj HB3.out HB.size;have v1:=(ai HB.out HB3.out).trans HC1.out;have v3:=(ai HB.out HB3.out).trans HC3.out;have v4:=(ai HB.out HB3.out).trans HC4.out;have v5:=(ai HB.out HB3.out).trans HC5.out;clear HC1 HC3 HC4 HC5 HB3;by_cases hno:y.m=x.n;rotate_left
 ·have HNo:=aa hno;clear hno;have n1:=bu HNo.out;have z961z:=@aa _ @Sv;exact lu
 have HY1:=aa hno;have q1:=aP hno;clear hno;by_cases hno:x.z<=y.c;rotate_left
 ·have HNo:=aa hno;clear hno;have n1:y.c<x.z:=by have:=HNo.out;omega
  have z961z:=@aa _ @Su;exact lu
 have HY2:=aa hno;have q2:decide (y.c<x.z)=Y_:=by simp;omega
 clear hno;by_cases hno:y.k=x.k;rotate_left
 ·have HNo:=aa hno;clear hno;have n1:=bu HNo.out;have z961z:=@aa _ @Ss;exact lu
 have HY3:=aa hno;have q3:=aP hno;clear hno;by_cases hno:y.x=x.x;rotate_left
 ·have HNo:=aa hno;clear hno;have n1:(y.x==x.x)=Y_:=by simpa using HNo.out
  have z961z:=@aa _ @Sr;exact lu
 have HY4:=aa hno;have q4:(y.x==x.x)=Zb:=by simpa using hno
 clear hno;obtain⟨Gk,Gr,HW⟩:=fE;have k2:=λq:Wd w2=>q.slot (o:=2) Gk.out rfl;obtain⟨r0,r1,r2,r3,r4⟩:=sl5 Gr;obtain⟨v1w,v3w,v4w,v5w,hne0⟩:=ahq;have z15z:=@aa _ @ajN;exact aX):p:=h
theorem Dq(h:p:=by
 exact z1474z):p:=h
theorem mo(h:p:=by
 rintro e w2 ⟨rfl,hb3⟩;clear k0 k1 k2 k3 k4 k5 ltk_1 r0 r1 r2 r3 r4 ltr_1;replace Bk:=upK Bk hb3;replace Br:=upK Br hb3;replace HB:=upB HB hb3;clear hb3;exact z1714z):p:=h
theorem Dd(h:p:=by
 have HZx0:=aa z0;have HZx2:=aa z2;have HZx4:=aa z4;clear hat hx z0 z2 z4;by_cases hok:gK x;rotate_left
 ·have HOK:=aa hok;clear hok;have Gk:=Bk;obtain⟨HW,k3⟩:=oO;obtain⟨x0,x1,x2,x3,x4⟩:=qo;have hne0:=Wd.ne wr;have HC0:=aa (λq:Wd wr=>(fN x.n x.z x.k x.x x.v q.w HZx0.out HZx2.out HZx4.out).mono (λ_ _ h=>au.no h HOK.out));have z55z:=@aa _ @aiX;exact aC
 have HOK:=aa hok;clear hok;by_cases hk0:0<k;rotate_left
 ·obtain⟨hd,Gk⟩:=nv;obtain⟨HW,k3⟩:=oO;obtain⟨x0,x1,x2,x3,x4⟩:=qo;have hne0:=Wd.ne wr;have HC0:=aa (λq:Wd wr=>(fN x.n x.z x.k x.x x.v q.w HZx0.out HZx2.out HZx4.out).mono (λ_ _ h=>au.yes h HOK.out));have z55z:=@aa _ @aiW;exact aC
 have ek:((k:Int) - 1).toNat=k - 1:=af
 obtain⟨b',o',y,e',hb',hy,haty⟩:=dL (HR.x.below HB.out) (show k - 1<l4 by omega);cases e';have y0:wr.cell? ⟨b,o+(k - 1)*5,U⟩=Y5 (I y.n):=by
  exact nz
 have HXy:=aa hy;clear hy haty;cases hless:Yk y.n.toList x.n.toList
 ·have z999z:=@aa _ @NN;exact yp
 ·have z999z:=@aa _ @NM;exact yp):p:=h
theorem Dc(h:p:=by
 have HZx0:=aa z0;have HZx2:=aa z2;have HZx4:=aa z4;clear hat hx z0 z2 z4;obtain⟨k0,k1,k2,k3,k4,k5⟩:=cs6 Bk;have ltk_0:=ae Bk.out;go_wp2_with fail;refine (je ⟨a1,l1,y1,a2,l2,y2,a3,l3,y3,(Y5 ⟨b,o,U⟩),l4,y4,a5,l5,y5⟩ c.now c.vs x.v _ (HR.v.below (HB.trans ((ak _ _).mono HB.size)))).mono ?_;rintro e w1 ⟨hb2,hf⟩;clear k0 k1 k2 k3 k4 k5 ltk_0;obtain⟨HA0,hbx⟩:=aV hb2;replace Bk:=upK Bk hbx;have Br:=aa HA0;replace HB:=upB HB hbx;clear hb2 hbx HA0;clear pk hb c0 c1 c2 c3 c4;by_cases hkh:agU c x.k;rotate_left
 ·have HKH:=aa hkh;clear hkh;have z1492z:=@aa _ @Gw;exact jJ
 obtain⟨i2,kd2,g1,g2⟩:=hkh;have HG1:=aa g1;have HG2:=aa g2;have hi20:¬((i2:Int)<0):=af
 have hi21:decide ((i2:Int)<0)=Y_:=aG
 clear g1 g2;by_cases he:x.v=⟨#[]⟩
 ·have hq:=cC he;have HEm:=aa he;clear he;have z1492z:=@aa _ @Gq;exact jJ
 have hq:=aY he;have HEm:=aa he;clear he;rcases hf with ⟨j3,y,h1,h2,rfl⟩|⟨hh,rfl⟩;rotate_left
 ·have HH:=aa hh;clear hh;have z886z:=@aa _ @Tv;exact fR
 have hl3':j3<l3:=by have h3:=(Yc.1 h1).1;omega
 obtain⟨b3,o3,y',rfl,hb3,hy',hat⟩:=bK HR.v hl3';rw[h1] at hy';obtain rfl:=Yd hy';obtain⟨va,vl,vc,hvr,z0,z2,z3,z5,c0,c1,c2,c3,c4,c5,c6,c7⟩:=aW hat;have HJ:=aa h1;have HN:=aa h2;have hj0:¬((j3:Int)<0):=af
 have hj1:decide ((j3:Int)<0)=Y_:=aG
 have HC1:=aa c1;have HC3:=aa c3;have HC4:=aa c4;have HC5:=aa c5;have HB3:=aa hb3;clear hy' hat hvr z0 z2 z3 z5 c0 c1 c2 c3 c4 c5 c6 c7 h1 h2 hb3;have z1236z:=@aa _ @KG;exact eR):p:=h
theorem mm(h:p:=by
 obtain⟨b,o,x,rfl,hb,hx,hat⟩:=dL (HR.x.below HB.out) hlt;obtain⟨z0,z2,z4,c0,c1,c2,c3,c4⟩:=bQ hat;have HXx:=aa hx;exact z1731z):p:=h
theorem Da(h:p:=by
 have HC0:=aa (λq:Wd wr=>fO ⟨a1,l1,y1,a2,l2,y2,a3,l3,y3,a4,l4,y4,a5,l5,y5⟩ c t q.w (HR.below (HW.trans (q.b.mono HW.size))) HX.out HV.out HNE.out HD.out);have z1247z:=@aa _ @Kw;exact bY):p:=h
theorem C_(h:p:=by
 have HC0:=aa (λq:Wd wr=>fv ⟨a1,l1,y1,a2,l2,y2,(Y5 ⟨b3,o3,U⟩),l3,y3,a4,l4,y4,a5,l5,y5⟩ c t q.w (HR.below (HW.trans (q.b.mono HW.size))) HX.out HV.out HNE.out HJ.out HD.out);have z1247z:=@aa _ @Kv;exact bY):p:=h
theorem rU(h:p:=by
 have Gk:=Bk;have Gx:=Bx;have Gy:=By;have HW:=HB;obtain⟨k0,k1,k2,k3,k4,k5⟩:=sl6 Gk;have x3:=λq:Wd wr=>q.slot (o:=3) Gx.out rfl;have tw:=λq:Wd wr=>(q.cell hbw).trans hcw;have hne0:=Wd.ne wr;exact z1735z):p:=h
theorem CM(h:p:=by
 go_wp2;go_ret;refine⟨HB.out,Zd ⟨λv ⟨i,j2,x2,e1,e2,e3,e5⟩=>?_,rfl⟩⟩;obtain⟨_,rfl⟩:=HX.inj e1 HX1.out (e2.trans HN1.symm);exact HNE.out j2 v e3 (e5.trans HEm.out)):p:=h
theorem CL(h:p:=by
 go_wp2_with fail;by_cases hf:∃(j2:Nat) (v:Vd),c.vs[j2]?=Y5 v/\v.n=x.v
 ·obtain⟨j2,v,h1,h2⟩:=hf;have HF1:=aa h1;have HF2:=aa h2;clear h1 h2;clear k0 k1 k2 k3 k4 k5;have Gk:=Bk;have HW:=HB;have k0:=λq:Wd w1=>q.slot (o:=0) Gk.out rfl;have k1:=λq:Wd w1=>q.slot (o:=1) Gk.out rfl;have k2:=λq:Wd w1=>q.slot (o:=2) Gk.out rfl;have k3:=λq:Wd w1=>q.slot (o:=3) Gk.out rfl;have k4:=λq:Wd w1=>q.slot (o:=4) Gk.out rfl;have k5:=λq:Wd w1=>q.slot (o:=5) Gk.out rfl;have e4w:=λq:Wd w1=>(q.cell hb1).trans e4;have hne0:=Wd.ne w1;have HC0:=aa (λq:Wd w1=>dZ ⟨a1,l1,y1,a2,l2,y2,a3,l3,y3,(Y5 ⟨b,o,U⟩),l4,y4,a5,l5,y5⟩ c.now c.vs x.v q.w (HR.v.below (HW.trans (q.b.mono HW.size))) HV.out HF1.out HF2.out);have z55z:=@aa _ @ajc;exact aC
 ·have HF:=aa hf;clear hf;clear k0 k1 k2 k3 k4 k5;have Gk:=Bk;have HW:=HB;obtain⟨k0,k1,k2,k3,k4,k5⟩:=sl6 Gk;have e4w:=λq:Wd w1=>(q.cell hb1).trans e4;have hne0:=Wd.ne w1;have HC0:=aa (λq:Wd w1=>ij ⟨a1,l1,y1,a2,l2,y2,a3,l3,y3,(Y5 ⟨b,o,U⟩),l4,y4,a5,l5,y5⟩ c.now c.vs x.v q.w (HR.v.below (HW.trans (q.b.mono HW.size))) (λj2 v h1 h2=>HF.out ⟨j2,v,h1,h2⟩));have z55z:=@aa _ @ajb;exact aC):p:=h
theorem ed(h:p:=by
 have HEm:=aa he;clear he;obtain⟨k0,k1,k2,k3,k4,k5⟩:=cs6 Bk;exact z1763z):p:=h
theorem CA(h:p:=by
 exact z1521z):p:=h
theorem mg(h:p:=by
 repeat (go_big_quiet_step (first|(go_at_call 40;exact Calls.wide (HC0.out _))|fail))
 refine wpQuiet_nil ?_;exact z1778z):p:=h
def n_(b:Int):Bool:=decide (97<=b) && decide (b<=122)
def agI(b:Int):Bool:=decide (48<=b) && decide (b<=57)
def nbB(b:Int):Bool:=n_ b || agI b || decide (b=95)
def okB(i:Nat) (b:Int):Bool:=if i=0 then n_ b else nbB b
def aL(s:ByteArray):Prop:=1<=s.size/\s.size<=20/\∀i (h:i<s.size),okB i ((s[i]'h).toNat:Int)=Zb
def cW(p:Prop) (w:World) (e:Ending) (w':World):Prop:=∃r:Bool,e=Za (Y9 r)/\(r=Zb↔p)/\w=w'
theorem jT {s:ByteArray} {k:Nat} (hlt:k<s.size) (h:okB k ((s[k]'hlt).toNat:Int)=Y_):(Y_=Zb↔aL s):=by
 constructor
 ·intro h;cases h
 ·intro h3;have:=h3.2.2 k hlt;rw[h] at this;exact this
theorem o6 {s:ByteArray} {k:Nat} (hlt:k<s.size) (h:okB k ((s[k]'hlt).toNat:Int)=Zb) (ha:∀i (h:i<s.size),i<k->okB i ((s[i]'h).toNat:Int)=Zb):
  ∀i (h:i<s.size),i<k+1->okB i ((s[i]'h).toNat:Int)=Zb:=by
 intro i hi hk;by_cases e:i=k
 ·subst e;exact h
 ·exact ha i hi af
theorem bW(s:ByteArray) (w:World) (hs:s.size<=9223372036854775807):
  Calls Tryz.prog 156 #[I s] w (cW (aL s) w):=by
 by_cases h1:s.size<1
 ·go_enter Tryz.func156,Tryz.ntmps156;exact qx
 by_cases h2:20<s.size
 ·go_enter Tryz.func156,Tryz.ntmps156;exact qx
 go_enter Tryz.func156,Tryz.ntmps156;go_wp2;go_loop [3] (λi=> ∃k:Nat,k<=s.size/\i=Y7 Y6 k/\∀i (h:i<s.size),i<k->okB i ((s[i]'h).toNat:Int)=Zb) (λi=>s.size - (intOf i).toNat);case atStart=>exact⟨0,by omega,rfl,λi _ h=>by omega⟩
 case round=>
  obtain⟨k,hk,rfl,hall⟩:=hrel;have HA:Hid (∀i (h:i<s.size),i<k->okB i ((s[i]'h).toNat:Int)=Zb):=hall;clear hall;by_cases hlt:k<s.size
  ·cases hok:okB k ((s[k]'hlt).toNat:Int)
   ·have HB:Hid (okB k ((s[k]'hlt).toNat:Int)=Y_):=hok;by_cases hk0:k=0
    ·have hkb:((k:Int)==0)=Zb:=by simp[hk0]
     have hk1:k<1:=af
     unfold okB n_ at hok;rw[if_pos hk0] at hok;simp only[Bool.and_eq_false_iff,decide_eq_false_iff_not] at hok;clear hk0;rcases (show ((s[k]'hlt).toNat:Int)<97\/(97<=((s[k]'hlt).toNat:Int)/\122<((s[k]'hlt).toNat:Int)) by omega) with hA|⟨hA,hB⟩;all_goals
      clear hok
      go_wp2
      all_goals first|(exfalso;rename_i hx;simp at hx;omega)|(go_ret;exact⟨Y_,rfl,jT hlt HB.out,rfl⟩)
    ·have hkb:((k:Int)==0)=Y_:=by simp[hk0]
     unfold okB nbB n_ agI at hok;rw[if_neg hk0] at hok;simp only[Bool.or_eq_false_iff,Bool.and_eq_false_iff,decide_eq_false_iff_not] at hok;have hne:(((s[k]'hlt).toNat:Int) !=95)=Zb:=by simp;omega
     rcases (show (((s[k]'hlt).toNat:Int)<97\/(97<=((s[k]'hlt).toNat:Int)/\122<((s[k]'hlt).toNat:Int)))/\(((s[k]'hlt).toNat:Int)<48\/(48<=((s[k]'hlt).toNat:Int)/\57<((s[k]'hlt).toNat:Int))) by omega) with ⟨hA|⟨hA,hB⟩,hC|⟨hC,hD⟩⟩;all_goals
      clear hok
      try omega
     all_goals
      go_wp2
      all_goals first|(exfalso;rename_i hx;simp at hx;omega)|(go_ret;exact⟨Y_,rfl,jT hlt HB.out,rfl⟩)
   ·have HB:Hid (okB k ((s[k]'hlt).toNat:Int)=Zb):=hok;by_cases hk0:k=0
    ·have hkb:((k:Int)==0)=Zb:=by simp[hk0]
     have hk1:k<1:=af
     unfold okB n_ at hok;rw[if_pos hk0] at hok;simp only[YG,decide_eq_true_eq] at hok;obtain⟨hA,hB⟩:=hok;clear hk0;exact Ar
    ·have hkb:((k:Int)==0)=Y_:=by simp[hk0]
     unfold okB nbB n_ agI at hok;rw[if_neg hk0] at hok;simp only[Bool.or_eq_true,YG,decide_eq_true_eq] at hok;rcases (show (97<=((s[k]'hlt).toNat:Int)/\((s[k]'hlt).toNat:Int)<=122)\/(48<=((s[k]'hlt).toNat:Int)/\((s[k]'hlt).toNat:Int)<=57)\/(95<=((s[k]'hlt).toNat:Int)/\((s[k]'hlt).toNat:Int)<=95) by omega) with ⟨hA,hB⟩|⟨hA,hB⟩|⟨hA,hB⟩
     ·clear hok;exact Ar
     ·clear hok;exact Ar
     ·clear hok;have hne:(((s[k]'hlt).toNat:Int) !=95)=Y_:=by simp;omega
      exact Ar
  ·exact PR
def az(w:World) (a:Option Addr) (len cap:Nat) (zs:List ByteArray):Prop:=
 zs.length=len/\len<=cap/\cap<=9223372036854775807/\(∀(j:Nat) x,zs[j]?=Y5 x->x.size<=9223372036854775807)/\
 (zs=[]\/∃b o,a=Y5 ⟨b,o,U⟩/\b<w.heap.size/\∀(j:Nat) x,zs[j]?=Y5 x->w.cell? ⟨b,o+j,U⟩=Y5 (I x))
theorem ai {w:World} (hb:Below w.heap.size w w') {b o:Nat} (h:b<w.heap.size):w'.cell? ⟨b,o,U⟩=w.cell? ⟨b,o,U⟩:=by
 simp[World.cell?,hb.block b h]
theorem az.below {w:World} {len:Nat} {zs:List ByteArray} (h:az w a len cap zs) (hb:Below w.heap.size w w'):az w' a len cap zs:=by
 obtain⟨h1,h2,h3,h4,h5⟩:=h;refine⟨h1,h2,h3,h4,?_⟩;rcases h5 with h5|⟨b,o,rfl,hlt,hc⟩
 ·exact Or.inl h5
 ·exact Or.inr ⟨b,o,rfl,Yj hlt hb.size,λj x hx=>by rw[ai hb hlt];exact hc j x hx⟩
theorem az.at {w:World} {len:Nat} {zs:List ByteArray} (h:az w a len cap zs) {k:Nat} (hk:k<len):
  ∃b o x,a=Y5 ⟨b,o,U⟩/\b<w.heap.size/\zs[k]?=Y5 x/\w.cell? ⟨b,o+k,U⟩=Y5 (I x)/\x.size<=9223372036854775807:=by
 obtain⟨h1,h2,h3,h4,h5⟩:=h;have hx:zs[k]?=Y5 (zs[k]'(by omega)):=Yi _;rcases h5 with h5|⟨b,o,rfl,hlt,hc⟩
 ·subst h5;simp at h1;omega
 ·exact⟨b,o,_,rfl,hlt,hx,hc k _ hx,h4 k _ hx⟩
theorem fk:(Tryz.prog.info? 9).map (λi=>(i.zero,i.size,i.bytes))=Y5 (Y5 (I ⟨#[]⟩),1,16):=by kernel_rfl
theorem av {w:World} {cs:Array Value} {t:TypeId} {fr:Nat×Nat} (h:w.heap[g]?=Y5 (Y8 cs t fr)) (v:Value):(w.setCell ⟨g,i,U⟩ v).heap[g]?=Y5 (Y8 (cs.setIfInBounds i v) t fr):=by
 obtain⟨hl,hh⟩:=Yw.1 h;unfold World.setCell;simp[Array.getElem?_modify,h]
theorem bu {a b:ByteArray} (h:¬a=b):(a.toList==b.toList)=Y_:=by
 rw[beq_eq_false_iff_ne];intro e;rw[Y3,Y3] at e;exact h (by cases a;cases b;simp at e;rw[e])
def au(p:Prop) (w:World) (e:Ending) (w':World):Prop:=∃r:Bool,e=Za (Y9 r)/\(r=Zb↔p)/\Below w.heap.size w w'
def jb(zs:List ByteArray):Prop:=∀(i:Nat) x,zs[i]?=Y5 x->aL x/\∀y,0<i->zs[i - 1]?=Y5 y->Yk y.toList x.toList=Zb
def dX(zs:List ByteArray) (most:Int):Prop:=(zs.length:Int)<=most/\jb zs
theorem hM:∀x y:List UInt8,(Yk y x || y==x)=!Yk x y
 | [],[]=>by simp[Yk]
 | _ ::_,[]=>by simp[Yk]
 | [],_ ::_=>by simp[Yk]
 | a ::x,b ::y=>by
  have ih:=hM x y;simp only[Yk];rcases Nat.lt_trichotomy a.toNat b.toNat with h|h|h
  ·have h1:=YX.2 h;have h2:¬b<a:=λh'=>by have:=YX.1 h';omega
   have h3:¬b=a:=λh'=>by subst h';omega
   simp[h1,h2,h3]
  ·obtain rfl:a=b:=UInt8.toNat_inj.1 h;have h2:¬a<a:=λh'=>by have:=YX.1 h';omega
   simp[h2];simpa using ih
  ·have h1:=YX.2 h;have h2:¬a<b:=λh'=>by have:=YX.1 h';omega
   have h3:¬a=b:=λh'=>by subst h';omega
   simp[h1,h2,h3]
theorem cW.yes {p:Prop} {w:World} (h:cW p w e w') (hp:p):e=Za (Y9 Zb)/\w'=w:=by
 obtain⟨r,rfl,hr,rfl⟩:=h;exact⟨by rw[hr.2 hp],rfl⟩
theorem cW.no {p:Prop} {w:World} (h:cW p w e w') (hp:¬p):e=Za (Y9 Y_)/\w'=w:=by
 obtain⟨r,rfl,hr,rfl⟩:=h;cases r
 ·exact⟨rfl,rfl⟩
 ·exact absurd (hr.1 rfl) hp
theorem jb.step {zs:List ByteArray} {k:Nat} {x:ByteArray} (h:jb (zs.take k)) (hx:zs[k]?=Y5 x) (hn:aL x) (hy:∀y,0<k->zs[k - 1]?=Y5 y->Yk y.toList x.toList=Zb):jb (zs.take (k+1)):=by
 intro i z hz;rw[YA] at hz;split at hz
 ·rename_i hi;by_cases e:i=k
  ·subst e;rw[hx] at hz;obtain rfl:=Yd hz;refine⟨hn,λy h0 h1=>hy y h0 ?_⟩;rw[YA,if_pos af] at h1;exact h1
  ·have:=h i z (by rw[YA,if_pos af];exact hz);refine⟨this.1,λy h0 h1=>this.2 y h0 ?_⟩;rw[YA,if_pos af] at h1 ⊢;exact h1
 ·cases hz
theorem iS(a:Option Addr) (len cap:Nat) (zs:List ByteArray) (most:Int) (w:World) (hr:az w a len cap zs):
  Calls Tryz.prog 158 #[J a len cap,Y7 Y6 most] w (au (dX zs most) w):=by
 have HR:Hid (az w a len cap zs):=hr;have hlc:=Yp hr.2.1 hr.2.2.1;have hzl:=hr.1;clear hr;go_enter Tryz.func158,Tryz.ntmps158;go_wp2;go_loopw [5] (λi wr=> ∃k:Nat,k<=len/\i=Y7 Y6 k/\Hid (jb (zs.take k))/\Hid (Below w.heap.size w wr)) (λi _=>len - (intOf i).toNat);case atStart=>exact⟨0,by omega,rfl,λi x h=>by simp at h,Yh _ _⟩
 case round=>
  obtain⟨k,hk,rfl,HE,HB⟩:=hrel;by_cases hlt:k<len
  ·obtain⟨b,o,x,rfl,hb,hx,hc,hsz⟩:=(HR.below HB.out).at hlt;by_cases hn:aL x
   ·have HY:Hid (∀w,Calls Tryz.prog 156 #[I x] w λe w'=>e=Za (Y9 Zb)/\w'=w):=λw=>(bW x w hsz).mono λ_ _ h=>h.yes hn;by_cases hk0:0<k
    ·obtain⟨b',o',y,e',hb',hy,hcy,-⟩:=(HR.below HB.out).at (k:=k - 1) af;cases e';have ek:((k:Int) - 1).toNat=k - 1:=af
     cases hless:Yk y.toList x.toList
     ·go_wp2;go_quiet ((go_at_call 156;exact Yz (HY.out _)));go_wp2;go_ret;exact⟨Y_,rfl,⟨λh=>bU,λh=>absurd ((h.2 k x hx).2 y hk0 hy) (by rw[hless];decide)⟩,below_drewN HB.out _⟩
     ·go_wp2;go_quiet ((go_at_call 156;exact Yz (HY.out _)));go_wp2;exact⟨⟨k+1,by omega,by go_num,HE.step hx hn (λy' _ hy'=>by rw[hy] at hy';obtain rfl:=Yd hy';exact hless),below_drewN HB.out _⟩,by simp[intOf];omega⟩
    ·have hd:decide ((0:Int)<k)=Y_:=by simp;omega
     go_wp2;go_quiet ((go_at_call 156;exact Yz (HY.out _)));go_wp2;exact⟨⟨k+1,by omega,by go_num,HE.step hx hn (λy' h0 _=>absurd h0 hk0),below_drewN HB.out _⟩,by simp[intOf];omega⟩
   ·have HY:Hid (∀w,Calls Tryz.prog 156 #[I x] w λe w'=>e=Za (Y9 Y_)/\w'=w):=λw=>(bW x w hsz).mono λ_ _ h=>h.no hn;go_wp2;go_quiet ((go_at_call 156;exact Yz (HY.out _)));go_wp2;go_ret;exact⟨Y_,rfl,⟨λh=>bU,λh=>absurd (h.2 k x hx).1 hn⟩,below_drewN HB.out _⟩
  ·obtain rfl:k=len:=af
   go_wp2;go_ret;refine⟨_,rfl,?_,HB.out⟩;have hR:=HE.out;rw[YJ af] at hR;unfold dX;simp[hR,hzl]
def dw(s:ByteArray):Prop:=s=⟨#[]⟩\/aL s
def Inn(n a b:Int):Prop:=a<=n/\n<=b
theorem lN(n a b:Int) (w:World):
  Calls Tryz.prog 107 #[Y7 Y6 n,Y7 Y6 a,Y7 Y6 b] w (cW (Inn n a b) w):=by
 go_enter Tryz.func107,Tryz.ntmps107;go_wp2;all_goals (go_ret;exact⟨_,rfl,by unfold Inn;simp;omega,rfl⟩)
theorem uZ(n:Int) (w:World):
  Calls Tryz.prog 157 #[Y7 Y6 n] w (cW (Inn n 0 1000000) w):=by
 go_enter Tryz.func157,Tryz.ntmps157;exact wP
theorem o8(n:Int) (w:World):
  Calls Tryz.prog 160 #[Y7 Y6 n] w (cW (Inn n 1 1048576) w):=by
 go_enter Tryz.func160,Tryz.ntmps160;exact wP
theorem o7(n:Int) (w:World):
  Calls Tryz.prog 67 #[Y7 Y6 n] w (cW (Inn n 0 1000000) w):=by
 go_enter Tryz.func67,Tryz.ntmps67;exact wP
theorem aa {p:Prop} (h:p):Hid p:=h
theorem aY {s:ByteArray} (h:¬s=⟨#[]⟩):s.toList.isEmpty=Y_:=by
 have:=bu h;rw[Y3] at this ⊢;cases e:s.data.toList with
 | nil=>exact absurd (by cases s;simp at e;rw[e]) h
 | cons a l=>rfl
theorem AD:(⟨#[]⟩:ByteArray).toList.isEmpty=Zb:=by rw[Y3];rfl
theorem gM {w:World} {vs:Array Value} (hb:Below (w.alloc (Y8 vs T)).heap.size (w.alloc (Y8 vs T)) w1):
  w1.heap[w.heap.size]?=Y5 (Y8 vs T (0,0))/\Below w.heap.size w w1/\w.heap.size<w1.heap.size:=by
 have hs:(w.alloc (Y8 vs T)).heap.size=w.heap.size+1:=aG
 have h1:=hb.size;refine⟨?_,?_,by omega⟩
 ·rw[hb.block _ af];show (w.heap.push _)[w.heap.size]?=_;simp
 ·exact ((Yh w.heap.size w).alloc (Ye _) _).trans (hb.mono af)
theorem an {w:World} {b:Nat} {vs:Array Value} {f:Nat×Nat} (h:w.heap[b]?=Y5 (Y8 vs T f)) (i:Nat):w.cell? ⟨b,i,U⟩=vs[i]?:=by simp[World.cell?,h]
theorem ck0 {w:World} {b:Nat} {f:Nat×Nat} (h:w.heap[b]?=Y5 (Y8 (v0 ::r).toArray T f)):w.cell? ⟨b,0,U⟩=Y5 v0:=an h 0
theorem ck1 {w:World} {b:Nat} {f:Nat×Nat} (h:w.heap[b]?=Y5 (Y8 (v0::v1 ::r).toArray T f)):w.cell? ⟨b,1,U⟩=Y5 v1:=an h 1
theorem ck2 {w:World} {b:Nat} {f:Nat×Nat} (h:w.heap[b]?=Y5 (Y8 (v0::v1::v2 ::r).toArray T f)):w.cell? ⟨b,2,U⟩=Y5 v2:=an h 2
theorem ck3 {w:World} {b:Nat} {f:Nat×Nat} (h:w.heap[b]?=Y5 (Y8 (v0::v1::v2::v3 ::r).toArray T f)):w.cell? ⟨b,3,U⟩=Y5 v3:=an h 3
theorem ck4 {w:World} {b:Nat} {f:Nat×Nat} (h:w.heap[b]?=Y5 (Y8 (v0::v1::v2::v3::v4 ::r).toArray T f)):w.cell? ⟨b,4,U⟩=Y5 v4:=an h 4
theorem ck5 {w:World} {b:Nat} {f:Nat×Nat} (h:w.heap[b]?=Y5 (Y8 (v0::v1::v2::v3::v4::v5 ::r).toArray T f)):w.cell? ⟨b,5,U⟩=Y5 v5:=an h 5
theorem ck6 {w:World} {b:Nat} {f:Nat×Nat} (h:w.heap[b]?=Y5 (Y8 (v0::v1::v2::v3::v4::v5::v6 ::r).toArray T f)):w.cell? ⟨b,6,U⟩=Y5 v6:=an h 6
theorem ck7 {w:World} {b:Nat} {f:Nat×Nat} {v7:Value} (h:w.heap[b]?=Y5 (Y8 (v0::v1::v2::v3::v4::v5::v6::v7 ::r).toArray T f)):w.cell? ⟨b,7,U⟩=Y5 v7:=an h 7
theorem ak(w:World) (o:Obj):Below w.heap.size w (w.alloc o):=(Yh _ _).alloc (Ye _) o
theorem ig(s:ByteArray) (w:World) (hs:s.size<=9223372036854775807):
  Calls Tryz.prog 159 #[I s] w (cW (dw s) w):=by
 by_cases h0:s=⟨#[]⟩
 ·subst h0;go_enter Tryz.func159,Tryz.ntmps159;go_wp2;go_ret;exact⟨_,rfl,by unfold dw;simp,rfl⟩
 ·have hq:=aY h0;go_enter Tryz.func159,Tryz.ntmps159;go_wp2_with (go_at_call 156;refine (bW _ _ hs).mono ?_;rintro e w1 ⟨r,rfl,hr,rfl⟩);go_ret;exact⟨r,rfl,by unfold dw;simp[h0,hr],rfl⟩
def xQ(n z:ByteArray) (c s u:Int) (zs:List ByteArray):Prop:=aL n/\aL z/\Inn c 0 1000000/\Inn s 0 8/\Inn u 0 1000000/\dX zs 8
theorem oy(n z:ByteArray) (c s u:Int) (d:Bool) (a:Option Addr) (len cap:Nat) (zs:List ByteArray) (w:World) (hn:n.size<=9223372036854775807) (hz:z.size<=9223372036854775807) (hr:az w a len cap zs):
  Calls Tryz.prog 108 #[Zc #[I n,I z,Y7 Y6 c,Y7 Y6 s,Y7 Y6 u,Y9 d,J a len cap]] w (au (xQ n z c s u zs) w):=by
 have HR:Hid (az w a len cap zs):=hr;clear hr;go_enter Tryz.func108,Tryz.ntmps108;go_wp2_with fail;refine (bW n _ hn).mono ?_;have z218z:=@aa _ @aez;exact fb
def qX(n z:ByteArray):Prop:=aL n/\dw z
theorem iT(n z:ByteArray) (x y:Bool) (w:World) (hn:n.size<=9223372036854775807) (hz:z.size<=9223372036854775807):
  Calls Tryz.prog 109 #[Zc #[I n,Y9 x,Y9 y,I z]] w (au (qX n z) w):=by
 go_enter Tryz.func109,Tryz.ntmps109;go_wp2_with fail;refine (bW n _ hn).mono ?_;have z218z:=@aa _ @aey;exact fb
def qY(n:ByteArray) (z:Int) (k v:ByteArray):Prop:=aL n/\Inn z 1 1048576/\aL k/\dw v
theorem fN(n:ByteArray) (z:Int) (k:ByteArray) (x:Bool) (v:ByteArray) (w:World) (hn:n.size<=9223372036854775807) (hk:k.size<=9223372036854775807) (hv:v.size<=9223372036854775807):
  Calls Tryz.prog 111 #[Zc #[I n,Y7 Y6 z,I k,Y9 x,I v]] w (au (qY n z k v) w):=by
 go_enter Tryz.func111,Tryz.ntmps111;go_wp2_with fail;refine (bW n _ hn).mono ?_;have z218z:=@aa _ @aex;exact fb
def fm(d:ByteArray) (p:Int):Prop:=(p=0/\d=⟨#[]⟩)\/((p=1\/p=2)/\aL d)
def RA(n:ByteArray) (c:Int) (z:ByteArray) (zs:List ByteArray) (d:ByteArray) (p:Int):Prop:=aL n/\Inn c 0 1000000/\dw z/\dX zs 3/\fm d p
theorem fL(d:ByteArray):fm d 0↔d=⟨#[]⟩:=by unfold fm;simp
theorem ji {p:Int} (d:ByteArray) (h:p=1\/p=2):fm d p↔aL d:=by
 unfold fm;constructor
 ·rintro (⟨h1,_⟩|⟨_,h1⟩)
  ·omega
  ·exact h1
 ·exact λh1=>Or.inr ⟨h,h1⟩
theorem ru {p:Int} {d:ByteArray} (h:p<0\/2<p):¬fm d p:=by
 unfold fm;rintro (⟨h1,_⟩|⟨h1,_⟩) <;> omega
theorem fj(s:ByteArray):s.toList.isEmpty=Zb↔s=⟨#[]⟩:=by
 constructor
 ·intro h;by_cases h0:s=⟨#[]⟩
  ·exact h0
  ·rw[aY h0] at h;cases h
 ·rintro rfl;exact AD
theorem jl(n:ByteArray) (c:Int) (z:ByteArray) (a:Option Addr) (len cap:Nat) (zs:List ByteArray) (d:ByteArray) (p:Int) (w:World) (hn:n.size<=9223372036854775807) (hz:z.size<=9223372036854775807) (hd:d.size<=9223372036854775807) (hr:az w a len cap zs):
  Calls Tryz.prog 112 #[Zc #[I n,Y7 Y6 c,I z,J a len cap,I d,Y7 Y6 p]] w (au (RA n c z zs d p) w):=by
 have HR:Hid (az w a len cap zs):=hr;clear hr;go_enter Tryz.func112,Tryz.ntmps112;go_wp2_with fail;refine (bW n _ hn).mono ?_;have z218z:=@aa _ @aew;exact fb
def Ry(n:ByteArray) (c:Int) (z k:ByteArray) (x:Bool) (m:ByteArray) (y:Bool) (zs:List ByteArray):Prop:=
 aL n/\Inn c 1 1048576/\aL z/\aL k/\dw m/\(y=Zb->m=⟨#[]⟩)/\dX zs (if x=Zb then 1 else 6)
theorem dy {zs:List ByteArray} {x:Bool} (h:dX zs (if x=Zb then 1 else 6)):dX zs 6:=by
 refine⟨?_,h.2⟩;have:=h.1;split at this <;> omega
theorem jh(n:ByteArray) (c:Int) (z k:ByteArray) (x:Bool) (m:ByteArray) (y:Bool) (a:Option Addr) (len cap:Nat) (zs:List ByteArray) (w:World) (hn:n.size<=9223372036854775807) (hz:z.size<=9223372036854775807) (hk:k.size<=9223372036854775807) (hm:m.size<=9223372036854775807) (hr:az w a len cap zs):
  Calls Tryz.prog 110 #[Zc #[I n,Y7 Y6 c,I z,I k,Y9 x,I m,Y9 y,J a len cap]] w (au (Ry n c z k x m y zs) w):=by
 have HR:Hid (az w a len cap zs):=hr;have hzl:=hr.1;have hlc:=Yp hr.2.1 hr.2.2.1;clear hr;cases y
 ·have HY:Hid (Y_=Zb->m=⟨#[]⟩):=λh=>bU;have z206z:=@aa _ @aeH;exact qm
 by_cases hm0:m=⟨#[]⟩
 ·subst hm0;have HY:Hid True:=trivial;have z206z:=@aa _ @aeG;exact qm
 have hq9:=aY hm0;have z206z:=@aa _ @aeI;exact qm
theorem al {w:World} {b:Nat} {vs:Array Value} (h:w.heap[b]?=Y5 (Y8 vs T (0,0))) (i:Nat):w.frozen? ⟨b,i,U⟩=Y_:=by simp[World.frozen?,h]
theorem ah {w:World} {B b:Nat} {v:Value} (hB:B<=b) (h:Below B w w1):Below B w (w1.setCell ⟨b,i,U⟩ v):=h.setCell hB v
theorem ae {w:World} {b:Nat} {o:Obj} (h:w.heap[b]?=Y5 o):b<w.heap.size:=by
 exact PB
theorem upK {w:World} {k:Nat} {o:Obj} (h:Hid (w.heap[k]?=Y5 o)) (hb:Below w.heap.size w w'):Hid (w'.heap[k]?=Y5 o):=(hb.block _ (ae h)).trans h
theorem upB {w w2:World} (h:Hid (Below w.heap.size w w1)) (hb:Below w1.heap.size w1 w2):Hid (Below w.heap.size w w2):=Below.trans h (hb.mono (Below.size h))
theorem sb1 {w:World} {v:Value} (h:Below w.heap.size w w1):Below w.heap.size w (w1.setCell ⟨w.heap.size+1,i,U⟩ v):=ah (by omega) h
theorem sb2 {w:World} {v:Value} (h:Below w.heap.size w w1):Below w.heap.size w (w1.setCell ⟨w.heap.size+1+1,i,U⟩ v):=ah (by omega) h
theorem sb3 {w:World} {v:Value} (h:Below w.heap.size w w1):Below w.heap.size w (w1.setCell ⟨w.heap.size+1+1+1,i,U⟩ v):=ah (by omega) h
theorem eG(w:World) (o p:Obj):((w.alloc o).alloc p).heap[w.heap.size]?=Y5 o:=by
 rw[Yl _ _ _ aG];exact Yg
theorem eF(w:World) (o p:Obj):((w.alloc o).alloc p).heap[w.heap.size+1]?=Y5 p:=by
 have h:w.heap.size+1=(w.alloc o).heap.size:=aG
 rw[h];exact Yg
theorem lS(w:World) (o p q:Obj):(((w.alloc o).alloc p).alloc q).heap[w.heap.size]?=Y5 o:=by
 rw[Yl _ _ _ bL,Yl _ _ _ aG];show (w.heap.push _)[w.heap.size]?=_;simp
theorem jX(w:World) (o p q:Obj):(((w.alloc o).alloc p).alloc q).heap[w.heap.size+1]?=Y5 p:=by
 rw[Yl _ _ _ aG];have h:w.heap.size+1=(w.alloc o).heap.size:=aG
 rw[h];show ((w.alloc o).heap.push _)[(w.alloc o).heap.size]?=_;exact Yg
theorem lR(w:World) (o p q:Obj):(((w.alloc o).alloc p).alloc q).heap[w.heap.size+1+1]?=Y5 q:=by
 have h:w.heap.size+1+1=((w.alloc o).alloc p).heap.size:=aG
 rw[h];show (((w.alloc o).alloc p).heap.push _)[((w.alloc o).alloc p).heap.size]?=_;exact Yg
theorem aS(w:World) (o p:Obj):Below w.heap.size w ((w.alloc o).alloc p):=(ak w o).alloc (by simp) p
theorem dj(w:World) (o p q:Obj):Below w.heap.size w (((w.alloc o).alloc p).alloc q):=(aS w o p).alloc (by simp;omega) q
theorem aP {a b:ByteArray} (h:a=b):(a.toList==b.toList)=Zb:=by rw[h];simp
theorem cs5 {w:World} {b:Nat} (h:w.heap[b]?=Y5 (Y8 #[v0,v1,v2,v3,v4] T (0,0))):w.cell? ⟨b,0,U⟩=Y5 v0/\w.cell? ⟨b,1,U⟩=Y5 v1/\w.cell? ⟨b,2,U⟩=Y5 v2/\w.cell? ⟨b,3,U⟩=Y5 v3/\w.cell? ⟨b,4,U⟩=Y5 v4:=⟨an h 0,an h 1,an h 2,an h 3,an h 4⟩
theorem cs6 {w:World} {b:Nat} (h:w.heap[b]?=Y5 (Y8 #[v0,v1,v2,v3,v4,v5] T (0,0))):w.cell? ⟨b,0,U⟩=Y5 v0/\w.cell? ⟨b,1,U⟩=Y5 v1/\w.cell? ⟨b,2,U⟩=Y5 v2/\w.cell? ⟨b,3,U⟩=Y5 v3/\w.cell? ⟨b,4,U⟩=Y5 v4/\w.cell? ⟨b,5,U⟩=Y5 v5:=⟨an h 0,an h 1,an h 2,an h 3,an h 4,an h 5⟩
theorem cs7 {w:World} {b:Nat} (h:w.heap[b]?=Y5 (Y8 #[v0,v1,v2,v3,v4,v5,v6] T (0,0))):w.cell? ⟨b,0,U⟩=Y5 v0/\w.cell? ⟨b,1,U⟩=Y5 v1/\w.cell? ⟨b,2,U⟩=Y5 v2/\w.cell? ⟨b,3,U⟩=Y5 v3/\w.cell? ⟨b,4,U⟩=Y5 v4/\w.cell? ⟨b,5,U⟩=Y5 v5/\w.cell? ⟨b,6,U⟩=Y5 v6:=⟨an h 0,an h 1,an h 2,an h 3,an h 4,an h 5,an h 6⟩
theorem cs8 {w:World} {b:Nat} {v7:Value} (h:w.heap[b]?=Y5 (Y8 #[v0,v1,v2,v3,v4,v5,v6,v7] T (0,0))):w.cell? ⟨b,0,U⟩=Y5 v0/\w.cell? ⟨b,1,U⟩=Y5 v1/\w.cell? ⟨b,2,U⟩=Y5 v2/\w.cell? ⟨b,3,U⟩=Y5 v3/\w.cell? ⟨b,4,U⟩=Y5 v4/\w.cell? ⟨b,5,U⟩=Y5 v5/\w.cell? ⟨b,6,U⟩=Y5 v6/\w.cell? ⟨b,7,U⟩=Y5 v7:=⟨an h 0,an h 1,an h 2,an h 3,an h 4,an h 5,an h 6,an h 7⟩
theorem cw(w:World) (o:Obj):(w.alloc o).heap.size=w.heap.size+1:=by simp
theorem aV {w:World} {o:Obj} (h:Below (w.alloc o).heap.size (w.alloc o) w'):w'.heap[w.heap.size]?=Y5 o/\Below w.heap.size w w':=by
 rw[cw] at h;exact⟨(h.block _ (Nat.lt_succ_self _)).trans (heap_alloc_new w o),(ak w o).trans (h.mono (Yy _))⟩
theorem dP {w:World} {o p:Obj} (h:Below ((w.alloc o).alloc p).heap.size ((w.alloc o).alloc p) w'):w'.heap[w.heap.size]?=Y5 o/\w'.heap[w.heap.size+1]?=Y5 p/\Below w.heap.size w w':=by
 obtain⟨h1,h2⟩:=aV h;rw[cw] at h1;obtain⟨h3,h4⟩:=aV h2;exact⟨h3,h1,h4⟩
def Wd(W:World):Type:={ x:World // Below W.heap.size W x }
def Wd.w(i:Wd W):World:=i.1
theorem Wd.b(i:Wd W):Below W.heap.size W i.w:=i.2
theorem Wd.ne(W:World):Nonempty (Wd W):=⟨⟨W,Yh _ _⟩⟩
theorem Wd.cell(i:Wd W) {b o:Nat} (h:b<W.heap.size):i.w.cell? ⟨b,o,U⟩=W.cell? ⟨b,o,U⟩:=ai i.b h
theorem Wd.slot(i:Wd W) {b o:Nat} {vs:Array Value} {T:TypeId} {f:Nat×Nat} {v:Value} (h:W.heap[b]?=Y5 (Y8 vs T f)) (hv:vs[o]?=Y5 v):i.w.cell? ⟨b,o,U⟩=Y5 v:=by
 have hb:b<W.heap.size:=by
  rcases Nat.lt_or_ge b W.heap.size with h1|h1
  ·exact h1
  ·rw[Array.getElem?_eq_none h1] at h;cases h
 rw[i.cell hb,an h,hv]
theorem sl1 {b:Nat} (h:Hid (W.heap[b]?=Y5 (Y8 (v0 ::r).toArray T (0,0)))):(∀q:Wd W,q.w.cell? ⟨b,0,U⟩=Y5 v0):=λq=>q.slot h rfl
theorem sl2 {b:Nat} (h:Hid (W.heap[b]?=Y5 (Y8 (v0 ::v1 ::r).toArray T (0,0)))):(∀q:Wd W,q.w.cell? ⟨b,0,U⟩=Y5 v0)/\(∀q:Wd W,q.w.cell? ⟨b,1,U⟩=Y5 v1):=⟨λq=>q.slot h rfl,λq=>q.slot h rfl⟩
theorem sl3 {b:Nat} (h:Hid (W.heap[b]?=Y5 (Y8 (v0 ::v1 ::v2 ::r).toArray T (0,0)))):(∀q:Wd W,q.w.cell? ⟨b,0,U⟩=Y5 v0)/\(∀q:Wd W,q.w.cell? ⟨b,1,U⟩=Y5 v1)/\(∀q:Wd W,q.w.cell? ⟨b,2,U⟩=Y5 v2):=⟨λq=>q.slot h rfl,λq=>q.slot h rfl,λq=>q.slot h rfl⟩
theorem sl4 {b:Nat} (h:Hid (W.heap[b]?=Y5 (Y8 (v0 ::v1 ::v2 ::v3 ::r).toArray T (0,0)))):(∀q:Wd W,q.w.cell? ⟨b,0,U⟩=Y5 v0)/\(∀q:Wd W,q.w.cell? ⟨b,1,U⟩=Y5 v1)/\(∀q:Wd W,q.w.cell? ⟨b,2,U⟩=Y5 v2)/\(∀q:Wd W,q.w.cell? ⟨b,3,U⟩=Y5 v3):=⟨λq=>q.slot h rfl,λq=>q.slot h rfl,λq=>q.slot h rfl,λq=>q.slot h rfl⟩
theorem sl5 {b:Nat} (h:Hid (W.heap[b]?=Y5 (Y8 (v0 ::v1 ::v2 ::v3 ::v4 ::r).toArray T (0,0)))):(∀q:Wd W,q.w.cell? ⟨b,0,U⟩=Y5 v0)/\(∀q:Wd W,q.w.cell? ⟨b,1,U⟩=Y5 v1)/\(∀q:Wd W,q.w.cell? ⟨b,2,U⟩=Y5 v2)/\(∀q:Wd W,q.w.cell? ⟨b,3,U⟩=Y5 v3)/\(∀q:Wd W,q.w.cell? ⟨b,4,U⟩=Y5 v4):=⟨λq=>q.slot h rfl,λq=>q.slot h rfl,λq=>q.slot h rfl,λq=>q.slot h rfl,λq=>q.slot h rfl⟩
theorem sl6 {b:Nat} (h:Hid (W.heap[b]?=Y5 (Y8 (v0 ::v1 ::v2 ::v3 ::v4 ::v5 ::r).toArray T (0,0)))):(∀q:Wd W,q.w.cell? ⟨b,0,U⟩=Y5 v0)/\(∀q:Wd W,q.w.cell? ⟨b,1,U⟩=Y5 v1)/\(∀q:Wd W,q.w.cell? ⟨b,2,U⟩=Y5 v2)/\(∀q:Wd W,q.w.cell? ⟨b,3,U⟩=Y5 v3)/\(∀q:Wd W,q.w.cell? ⟨b,4,U⟩=Y5 v4)/\(∀q:Wd W,q.w.cell? ⟨b,5,U⟩=Y5 v5):=⟨λq=>q.slot h rfl,λq=>q.slot h rfl,λq=>q.slot h rfl,λq=>q.slot h rfl,λq=>q.slot h rfl,λq=>q.slot h rfl⟩
theorem sl7 {b:Nat} (h:Hid (W.heap[b]?=Y5 (Y8 (v0 ::v1 ::v2 ::v3 ::v4 ::v5 ::v6 ::r).toArray T (0,0)))):(∀q:Wd W,q.w.cell? ⟨b,0,U⟩=Y5 v0)/\(∀q:Wd W,q.w.cell? ⟨b,1,U⟩=Y5 v1)/\(∀q:Wd W,q.w.cell? ⟨b,2,U⟩=Y5 v2)/\(∀q:Wd W,q.w.cell? ⟨b,3,U⟩=Y5 v3)/\(∀q:Wd W,q.w.cell? ⟨b,4,U⟩=Y5 v4)/\(∀q:Wd W,q.w.cell? ⟨b,5,U⟩=Y5 v5)/\(∀q:Wd W,q.w.cell? ⟨b,6,U⟩=Y5 v6):=⟨λq=>q.slot h rfl,λq=>q.slot h rfl,λq=>q.slot h rfl,λq=>q.slot h rfl,λq=>q.slot h rfl,λq=>q.slot h rfl,λq=>q.slot h rfl⟩
theorem sl8 {b:Nat} {v7:Value} (h:Hid (W.heap[b]?=Y5 (Y8 (v0 ::v1 ::v2 ::v3 ::v4 ::v5 ::v6 ::v7 ::r).toArray T (0,0)))):(∀q:Wd W,q.w.cell? ⟨b,0,U⟩=Y5 v0)/\(∀q:Wd W,q.w.cell? ⟨b,1,U⟩=Y5 v1)/\(∀q:Wd W,q.w.cell? ⟨b,2,U⟩=Y5 v2)/\(∀q:Wd W,q.w.cell? ⟨b,3,U⟩=Y5 v3)/\(∀q:Wd W,q.w.cell? ⟨b,4,U⟩=Y5 v4)/\(∀q:Wd W,q.w.cell? ⟨b,5,U⟩=Y5 v5)/\(∀q:Wd W,q.w.cell? ⟨b,6,U⟩=Y5 v6)/\(∀q:Wd W,q.w.cell? ⟨b,7,U⟩=Y5 v7):=⟨λq=>q.slot h rfl,λq=>q.slot h rfl,λq=>q.slot h rfl,λq=>q.slot h rfl,λq=>q.slot h rfl,λq=>q.slot h rfl,λq=>q.slot h rfl,λq=>q.slot h rfl⟩
theorem bN {a:Act} {w:World} (hm:P.follows .mixedOrders=Zb) (hB:Region.lexB .any l.toArray=Zb)
  (h:wpQuiet P l.toArray (λw'=> ∃i:Wd w,w'=i.w) (λa'=> ∀w',(∃i:Wd w,w'=i.w)->Q .normal a' w') l a):(Code.region id l.toArray Zb).wp P Q a w:=
 wp_region_quiet (C:=λw'=> ∃i:Wd w,w'=i.w) hm hB ⟨⟨_,(Yh w.heap.size w).drew⟩,rfl⟩ np
theorem Calls.wide {f:FuncId} {args:Array Value} {i:Wd W} {v:Value} (h:Calls P f args i.w λe w'=>e=Za v/\Below i.w.heap.size i.w w'):Calls P f args i.w λe w''=>e=Za v/\∃j:Wd W,w''=j.w:=
 h.mono λ_ w' ⟨he,hb⟩=>⟨he,⟨w',i.b.trans (hb.mono i.b.size)⟩,rfl⟩
namespace Mk
structure Kept (g:Nat) (w w':World):Prop where
 os:w'.os=w.os
 tape:w'.tape=w.tape
 output:w'.output=w.output
 size:w.heap.size<=w'.heap.size
 block:∀k,k<w.heap.size->¬k=g->w'.heap[k]?=w.heap[k]?
end Mk
namespace Rc
inductive Fv where
 | s (b:ByteArray)
 | i (n:Int)
 | b (x:Bool)
 | l (zs:List ByteArray)
def Fv.val:Fv->Option Value
 | .s t=>Y5 (I t)
 | .i n=>Y5 (Y7 Y6 n)
 | .b x=>Y5 (Y9 x)
 | .l _=>U
def Fv.Is(w:World):Fv->Value->Prop
 | .s t,v=>v=I t/\t.size<=9223372036854775807
 | .i n,v=>v=Y7 Y6 n
 | .b x,v=>v=Y9 x
 | .l zs,v=> ∃a len cap,v=J a len cap/\az w a len cap zs
theorem Fv.Is.below {w:World} {f:Fv} {v:Value} (h:f.Is w v) (hb:Below w.heap.size w w'):f.Is w' v:=by
 cases f with
 | l zs=>obtain⟨a,len,cap,h1,h2⟩:=h;exact⟨a,len,cap,h1,h2.below hb⟩
 | _=>exact h
def RAt(w:World) (b o:Nat) (r:List Fv):Prop:=∀(i:Nat) f,r[i]?=Y5 f->∃v,w.cell? ⟨b,o+i,U⟩=Y5 v/\f.Is w v
theorem RAt.below {w:World} {b o:Nat} {r:List Fv} (h:RAt w b o r) (hl:b<w.heap.size) (hb:Below w.heap.size w w'):RAt w' b o r:=by
 intro i f hi;obtain⟨v,h1,h2⟩:=h i f hi;exact⟨v,(ai hb hl).trans h1,h2.below hb⟩
def aT(w:World) (a:Option Addr) (len cap m:Nat) (rs:List (List Fv)):Prop:=
 rs.length=len/\len<=cap/\cap<=9223372036854775807/\(rs=[]\/∃b o,a=Y5 ⟨b,o,U⟩/\b<w.heap.size/\∀(j:Nat) r,rs[j]?=Y5 r->RAt w b (o+j*m) r)
theorem aT.below {w:World} {len m:Nat} {rs:List (List Fv)} (h:aT w a len cap m rs) (hb:Below w.heap.size w w'):aT w' a len cap m rs:=by
 exact Qj
theorem aT.at {w:World} {len m:Nat} {rs:List (List Fv)} (h:aT w a len cap m rs) {j:Nat} (hj:j<len):
  ∃b o r,a=Y5 ⟨b,o,U⟩/\b<w.heap.size/\rs[j]?=Y5 r/\RAt w b (o+j*m) r:=by
 obtain⟨h1,h2,h3,h5⟩:=h;have hx:rs[j]?=Y5 (rs[j]'(by omega)):=Yi _;exact PD
structure aI (S:Nat->Prop) (w w':World):Prop where
 os:w'.os=w.os
 tape:w'.tape=w.tape
 output:w'.output=w.output
 size:w.heap.size<=w'.heap.size
 block:∀k,k<w.heap.size->¬S k->w'.heap[k]?=w.heap[k]?
theorem aI.refl(S:Nat->Prop) (w:World):aI S w w:=⟨rfl,rfl,rfl,Ye _,λ_ _ _=>rfl⟩
theorem aI.trans {a b c:World} (h:aI S a b) (k:aI S b c):aI S a c:=⟨k.os.trans h.os,k.tape.trans h.tape,k.output.trans h.output,Yp h.size k.size,λi hi hn=>(k.block i (Yj hi h.size) hn).trans (h.block i hi hn)⟩
theorem aI.dE {w:World} (k:Below w.heap.size w w'):aI S w w':=⟨k.os,k.tape,k.output,k.size,λi hi _=>k.block i hi⟩
theorem aI.set {w:World} {v:Value} (h:aI S w w') (h1:S g):aI S w (w'.setCell ⟨g,i,U⟩ v):=
 ⟨h.os,h.tape,h.output,by simpa[World.setCell] using h.size,λk hk hn=>(Ya _ _ _ _ (show k≠g from λe=>hn (e ▸ h1))).trans (h.block k hk hn)⟩
theorem aI.low {X:Nat} {w:World} (h:aI S w w') (hX:X<=w.heap.size) (hS:∀k,S k->X<=k):Below X w w':=⟨h.os,h.tape,h.output,h.size,λk hk=>h.block k (Yj hk hX) (λs=>by have:=hS k s;omega)⟩
def BJ(w:World) (h:Nat) (S:Nat->Prop) (g:Nat) (zs:List ByteArray) (v:Value):Prop:=
 ∃a len cap,v=J a len cap/\zs.length=len/\len<=cap/\cap<=9223372036854775807/\(∀(j:Nat) x,zs[j]?=Y5 x->x.size<=9223372036854775807)/\
  (zs=[]\/(a=Y5 ⟨h,0,U⟩/\S h/\¬h=g/\∃cu,w.heap[h]?=Y5 (Y8 cu 9 (0,0))/\∀(j:Nat) x,zs[j]?=Y5 x->cu[j]?=Y5 (I x)))
theorem BJ.row {w:World} {zs:List ByteArray} {len:Nat} (k:BJ w h S g zs (J a len cap)):az w a len cap zs:=by
 obtain⟨a',l',c',h1,h2,h3,h4,h5,h6⟩:=k;cases h1;refine⟨h2,h3,h4,h5,h6.imp id ?_⟩;rintro⟨q1,q2,q3,cu,q4,q5⟩;exact⟨h,0,q1,ae q4,λj x hx=>by rw[Yq,an q4];exact q5 j x hx⟩
def Fv.Own(w:World) (h:Nat) (S:Nat->Prop) (g:Nat):Fv->Value->Prop
 | .s t,v=>v=I t/\t.size<=9223372036854775807
 | .i n,v=>v=Y7 Y6 n
 | .b x,v=>v=Y9 x
 | .l zs,v=>BJ w h S g zs v
theorem Fv.Own.is {w:World} {f:Fv} {v:Value} (k:f.Own w h S g v):f.Is w v:=by
 cases f with
 | l zs=>
  obtain⟨a,len,cap,h1,h2⟩:=k;exact⟨a,len,cap,h1,BJ.row (h:=h) (S:=S) (g:=g) (h1 ▸ ⟨a,len,cap,h1,h2⟩)⟩
 | _=>exact k
structure er (w:World) (g m:Nat) (T:TypeId) (rs:List (List Fv)) (S:Nat->Prop) (cur:Array Value) (H:Nat->Nat->Nat):Prop where
 blk:w.heap[g]?=Y5 (Y8 cur T (0,0))
 inS:S g
 len:∀(j:Nat) r,rs[j]?=Y5 r->r.length=m
 cell:∀(j:Nat) r,rs[j]?=Y5 r->∀(i:Nat) f,r[i]?=Y5 f->∃v,cur[j*m+i]?=Y5 v/\f.Own w (H j i) S g v
 inj:∀(j:Nat) r (i:Nat) zs (j':Nat) r' (i':Nat) zs',rs[j]?=Y5 r->r[i]?=Y5 (.l zs)->zs≠[]->rs[j']?=Y5 r'->r'[i']?=Y5 (.l zs')->zs'≠[]->H j i=H j' i'->j=j'/\i=i'
def aw(w:World) (a:Option Addr) (len cap m:Nat) (T:TypeId) (rs:List (List Fv)) (S:Nat->Prop):Prop:=
 rs.length=len/\len<=cap/\cap<=9223372036854775807/\(rs=[]\/∃g cur H,a=Y5 ⟨g,0,U⟩/\er w g m T rs S cur H)
theorem er.ay {w:World} {m:Nat} {rs:List (List Fv)} (h:er w g m T rs S cur H) (hk:∀k,k<w.heap.size->S k->w'.heap[k]?=w.heap[k]?) (hs:∀k,k<w.heap.size->S k->S' k):er w' g m T rs S' cur H:=by
 refine⟨(hk g (ae h.blk) h.inS).trans h.blk,hs g (ae h.blk) h.inS,h.len,λj r hj i f hi=>?_,h.inj⟩;obtain⟨v,h1,h2⟩:=h.cell j r hj i f hi;refine⟨v,h1,?_⟩;cases f with
 | l zs=>
  obtain⟨a',l',c',h1,h2,h3,h4,h5,h6⟩:=h2;refine⟨a',l',c',h1,h2,h3,h4,h5,h6.imp id ?_⟩;rintro⟨q1,q2,q3,cu,q4,q5⟩;exact⟨q1,hs _ (ae q4) q2,q3,cu,(hk _ (ae q4) q2).trans q4,q5⟩
 | _=>exact h2
theorem aw.ay {w:World} {len m:Nat} {rs:List (List Fv)} (h:aw w a len cap m T rs S) (hk:∀k,k<w.heap.size->S k->w'.heap[k]?=w.heap[k]?) (hs:∀k,k<w.heap.size->S k->S' k):aw w' a len cap m T rs S':=by
 obtain⟨h1,h2,h3,h4⟩:=h;refine⟨h1,h2,h3,h4.imp id ?_⟩;rintro⟨g,cur,H,h5,h6⟩;exact⟨g,cur,H,h5,h6.ay hk hs⟩
theorem aw.below {w:World} {len m:Nat} {rs:List (List Fv)} (h:aw w a len cap m T rs S) (hb:Below w.heap.size w w'):aw w' a len cap m T rs S:=h.ay (λk hk _=>hb.block k hk) (λ_ _ s=>s)
theorem aw.bm {w:World} {len m:Nat} {rs:List (List Fv)} (h:aw w a len cap m T rs S) (hs:∀k,k<w.heap.size->S k->S' k):aw w a len cap m T rs S':=h.ay (λ_ _ _=>rfl) hs
theorem er.rat {w:World} {m:Nat} {rs:List (List Fv)} (h:er w g m T rs S cur H) {j:Nat} {r:List Fv} (hj:rs[j]?=Y5 r):RAt w g (j*m) r:=by
 intro i f hi;obtain⟨v,h1,h2⟩:=h.cell j r hj i f hi;exact⟨v,(an h.blk _).trans h1,h2.is⟩
theorem aw.row {w:World} {len m:Nat} {rs:List (List Fv)} (h:aw w a len cap m T rs S):aT w a len cap m rs:=by
 obtain⟨h1,h2,h3,h4⟩:=h;refine⟨h1,h2,h3,h4.imp id ?_⟩;rintro⟨g,cur,H,h5,h6⟩;exact⟨g,0,h5,ae h6.blk,λj r hj=>by rw[Yq];exact h6.rat hj⟩
theorem aw.nil {w:World} (a:Option Addr) (cap m:Nat) (T:TypeId) (S:Nat->Prop) (h:cap<=9223372036854775807):aw w a 0 cap m T [] S:=⟨rfl,YK _,h,Ze rfl⟩
theorem agB {m j' i':Nat} (hi:i<m) (hi':i'<m) (h:j*m+i=j'*m+i'):j=j'/\i=i':=by
 have hm:0<m:=af
 have e1:(j*m+i) / m=j:=by rw[Nat.mul_comm,Nat.mul_add_div hm,Nat.div_eq_of_lt hi];rfl
 have e2:(j'*m+i') / m=j':=by rw[Nat.mul_comm,Nat.mul_add_div hm,Nat.div_eq_of_lt hi'];rfl
 have:j=j':=by rw[<-e1,<-e2,h]
 subst this;exact⟨rfl,by omega⟩
theorem dW {rs:List α} {k:Nat} {r:α} (hj:j<rs.length):(rs.set j r)[k]?=if j=k then Y5 r else rs[k]?:=by
 rw[YZ];by_cases h:j=k
 ·subst h;simp[hj]
 ·simp[h]
section
variable {g m:Nat} {T:TypeId} {S N:Nat->Prop} {w wr w2:World} {rs:List (List Fv)} {j:Nat} {r:List Fv}
theorem eO(hlt:j<rs.length) {f:Fv} {i:Nat} (hil:i<r.length) {j':Nat} {r':List Fv} {i':Nat} {f':Fv} (hj':(rs.set j (r.set i f))[j']?=Y5 r') (hi':r'[i']?=Y5 f'):
  (j'=j/\i'=i/\f'=f)\/(¬(j'=j/\i'=i)/\∃r0,(rs.set j r)[j']?=Y5 r0/\r0[i']?=Y5 f'):=by
 rw[dW hlt] at hj' ⊢;split at hj'
 ·next e=>
  cases hj';rw[if_pos e];rw[YZ] at hi';split at hi'
  ·next e2=>
   try rw[if_pos hil] at hi'
   exact Ze ⟨e.symm,e2.symm,(Yd hi').symm⟩
  ·next e2=>exact Zd ⟨λq=>e2 q.2.symm,r,rfl,hi'⟩
 ·next e=>
  rw[if_neg e];exact Zd ⟨λq=>e q.1.symm,r',hj',hi'⟩
theorem Fv.Own.jm {k:Nat} {v:Value} {u:Fv} {z:Value} (hu:u.Own wr h S g z):u.Own (wr.setCell ⟨g,k,U⟩ v) h S g z:=by
 cases u with
 | l zs=>
  obtain⟨a',l',c',k1,k2,k3,k4,k5,k6⟩:=hu;refine⟨a',l',c',k1,k2,k3,k4,k5,k6.imp id ?_⟩;rintro⟨q1,q2,q3,cu,q4,q5⟩;exact⟨q1,q2,q3,cu,(Ya _ _ _ _ q3).trans q4,q5⟩
 | _=>exact hu
end
theorem rE {l:List α} {x:α} (h:l[i]?=Y5 x):l.set i x=l:=by
 apply List.ext_getElem?;intro k;rw[YZ];split
 ·next e=>
  subst e;rw[if_pos (Yc.1 h).1,h]
 ·rfl
end Rc
abbrev Fact:=Value->World->Prop
def Fact.cA(φ:Fact):Prop:=∀v w w',φ v w->Below w.heap.size w w'->φ v w'
theorem Fact.dd(c:Value):Fact.cA (λv _=>v=c):=λ_ _ _ h _=>h
def aj(a0:Act) (known:List (Tmp×Fact)) (a:Act) (w:World) (t:Tmp):Prop:=
 match known.lookup t with
 | some φ=>φ (a.tmps.getD t undef) w
 | none=>a.tmps.getD t undef=a0.tmps.getD t undef
def Obl(P:Program) (ops:Array Oper) (Q:Exit->Act->World->Prop) (W:World) (a0:Act) (known:List (Tmp×Fact)) (o:Oper) (φ:Fact):Prop:=
 ∀(a:Act) (w:World) (K:Act->World->Prop),a.tmps.size=a0.tmps.size->Below W.heap.size W w->(∀t∈o.looksAt ops,aj a0 known a w t)->
  (∀v w',Below w.heap.size w w'->φ v w'->K (a.put o.dst v) w')->if YP o (yielded ops a.tmps)=Zb then o.wp P a w K Q else K (a.put o.dst undef) w
def jV(o:Oper):List Tmp:=o.op.operands.toList.filterMap fun | .tmp t=>Y5 t|_=>U
theorem Obl.plain {known:List (Tmp×Fact)} {φ:Fact} (hg:o.guard=U)
  (h:∀(a:Act) (w:World) (K:Act->World->Prop),a.tmps.size=a0.tmps.size->Below W.heap.size W w->(∀t∈jV o,aj a0 known a w t)->(∀v w',Below w.heap.size w w'->φ v w'->K (a.put o.dst v) w')->o.wp P a w K Q):Obl P ops Q W a0 known o φ:=by
 intro a w K h1 h2 h3 h4;have hw:YP o (yielded ops a.tmps)=Zb:=by simp[YP,hg]
 exact PF
def jW(P:Program) (ops:Array Oper) (Q:Exit->Act->World->Prop) (back:Option Oper) (a:Act) (w:World):Prop:=
 match back with
 | none=>Q .normal a w
 | some o=> ∀K:Act->World->Prop,(∀a w,Q .normal a w->K a w)->if YP o (yielded ops a.tmps)=Zb then o.wp P a w K Q else K (a.put o.dst undef) w
def aM(a0:Act) (known:List (Tmp×Fact)) (x:Tmp->Value):Act:=known.foldr (λp b=>b.put (Y5 p.1) (x p.1)) a0
def Fin(P:Program) (ops:Array Oper) (Q:Exit->Act->World->Prop) (W:World) (a0:Act) (back:Option Oper) (known:List (Tmp×Fact)):Prop:=
 ∀(x:Tmp->Value) (w:World),Below W.heap.size W w->(∀p∈known,p.2 (x p.1) w)->jW P ops Q back (aM a0 known x) w
def kn(d:Option Tmp) (φ:Fact) (known:List (Tmp×Fact)):List (Tmp×Fact):=match d with|Y5 t=>(t,φ) ::known|U=>known
def Grow(P:Program) (ops:Array Oper) (Q:Exit->Act->World->Prop) (W:World) (a0:Act) (back:Option Oper):List Oper->List (Tmp×Fact)->Prop
 | [],known=>Fin P ops Q W a0 back known
 | o ::rest,known=> ∃φ:Fact,φ.cA/\Obl P ops Q W a0 known o φ/\Grow P ops Q W a0 back rest (kn o.dst φ known)
theorem Grow.step {known:List (Tmp×Fact)} {t:Tmp} (φ:Fact) (hd:o.dst=Y5 t) (hφ:φ.cA) (ho:Obl P ops Q W a0 known o φ)
  (h:Grow P ops Q W a0 back rest ((t,φ) ::known)):Grow P ops Q W a0 back (o ::rest) known:=⟨φ,hφ,ho,by rw[hd];exact h⟩
theorem Grow.stepC {known:List (Tmp×Fact)} {t:Tmp} (c:Value) (hd:o.dst=Y5 t) (ho:Obl P ops Q W a0 known o (λv _=>v=c))
  (h:Grow P ops Q W a0 back rest ((t,λv _=>v=c) ::known)):Grow P ops Q W a0 back (o ::rest) known:=Grow.step _ hd (Fact.dd c) ho h
theorem Grow.done {known:List (Tmp×Fact)} (h:Fin P ops Q W a0 back known):Grow P ops Q W a0 back [] known:=h
def growB(n:Nat) (front:List Oper) (back:Option Oper):Bool:=
 let ops:=(front++back.toList).toArray
 decide ((front.filterMap (·.dst)).Nodup) && front.all (λo=>match o.dst with|Y5 t=>decide (t<n)|U=>Zb) &&
 (YU front.length).all (λj=>match front[j]? with
  | some o=>(o.looksAt ops).all (λt=>(YU front.length).all λi=>match front[i]? with
    | some p=>p.dst !=Y5 t || (decide (i<j) && o.after.any λe=>e.on==i && YR .any e)
    | none=>Zb)
  | none=>Zb) &&
 (YU ops.size).all (λj=>match ops[j]? with|Y5 o=>o.after.all (λe=>decide (e.on<j))|U=>Zb) &&
 (match back with|Y5 o=>(YU front.length).all (λi=>o.after.any λe=>e.on==i && YR .any e)|U=>Zb)
section
variable {P:Program} {ops:Array Oper} {Q:Exit->Act->World->Prop} {W:World} {a0:Act} {back:Option Oper}
def knAll:List (Tmp×Fact)->List Oper->List Fact->List (Tmp×Fact)
 | known,o ::l,φ ::φs=>knAll (kn o.dst φ known) l φs
 | known,_,_=>known
theorem cL(known:List (Tmp×Fact)) (φs:List Fact):knAll known [] φs=known:=by cases φs <;> rfl
theorem Grow.spec:∀(l:List Oper) (known:List (Tmp×Fact)),Grow P ops Q W a0 back l known->∃φs:List Fact,φs.length=l.length/\
  (∀(i:Nat) (o:Oper) (φ:Fact),l[i]?=Y5 o->φs[i]?=Y5 φ->φ.cA/\Obl P ops Q W a0 (knAll known (l.take i) (φs.take i)) o φ)/\Fin P ops Q W a0 back (knAll known l φs)
 | [],known,h=>⟨[],rfl,λi o φ h=>by simp at h,by rw[cL];exact h⟩
 | o ::l,known,h=>by
  exact Ow
theorem kN(d:Option Tmp) (φ:Fact) (known:List (Tmp×Fact)) (t:Tmp):(kn d φ known).lookup t=if d=Y5 t then Y5 φ else known.lookup t:=by
 exact Qq
theorem cZ:∀(l:List Oper) (φs:List Fact) (known:List (Tmp×Fact)) {t:Tmp} {φ:Fact},(knAll known l φs).lookup t=Y5 φ->
  (∃(i:Nat) (o:Oper),l[i]?=Y5 o/\o.dst=Y5 t/\φs[i]?=Y5 φ)\/known.lookup t=Y5 φ
 | [],φs,known,t,φ,h=>by rw[cL] at h;exact Zd h
 | o ::l,[],known,t,φ,h=>Zd h
 | o ::l,ψ ::φs,known,t,φ,h=>by
  exact ahy
theorem c_:∀(l:List Oper) (φs:List Fact) (known:List (Tmp×Fact)) {t:Tmp},(knAll known l φs).lookup t=U->
  known.lookup t=U/\∀(i:Nat) (o:Oper) (φ:Fact),l[i]?=Y5 o->φs[i]?=Y5 φ->o.dst≠Y5 t
 | [],φs,known,t,h=>by rw[cL] at h;exact⟨h,λi o φ h=>by simp at h⟩
 | o ::l,[],known,t,h=>⟨h,λi o φ _ h=>by simp at h⟩
 | o ::l,ψ ::φs,known,t,h=>by
  exact ahJ
theorem dQ:∀(l:List Oper) (φs:List Fact) (known:List (Tmp×Fact)) {p:Tmp×Fact},p∈knAll known l φs->
  (∃(i:Nat) (o:Oper),l[i]?=Y5 o/\o.dst=Y5 p.1/\φs[i]?=Y5 p.2)\/p∈known
 | [],φs,known,p,h=>by rw[cL] at h;exact Zd h
 | o ::l,[],known,p,h=>Zd h
 | o ::l,ψ ::φs,known,p,h=>by
  exact ahG
theorem jZ(a:Act) (d t:Tmp) (v:Value):(a.put (Y5 d) v).tmps.getD t undef=if d=t/\t<a.tmps.size then v else a.tmps.getD t undef:=by
 simp only[Act.put,Yr,Array.getElem?_setIfInBounds];by_cases h:d=t
 ·subst h;by_cases h2:d<a.tmps.size
  ·simp[h2]
  ·simp[h2]
 ·simp[h]
theorem size_put(a:Act) (d:Option Tmp) (v:Value):(a.put d v).tmps.size=a.tmps.size:=by cases d <;> simp[Act.put]
theorem gj(a:Act) (d:Option Tmp) (v:Value):(a.put d v).defers=a.defers:=by cases d <;> simp[Act.put]
theorem dC(a0:Act) (x:Tmp->Value):∀known,(aM a0 known x).tmps.size=a0.tmps.size
 | []=>rfl
 | p ::l=>by unfold aM;rw[List.foldr_cons,size_put];exact dC a0 x l
theorem dD(a0:Act) (x:Tmp->Value):∀known,(aM a0 known x).defers=a0.defers
 | []=>rfl
 | p ::l=>by unfold aM;rw[List.foldr_cons,gj];exact dD a0 x l
theorem jS(a0 a:Act) (known:List (Tmp×Fact)) (hk:∀p∈known,p.1<a0.tmps.size) (t:Tmp) (h:(∀p∈known,p.1≠t)->a.tmps.getD t undef=a0.tmps.getD t undef):
  (aM a0 known (λt=>a.tmps.getD t undef)).tmps.getD t undef=a.tmps.getD t undef:=by
 exact ahR
theorem agM {a b:Act} (hs:a.tmps.size=b.tmps.size) (hd:a.defers=b.defers) (h:∀t,a.tmps.getD t undef=b.tmps.getD t undef):a=b:=by
 cases a with|mk at_ ad=>cases b with|mk bt bd=>
 simp only at hs hd h;subst hd;congr 1;apply Array.ext hs;intro i h1 h2;have:=h i;simpa[Array.getD,h1,h2] using this
theorem cU {l:Array Bool} (h:i<l.size):l.getD i Y_=l.getD i Zb:=by simp[Array.getD,h]
structure At (front:List Oper) (φs:List Fact) (W:World) (a0:Act) (listed:Array Bool) (a:Act) (w:World):Prop where
 size:a.tmps.size=a0.tmps.size
 defers:a.defers=a0.defers
 below:Below W.heap.size W w
 known:∀(i:Nat) (o:Oper) (φ:Fact),front[i]?=Y5 o->φs[i]?=Y5 φ->∀t,o.dst=Y5 t->listed.getD i Y_=Zb->φ (a.tmps.getD t undef) w
 other:∀t,(∀(i:Nat) (o:Oper),front[i]?=Y5 o->o.dst=Y5 t->listed.getD i Y_=Y_)->a.tmps.getD t undef=a0.tmps.getD t undef
theorem fG:∀(l:List Oper),(l.filterMap (·.dst)).Nodup->∀{i j:Nat} {o p:Oper} {t:Tmp},l[i]?=Y5 o->l[j]?=Y5 p->o.dst=Y5 t->p.dst=Y5 t->i=j
 | [],_,i,j,o,p,t,h,_,_,_=>by simp at h
 | q ::l,hn,i,j,o,p,t,h1,h2,h3,h4=>by
  have hmem:∀{k:Nat} {r:Oper},l[k]?=Y5 r->r.dst=Y5 t->t∈l.filterMap (·.dst):=λh h'=>List.mem_filterMap.2 ⟨_,Ys h,h'⟩;have hn':(l.filterMap (·.dst)).Nodup:=by
   rw[List.filterMap_cons] at hn;split at hn
   ·exact hn
   ·exact (List.nodup_cons.1 hn).2
  cases i with
  | zero=>
   simp only[List.getElem?_cons_zero,Option.some.injEq] at h1;subst h1
   cases j with
   | zero=>rfl
   | succ j=>
    simp only[List.getElem?_cons_succ] at h2;rw[List.filterMap_cons,h3] at hn;exact absurd (hmem h2 h4) (List.nodup_cons.1 hn).1
  | succ i=>
   simp only[List.getElem?_cons_succ] at h1
   cases j with
   | zero=>
    simp only[List.getElem?_cons_zero,Option.some.injEq] at h2;subst h2;rw[List.filterMap_cons,h4] at hn;exact absurd (hmem h1 h3) (List.nodup_cons.1 hn).1
   | succ j=>
    simp only[List.getElem?_cons_succ] at h2;rw[fG l hn' h1 h2 h3 h4]
theorem At.step {φs:List Fact} {a:Act} {w:World} {φ:Fact} {v:Value} (h:At front φs W a0 listed a w)
  (hn:(front.filterMap (·.dst)).Nodup) (hin:∀o∈front,∀t,o.dst=Y5 t->t<a0.tmps.size) (hmono:∀(i:Nat) (o:Oper) (φ:Fact),front[i]?=Y5 o->φs[i]?=Y5 φ->φ.cA)
  (ho:front[j]?=Y5 o) (hφ:φs[j]?=Y5 φ) (hj:j<listed.size) (hb:Below w.heap.size w w') (hv:φ v w'):At front φs W a0 (listed.setIfInBounds j Zb) (a.put o.dst v) w':=by
 refine⟨(size_put _ _ _).trans h.size,(gj _ _ _).trans h.defers,h.below.trans (hb.mono h.below.size),?_,?_⟩
 ·intro i p ψ hp hψ t ht hl;by_cases e:j=i
  ·subst e;obtain rfl:o=p:=Yd (ho.symm.trans hp);obtain rfl:φ=ψ:=Yd (hφ.symm.trans hψ);exact Py
  ·have hl':listed.getD i Y_=Zb:=by
    simpa[Yr,Array.getElem?_setIfInBounds,e] using hl
   have h1:=hmono i p ψ hp hψ _ _ _ (h.known i p ψ hp hψ t ht hl') hb;cases hd:o.dst with
   | none=>exact h1
   | some d=>
    rw[jZ,if_neg (λhx=>e (fG front hn ho hp (hd.trans (by rw[hx.1])) ht))];exact h1
 ·exact ahO
theorem gf {n:Nat} (h:growB n front back=Zb):
  (front.filterMap (·.dst)).Nodup/\(∀o∈front,∀t,o.dst=Y5 t->t<n)/\
  (∀(j:Nat) (o:Oper),front[j]?=Y5 o->∀t∈o.looksAt (front++back.toList).toArray,∀(i:Nat) (p:Oper),front[i]?=Y5 p->p.dst=Y5 t->i<j/\∃e∈o.after,e.on=i/\YR .any e=Zb)/\
  (∀(j:Nat) o,(front++back.toList).toArray[j]?=Y5 o->∀e∈o.after,e.on<j)/\
  (∀o,back=Y5 o->∀i,i<front.length->∃e∈o.after,e.on=i/\YR .any e=Zb):=by
 unfold growB at h;simp only[YG,decide_eq_true_eq] at h;obtain⟨⟨⟨⟨h1,h2⟩,h3⟩,h4⟩,h5⟩:=h;refine⟨h1,?_,?_,?_,?_⟩
 ·intro o ho t ht;have:=List.all_eq_true.1 h2 o ho;rw[ht] at this;simpa using this
 ·exact ahU
 ·exact QH
 ·intro o ho i hi;subst ho;have:=List.all_eq_true.1 h5 i (List.mem_range.2 hi);obtain⟨k,hk,hx⟩:=Array.any_eq_true.1 this;simp only[YG,beq_iff_eq] at hx;exact⟨_,Array.getElem_mem hk,hx.1,hx.2⟩
theorem gB(hs:listed.size=ops.size) (hlt:∀(j:Nat) o,ops[j]?=Y5 o->∀e∈o.after,e.on<j) (hr:YQ .any ops listed=[]):∀i,i<ops.size->listed.getD i Y_=Zb:=by
 intro i;induction i using Nat.strongRecOn with
 | _ i ih=>
  intro hi
  cases hb:listed.getD i Y_ with
  | true=>rfl
  | false=>
   have ho:ops[i]?=Y5 ops[i]:=Array.getElem?_eq_getElem hi;have hm:i∈YQ .any ops listed:=mem_ready.2 ⟨by rw[<-cU af];exact hb,_,ho,λe he _=>ih e.on (hlt i _ ho e he) (Nat.lt_trans (hlt i _ ho e he) hi)⟩;rw[hr] at hm
   cases hm
theorem hJ(h:listed.toList.count Y_=0) (i:Nat) (hi:i<listed.size):listed.getD i Y_=Zb:=by
 have hm:listed[i]∈listed.toList:=aG
 cases hb:listed[i] with
 | true=>simp[Array.getD,hi,hb]
 | false=>
  rw[hb] at hm;exact absurd (List.count_pos_iff.2 hm) af
theorem count_set(hi:i<listed.size) (hf:listed.getD i Zb=Y_):(listed.setIfInBounds i Zb).toList.count Y_+1=listed.toList.count Y_:=by
 have hb:listed[i]=Y_:=by simpa[Array.getD,hi] using hf
 have hm:Y_∈listed.toList:=by rw[<-hb];simp
 have hp:=List.count_pos_iff.2 hm;rw[Array.toList_setIfInBounds,List.count_set (by simpa using hi)];rw[Array.getElem_toList,hb];simp only[beq_self_eq_true,if_true,show (Zb==Y_)=Y_ from rfl,Bool.false_eq_true,if_false];omega
theorem Fin.last {φs:List Fact} {a:Act} {w:World} (hf:Fin P ops Q W a0 back (knAll [] front φs)) (hlen:φs.length=front.length) (hin:∀o∈front,∀t,o.dst=Y5 t->t<a0.tmps.size)
  (h:At front φs W a0 listed a w) (hall:∀i,i<front.length->listed.getD i Y_=Zb):jW P ops Q back a w:=by
 have h1:=hf (λt=>a.tmps.getD t undef) w h.below (λp hp=>by
  rcases dQ front φs [] hp with ⟨i,o,h1,h2,h3⟩|h1
  ·exact h.known i o p.2 h1 h3 p.1 h2 (hall i (Yc.1 h1).1)
  ·simp at h1)
 exact ah1
theorem du {φs:List Fact} (hops:ops=(front++back.toList).toArray) (hB:growB a0.tmps.size front back=Zb) (hlen:φs.length=front.length)
  (hs:∀(i:Nat) (o:Oper) (φ:Fact),front[i]?=Y5 o->φs[i]?=Y5 φ->φ.cA/\Obl P ops Q W a0 (knAll [] (front.take i) (φs.take i)) o φ) (hf:Fin P ops Q W a0 back (knAll [] front φs)):
  ∀(fuel:Nat) (listed:Array Bool) (a:Act) (w:World),listed.size=ops.size->listed.toList.count Y_<=fuel->(∀o,back=Y5 o->listed.getD front.length Y_=Y_)->At front φs W a0 listed a w->wpAny P .any ops Q fuel listed a w:=by
 have z382z:=@aa _ @acv;exact p_
end
theorem bI(n i:Nat):(Array.replicate n Y_).getD i Y_=Y_:=by
 rw[Yr,Array.getElem?_replicate];split <;> rfl
theorem ct(hm:P.follows .mixedOrders=Zb) (hl:l=front++back.toList) (hB:growB a0.tmps.size front back=Zb)
  (h:Grow P l.toArray Q W a0 back front []):(Code.region id l.toArray Zb).wp P Q a0 W:=by
 obtain⟨φs,hlen,hs,hf⟩:=Grow.spec _ _ h;refine wp_region_any hm (du (by rw[hl]) hB hlen hs hf _ _ _ _ aG ?_ (λo ho=>?_) ⟨rfl,rfl,(Yh _ _).drew,λi o φ h1 h2 t ht hx=>?_,λt _=>rfl⟩)
 ·exact qA
 ·exact bI _ _
 ·rw[bI] at hx;cases hx
theorem bF {last:Oper} (hm:P.follows .mixedOrders=Zb) (hf:l.dropLast=front) (hb:l.getLast?=Y5 last) (hB:growB a0.tmps.size front (Y5 last)=Zb)
  (h:Grow P l.toArray Q W a0 (Y5 last) front []):(Code.region id l.toArray Zb).wp P Q a0 W:=by
 refine ct hm ?_ hB h;exact wH
structure Vd where
 n:ByteArray
 c:Int
 z:ByteArray
 k:ByteArray
 x:Bool
 m:ByteArray
 y:Bool
 zs:List ByteArray
namespace Rc
structure Nd where
 n:ByteArray
 z:ByteArray
 c:Int
 s:Int
 u:Int
 d:Bool
 zs:List ByteArray
def ndF(x:Nd):List Fv:=[.s x.n,.s x.z,.i x.c,.i x.s,.i x.u,.b x.d,.l x.zs]
theorem bg {w:World} {b o:Nat} {x:Nd} (h:RAt w b o (ndF x)):∃a len cap,az w a len cap x.zs/\x.n.size<=9223372036854775807/\x.z.size<=9223372036854775807/\w.cell? ⟨b,o,U⟩=Y5 (I x.n)/\w.cell? ⟨b,o+1,U⟩=Y5 (I x.z)/\w.cell? ⟨b,o+2,U⟩=Y5 (Y7 Y6 x.c)/\w.cell? ⟨b,o+3,U⟩=Y5 (Y7 Y6 x.s)/\w.cell? ⟨b,o+4,U⟩=Y5 (Y7 Y6 x.u)/\w.cell? ⟨b,o+5,U⟩=Y5 (Y9 x.d)/\w.cell? ⟨b,o+6,U⟩=Y5 (J a len cap):=by
 obtain⟨v0,h0,rfl,z0⟩:=h 0 _ rfl;obtain⟨v1,h1,rfl,z1⟩:=h 1 _ rfl;obtain⟨v2,h2,rfl⟩:=h 2 _ rfl;obtain⟨v3,h3,rfl⟩:=h 3 _ rfl;obtain⟨v4,h4,rfl⟩:=h 4 _ rfl;obtain⟨v5,h5,rfl⟩:=h 5 _ rfl;obtain⟨v6,h6,a,len,cap,rfl,hr⟩:=h 6 _ rfl;exact⟨a,len,cap,hr,z0,z1,h0,h1,h2,h3,h4,h5,h6⟩
theorem dh {w:World} {len:Nat} {xs:List Nd} (h:aT w a len cap 7 (xs.map ndF)) {j:Nat} (hj:j<len):
  ∃b o x,a=Y5 ⟨b,o,U⟩/\b<w.heap.size/\xs[j]?=Y5 x/\RAt w b (o+j*7) (ndF x):=by
 exact oV
structure Kd where
 n:ByteArray
 x:Bool
 y:Bool
 z:ByteArray
def kdF(x:Kd):List Fv:=[.s x.n,.b x.x,.b x.y,.s x.z]
theorem da {w:World} {b o:Nat} {x:Kd} (h:RAt w b o (kdF x)):x.n.size<=9223372036854775807/\x.z.size<=9223372036854775807/\w.cell? ⟨b,o,U⟩=Y5 (I x.n)/\w.cell? ⟨b,o+1,U⟩=Y5 (Y9 x.x)/\w.cell? ⟨b,o+2,U⟩=Y5 (Y9 x.y)/\w.cell? ⟨b,o+3,U⟩=Y5 (I x.z):=by
 obtain⟨v0,h0,rfl,z0⟩:=h 0 _ rfl;obtain⟨v1,h1,rfl⟩:=h 1 _ rfl;obtain⟨v2,h2,rfl⟩:=h 2 _ rfl;obtain⟨v3,h3,rfl,z3⟩:=h 3 _ rfl;exact⟨z0,z3,h0,h1,h2,h3⟩
theorem gH {w:World} {len:Nat} {xs:List Kd} (h:aT w a len cap 4 (xs.map kdF)) {j:Nat} (hj:j<len):
  ∃b o x,a=Y5 ⟨b,o,U⟩/\b<w.heap.size/\xs[j]?=Y5 x/\RAt w b (o+j*4) (kdF x):=by
 exact oV
def vdF(x:Vd):List Fv:=[.s x.n,.i x.c,.s x.z,.s x.k,.b x.x,.s x.m,.b x.y,.l x.zs]
theorem aW {w:World} {b o:Nat} {x:Vd} (h:RAt w b o (vdF x)):∃a len cap,az w a len cap x.zs/\x.n.size<=9223372036854775807/\x.z.size<=9223372036854775807/\x.k.size<=9223372036854775807/\x.m.size<=9223372036854775807/\w.cell? ⟨b,o,U⟩=Y5 (I x.n)/\w.cell? ⟨b,o+1,U⟩=Y5 (Y7 Y6 x.c)/\w.cell? ⟨b,o+2,U⟩=Y5 (I x.z)/\w.cell? ⟨b,o+3,U⟩=Y5 (I x.k)/\w.cell? ⟨b,o+4,U⟩=Y5 (Y9 x.x)/\w.cell? ⟨b,o+5,U⟩=Y5 (I x.m)/\w.cell? ⟨b,o+6,U⟩=Y5 (Y9 x.y)/\w.cell? ⟨b,o+7,U⟩=Y5 (J a len cap):=by
 have z433z:=@aa _ @abU;exact pX
theorem bK {w:World} {len:Nat} {xs:List Vd} (h:aT w a len cap 8 (xs.map vdF)) {j:Nat} (hj:j<len):
  ∃b o x,a=Y5 ⟨b,o,U⟩/\b<w.heap.size/\xs[j]?=Y5 x/\RAt w b (o+j*8) (vdF x):=by
 exact oV
structure Xd where
 n:ByteArray
 z:Int
 k:ByteArray
 x:Bool
 v:ByteArray
def xdF(x:Xd):List Fv:=[.s x.n,.i x.z,.s x.k,.b x.x,.s x.v]
theorem bQ {w:World} {b o:Nat} {x:Xd} (h:RAt w b o (xdF x)):x.n.size<=9223372036854775807/\x.k.size<=9223372036854775807/\x.v.size<=9223372036854775807/\w.cell? ⟨b,o,U⟩=Y5 (I x.n)/\w.cell? ⟨b,o+1,U⟩=Y5 (Y7 Y6 x.z)/\w.cell? ⟨b,o+2,U⟩=Y5 (I x.k)/\w.cell? ⟨b,o+3,U⟩=Y5 (Y9 x.x)/\w.cell? ⟨b,o+4,U⟩=Y5 (I x.v):=by
 have z433z:=@aa _ @abT;exact pX
theorem dL {w:World} {len:Nat} {xs:List Xd} (h:aT w a len cap 5 (xs.map xdF)) {j:Nat} (hj:j<len):
  ∃b o x,a=Y5 ⟨b,o,U⟩/\b<w.heap.size/\xs[j]?=Y5 x/\RAt w b (o+j*5) (xdF x):=by
 exact oV
structure Pd where
 n:ByteArray
 c:Int
 z:ByteArray
 zs:List ByteArray
 d:ByteArray
 p:Int
def pdF(x:Pd):List Fv:=[.s x.n,.i x.c,.s x.z,.l x.zs,.s x.d,.i x.p]
theorem bH {w:World} {b o:Nat} {x:Pd} (h:RAt w b o (pdF x)):∃a len cap,az w a len cap x.zs/\x.n.size<=9223372036854775807/\x.z.size<=9223372036854775807/\x.d.size<=9223372036854775807/\w.cell? ⟨b,o,U⟩=Y5 (I x.n)/\w.cell? ⟨b,o+1,U⟩=Y5 (Y7 Y6 x.c)/\w.cell? ⟨b,o+2,U⟩=Y5 (I x.z)/\w.cell? ⟨b,o+3,U⟩=Y5 (J a len cap)/\w.cell? ⟨b,o+4,U⟩=Y5 (I x.d)/\w.cell? ⟨b,o+5,U⟩=Y5 (Y7 Y6 x.p):=by
 have z433z:=@aa _ @abS;exact pX
theorem cg {w:World} {len:Nat} {xs:List Pd} (h:aT w a len cap 6 (xs.map pdF)) {j:Nat} (hj:j<len):
  ∃b o x,a=Y5 ⟨b,o,U⟩/\b<w.heap.size/\xs[j]?=Y5 x/\RAt w b (o+j*6) (pdF x):=by
 exact oV
structure Cl where
 ns:List Nd
 ks:List Kd
 vs:List Vd
 xs:List Xd
 ps:List Pd
 now:Int
structure Cr where
 n:List (List Fv)
 k:List (List Fv)
 v:List (List Fv)
 x:List (List Fv)
 p:List (List Fv)
def Cl.raw(c:Cl):Cr:=⟨c.ns.map ndF,c.ks.map kdF,c.vs.map vdF,c.xs.map xdF,c.ps.map pdF⟩
structure Ad where
 a1:Option Addr
 l1:Nat
 c1:Nat
 a2:Option Addr
 l2:Nat
 c2:Nat
 a3:Option Addr
 l3:Nat
 c3:Nat
 a4:Option Addr
 l4:Nat
 c4:Nat
 a5:Option Addr
 l5:Nat
 c5:Nat
@[reducible] def clv (d:Ad) (n:Int):Array Value:=#[J d.a1 d.l1 d.c1,J d.a2 d.l2 d.c2,J d.a3 d.l3 d.c3,J d.a4 d.l4 d.c4,J d.a5 d.l5 d.c5,Y7 Y6 n]
@[reducible] def clo6 (a1:Option Addr) (l1 y1:Nat) (a2:Option Addr) (l2 y2:Nat) (a3:Option Addr) (l3 y3:Nat) (a4:Option Addr) (l4 y4:Nat) (a5:Option Addr) (l5 y5:Nat) (n:Int):Array Value:=#[J a1 l1 y1,J a2 l2 y2,J a3 l3 y3,J a4 l4 y4,J a5 l5 y5,Y7 Y6 n]
@[reducible] def trv (d:Ad) (c:Cl) (p:Pd) (n:Nd) (pa:Option Addr) (pl pc:Nat) (na:Option Addr) (nl nc:Nat):Array Value:=#[J d.a1 d.l1 d.c1,J d.a2 d.l2 d.c2,J d.a3 d.l3 d.c3,J d.a4 d.l4 d.c4,J d.a5 d.l5 d.c5,Y7 Y6 c.now,I p.n,Y7 Y6 p.c,I p.z,J pa pl pc,I p.d,Y7 Y6 p.p,I n.n,I n.z,Y7 Y6 n.c,Y7 Y6 n.s,Y7 Y6 n.u,Y9 n.d,J na nl nc]
@[reducible] def vov (v:Vd) (a:Option Addr) (l k:Nat):Array Value:=#[I v.n,Y7 Y6 v.c,I v.z,I v.k,Y9 v.x,I v.m,Y9 v.y,J a l k]
@[reducible] def pov (p:Pd) (a:Option Addr) (l k:Nat):Array Value:=#[I p.n,Y7 Y6 p.c,I p.z,J a l k,I p.d,Y7 Y6 p.p]
@[reducible] def nov (n:Nd) (a:Option Addr) (l k:Nat):Array Value:=#[I n.n,I n.z,Y7 Y6 n.c,Y7 Y6 n.s,Y7 Y6 n.u,Y9 n.d,J a l k]
@[reducible] def xov (x:Xd):Array Value:=#[I x.n,Y7 Y6 x.z,I x.k,Y9 x.x,I x.v]
structure aB (w:World) (d:Ad) (c:Cr):Prop where
 n:aT w d.a1 d.l1 d.c1 7 c.n
 k:aT w d.a2 d.l2 d.c2 4 c.k
 v:aT w d.a3 d.l3 d.c3 8 c.v
 x:aT w d.a4 d.l4 d.c4 5 c.x
 p:aT w d.a5 d.l5 d.c5 6 c.p
theorem aB.below {w:World} {d:Ad} {c:Cr} (h:aB w d c) (hb:Below w.heap.size w w'):aB w' d c:=⟨h.n.below hb,h.k.below hb,h.v.below hb,h.x.below hb,h.p.below hb⟩
structure dk (w:World) (d:Ad) (c:Cr) (S:Nat->Prop) (P:Nat->Nat):Prop where
 n:aw w d.a1 d.l1 d.c1 7 83 c.n (λk=>S k/\P k=1)
 k:aw w d.a2 d.l2 d.c2 4 74 c.k (λk=>S k/\P k=2)
 v:aw w d.a3 d.l3 d.c3 8 38 c.v (λk=>S k/\P k=3)
 x:aw w d.a4 d.l4 d.c4 5 50 c.x (λk=>S k/\P k=4)
 p:aw w d.a5 d.l5 d.c5 6 40 c.p (λk=>S k/\P k=5)
def dK(w:World) (d:Ad) (c:Cr) (S:Nat->Prop):Prop:=∃P,dk w d c S P
theorem dk.row {w:World} {d:Ad} {c:Cr} {P:Nat->Nat} (h:dk w d c S P):aB w d c:=⟨h.n.row,h.k.row,h.v.row,h.x.row,h.p.row⟩
theorem dK.row {w:World} {d:Ad} {c:Cr} (h:dK w d c S):aB w d c:=by obtain⟨P,h⟩:=h;exact h.row
theorem Ra:(Tryz.prog.info? 83).map (λi=>(i.zero,i.size,i.bytes))=Y5 (Y5 (Zc #[I ⟨#[]⟩,I ⟨#[]⟩,Y7 Y6 0,Y7 Y6 0,Y7 Y6 0,Y9 Y_,J U 0 0]),7,88):=by kernel_rfl
theorem Rb:(Tryz.prog.info? 74).map (λi=>(i.zero,i.size,i.bytes))=Y5 (Y5 (Zc #[I ⟨#[]⟩,Y9 Y_,Y9 Y_,I ⟨#[]⟩]),4,40):=by kernel_rfl
theorem iY:(Tryz.prog.info? 38).map (λi=>(i.zero,i.size,i.bytes))=Y5 (Y5 (Zc #[I ⟨#[]⟩,Y7 Y6 0,I ⟨#[]⟩,I ⟨#[]⟩,Y9 Y_,I ⟨#[]⟩,Y9 Y_,J U 0 0]),8,112):=by kernel_rfl
theorem nL:(Tryz.prog.info? 50).map (λi=>(i.zero,i.size,i.bytes))=Y5 (Y5 (Zc #[I ⟨#[]⟩,Y7 Y6 0,I ⟨#[]⟩,Y9 Y_,I ⟨#[]⟩]),5,64):=by kernel_rfl
theorem nM:(Tryz.prog.info? 40).map (λi=>(i.zero,i.size,i.bytes))=Y5 (Y5 (Zc #[I ⟨#[]⟩,Y7 Y6 0,I ⟨#[]⟩,J U 0 0,I ⟨#[]⟩,Y7 Y6 0]),6,88):=by kernel_rfl
structure ant (c:Cl):Prop where
 l1:c.ns.length<=1048576
 f1:∀(j:Nat) x,c.ns[j]?=Y5 x->x.zs.length<=1048576
 l2:c.ks.length<=1048576
 l3:c.vs.length<=1048576
 f3:∀(j:Nat) x,c.vs[j]?=Y5 x->x.zs.length<=1048576
 l4:c.xs.length<=1048576
 l5:c.ps.length<=1048576
 f5:∀(j:Nat) x,c.ps[j]?=Y5 x->x.zs.length<=1048576
def LFr(w:World) (h:Nat) (S:Nat->Prop) (zs:List ByteArray) (v:Value):Prop:=
 ∃a len cap,v=J a len cap/\zs.length=len/\len<=cap/\cap<=9223372036854775807/\(∀(j:Nat) x,zs[j]?=Y5 x->x.size<=9223372036854775807)/\
  (zs=[]\/(a=Y5 ⟨h,0,U⟩/\S h/\∃cu,w.heap[h]?=Y5 (Y8 cu 9 (0,0))/\∀(j:Nat) x,zs[j]?=Y5 x->cu[j]?=Y5 (I x)))
theorem LFr.ay {w:World} {zs:List ByteArray} {v:Value} (k:LFr w h S zs v) (hk:∀cu,S h->w.heap[h]?=Y5 (Y8 cu 9 (0,0))->w'.heap[h]?=w.heap[h]?) (hs:h<w.heap.size->S h->S' h):LFr w' h S' zs v:=by
 obtain⟨a',l',c',h1,h2,h3,h4,h5,h6⟩:=k;refine⟨a',l',c',h1,h2,h3,h4,h5,h6.imp id ?_⟩;rintro⟨q1,q2,cu,q4,q5⟩;exact⟨q1,hs (ae q4) q2,cu,(hk cu q2 q4).trans q4,q5⟩
def Fv.Fr(w:World) (h:Nat) (S:Nat->Prop):Fv->Value->Prop
 | .s t,v=>v=I t/\t.size<=9223372036854775807
 | .i n,v=>v=Y7 Y6 n
 | .b x,v=>v=Y9 x
 | .l zs,v=>LFr w h S zs v
theorem Fv.Fr.ay {w:World} {f:Fv} {v:Value} (k:f.Fr w h S v) (hk:∀cu,S h->w.heap[h]?=Y5 (Y8 cu 9 (0,0))->w'.heap[h]?=w.heap[h]?) (hs:h<w.heap.size->S h->S' h):f.Fr w' h S' v:=by
 cases f with
 | l zs=>exact LFr.ay k hk hs
 | _=>exact k
theorem Fv.Fr.own {w:World} {f:Fv} {v:Value} (k:f.Fr w h S v) (hg:w.heap[g]?=Y5 (Y8 cur T (0,0))) (hT:¬T=9):f.Own w h S g v:=by
 cases f with
 | l zs=>
  obtain⟨a',l',c',h1,h2,h3,h4,h5,h6⟩:=k;refine⟨a',l',c',h1,h2,h3,h4,h5,h6.imp id ?_⟩;rintro⟨q1,q2,cu,q4,q5⟩;refine⟨q1,q2,?_,cu,q4,q5⟩;rintro rfl;rw[hg] at q4
  cases q4
  exact hT rfl
 | _=>exact k
theorem Fv.Own.fr {w:World} {f:Fv} {v:Value} (k:f.Own w h S g v):f.Fr w h S v:=by
 cases f with
 | l zs=>
  obtain⟨a',l',c',h1,h2,h3,h4,h5,h6⟩:=k;refine⟨a',l',c',h1,h2,h3,h4,h5,h6.imp id ?_⟩;rintro⟨q1,q2,q3,cu,q4,q5⟩;exact⟨q1,q2,cu,q4,q5⟩
 | _=>exact k
theorem Fv.Fr.one {w:World} {f:Fv} {v:Value} (k:f.Fr w h S v):v.oneCell'=Zb:=by
 cases f with
 | l zs=>obtain⟨a',l',c',rfl,_⟩:=k;rfl
 | s t=>obtain⟨rfl,_⟩:=k;rfl
 | i n=>cases (show v=Y7 Y6 n from k);rfl
 | b x=>cases (show v=Y9 x from k);rfl
structure aQ (w:World) (S:Nat->Prop) (m:Nat) (rs:List (List Fv)) (vss:List (List Value)) (H:Nat->Nat->Nat):Prop where
 len:vss.length=rs.length
 all:∀(j:Nat) vs,vss[j]?=Y5 vs->vs.length=m
 rl:∀(j:Nat) r,rs[j]?=Y5 r->r.length=m
 cell:∀(j:Nat) r vs,rs[j]?=Y5 r->vss[j]?=Y5 vs->∀(i:Nat) f,r[i]?=Y5 f->∃v,vs[i]?=Y5 v/\f.Fr w (H j i) S v
 inj:∀(j:Nat) r (i:Nat) zs (j':Nat) r' (i':Nat) zs',rs[j]?=Y5 r->r[i]?=Y5 (.l zs)->zs≠[]->rs[j']?=Y5 r'->r'[i']?=Y5 (.l zs')->zs'≠[]->H j i=H j' i'->j=j'/\i=i'
section
variable {w w':World} {S S':Nat->Prop} {m:Nat} {rs:List (List Fv)} {vss:List (List Value)} {H:Nat->Nat->Nat}
theorem aQ.nil(w:World) (S:Nat->Prop) (m:Nat) (H:Nat->Nat->Nat):aQ w S m [] [] H:=⟨rfl,λj vs h=>by simp at h,λj r h=>by simp at h,λj r vs h=>by simp at h,λj r i zs j' r' i' zs' h=>by simp at h⟩
theorem aQ.ay(h:aQ w S m rs vss H) (hk:∀k cu,S k->w.heap[k]?=Y5 (Y8 cu 9 (0,0))->w'.heap[k]?=w.heap[k]?) (hs:∀k,k<w.heap.size->S k->S' k):aQ w' S' m rs vss H:=
 ⟨h.len,h.all,h.rl,λj r vs h1 h2 i f h3=>by
  obtain⟨v,h4,h5⟩:=h.cell j r vs h1 h2 i f h3;exact⟨v,h4,h5.ay (hk _) (hs _)⟩,h.inj⟩
theorem aQ.below(h:aQ w S m rs vss H) (hb:Below w.heap.size w w'):aQ w' S m rs vss H:=h.ay (λk _ _ q=>hb.block k (ae q)) (λ_ _ s=>s)
theorem aQ.grown(h:aQ w S m rs vss H) {base n:Nat} {T:TypeId} {v:Value} {xs:List Value} (ho:w.ownsRow base T m v n xs) (hT:¬T=9) (hg:w.grownBy w' v.ownBlock):aQ w' S m rs vss H:=by
 refine h.ay (λk cu _ q=>hg.block k (ae q) (λe=>?_)) (λ_ _ s=>s);rcases ho.2 with ⟨rfl,_⟩|⟨g,cap,cur,rfl,_,hgg,_⟩
 ·cases e
 ·cases e;simp only[] at q;rw[hgg] at q;cases q;exact hT rfl
theorem aQ.lt(h:aQ w S m rs vss H) {j:Nat} {r:List Fv} {i:Nat} {zs:List ByteArray} (h1:rs[j]?=Y5 r) (h2:r[i]?=Y5 (.l zs)) (h3:zs≠[]):H j i<w.heap.size:=by
 have hj:j<vss.length:=by rw[h.len];exact (Yc.1 h1).1
 obtain⟨v,_,a,len,cap,_,_,_,_,_,h9⟩:=h.cell j r _ h1 (Yi hj) i _ h2;rcases h9 with h9|⟨_,_,cu,q4,_⟩
 ·exact absurd h9 h3
 ·exact ae q4
theorem aQ.sel(h:aQ w S m rs vss H) {rs':List (List Fv)} {vss':List (List Value)} (f:Nat->Nat) (hl:vss'.length=rs'.length) (hr:∀j,j<rs'.length->rs'[j]?=rs[f j]?) (hv:∀j,j<rs'.length->vss'[j]?=vss[f j]?)
  (hf:∀j j',j<rs'.length->j'<rs'.length->f j=f j'->j=j'):aQ w S m rs' vss' (λj=>H (f j)):=by
 have lt1:∀{j:Nat} {r},rs'[j]?=Y5 r->j<rs'.length:=λh=>(Yc.1 h).1;have lt2:∀{j:Nat} {r},vss'[j]?=Y5 r->j<rs'.length:=λh=>by rw[<-hl];exact (Yc.1 h).1
 refine⟨hl,λj vs h1=>h.all (f j) vs (by rw[<-hv j (lt2 h1)];exact h1),λj r h1=>h.rl (f j) r (by rw[<-hr j (lt1 h1)];exact h1),λj r vs h1 h2=>h.cell (f j) r vs (by rw[<-hr j (lt1 h1)];exact h1) (by rw[<-hv j (lt1 h1)];exact h2),?_⟩;intro j r i zs j' r' i' zs' h1 h2 h3 h4 h5 h6 h7;obtain⟨e1,e2⟩:=h.inj (f j) r i zs (f j') r' i' zs' (by rw[<-hr j (lt1 h1)];exact h1) h2 h3 (by rw[<-hr j' (lt1 h4)];exact h4) h5 h6 h7;exact⟨hf j j' (lt1 h1) (lt1 h4) e1,e2⟩
theorem aQ.push(h:aQ w S m rs vss H) {r:List Fv} {vs:List Value} {hh:Nat->Nat} (hr:r.length=m) (hvs:vs.length=m) (hc:∀(i:Nat) f,r[i]?=Y5 f->∃v,vs[i]?=Y5 v/\f.Fr w (hh i) S v)
  (hn:∀(i:Nat) zs,r[i]?=Y5 (.l zs)->zs≠[]->∀(j:Nat) r' (i':Nat) zs',rs[j]?=Y5 r'->r'[i']?=Y5 (.l zs')->zs'≠[]->¬H j i'=hh i)
  (h1:∀(i i':Nat) zs zs',r[i]?=Y5 (.l zs)->zs≠[]->r[i']?=Y5 (.l zs')->zs'≠[]->i=i'):
  aQ w S m (rs++[r]) (vss++[vs]) (λj=>if j=rs.length then hh else H j):=by
 have at1:∀{α:Type} {l:List α} {x y:α} {j:Nat},(l++[x])[j]?=Y5 y->(j=l.length/\y=x)\/(j<l.length/\l[j]?=Y5 y):=by
  intro α l x y j hj;by_cases e:j<l.length
  ·rw[Yu e] at hj;exact Zd ⟨e,hj⟩
  ·rw[List.getElem?_append_right af] at hj;rcases Nat.eq_zero_or_pos (j - l.length) with e0|e0
   ·rw[e0] at hj;exact Ze ⟨by omega,by simpa using hj.symm⟩
   ·rw[List.getElem?_eq_none bL] at hj;cases hj
 refine⟨by simp[h.len],λj v hv=>?_,λj r' hj=>?_,λj r' v hj hv i f hf=>?_,λj r1 i zs j' r2 i' zs' a1 a2 a3 b1 b2 b3 e=>?_⟩
 ·rcases at1 hv with ⟨_,rfl⟩|⟨_,hv⟩
  ·exact hvs
  ·exact h.all j v hv
 ·rcases at1 hj with ⟨_,rfl⟩|⟨_,hj⟩
  ·exact hr
  ·exact h.rl j r' hj
 ·rcases at1 hj with ⟨e1,rfl⟩|⟨e1,hj⟩
  ·rcases at1 hv with ⟨_,rfl⟩|⟨e2,hv⟩
   ·simp only[e1,if_true];exact hc i f hf
   ·have:=h.len;omega
  ·rcases at1 hv with ⟨e2,rfl⟩|⟨e2,hv⟩
   ·have:=h.len;omega
   ·simp only[if_neg (show¬j=rs.length by omega)];exact h.cell j r' v hj hv i f hf
 ·rcases at1 a1 with ⟨e1,rfl⟩|⟨e1,a4⟩ <;> rcases at1 b1 with ⟨e2,rfl⟩|⟨e2,b4⟩
  ·exact⟨by omega,h1 _ _ _ _ a2 a3 b2 b3⟩
  ·simp only[e1,if_true,if_neg (show¬j'=rs.length by omega)] at e;exact absurd e.symm (hn i zs a2 a3 j' r2 i' zs' b4 b2 b3)
  ·simp only[e2,if_true,if_neg (show¬j=rs.length by omega)] at e;exact absurd e (hn i' zs' b2 b3 j r1 i zs a4 a2 a3)
  ·simp only[if_neg (show¬j=rs.length by omega),if_neg (show¬j'=rs.length by omega)] at e;exact h.inj j r1 i zs j' r2 i' zs' a4 a2 a3 b4 b2 b3 e
end
theorem gi {m:Nat} :∀{vss:List (List α)},(∀(j:Nat) vs,vss[j]?=Y5 vs->vs.length=m)->∀{j:Nat} {vs:List α} {i:Nat} {u:α},vss[j]?=Y5 vs->vs[i]?=Y5 u->vss.flatten[j*m+i]?=Y5 u
 | [],_,j,vs,i,u,h,_=>by simp at h
 | x ::vss,hl,0,vs,i,u,h,hu=>by
  obtain rfl:x=vs:=np
  have hx:=hl 0 x rfl;have hi:=(Yc.1 hu).1;rw[List.flatten_cons,Yu af,Nat.zero_mul,Yq];exact hu
 | x ::vss,hl,j+1,vs,i,u,h,hu=>by
  have hx:=hl 0 x rfl;rw[List.flatten_cons,List.getElem?_append_right (by rw[hx,Nat.succ_mul];omega),hx,show (j+1)*m+i - m=j*m+i by rw[Nat.succ_mul];omega];exact gi (λj' vs' h'=>hl (j'+1) vs' (by simpa using h')) np hu
theorem j7 {m:Nat} :∀{vss:List (List α)},(∀(j:Nat) vs,vss[j]?=Y5 vs->vs.length=m)->∀{k:Nat} {u:α},vss.flatten[k]?=Y5 u->∃(j i:Nat) (vs:List α),vss[j]?=Y5 vs/\vs[i]?=Y5 u/\k=j*m+i
 | [],_,k,u,h=>by simp at h
 | x ::vss,hl,k,u,h=>by
  have hx:=hl 0 x rfl;rw[List.flatten_cons] at h;by_cases e:k<m
  ·rw[Yu af] at h;exact⟨0,k,x,rfl,h,by omega⟩
  ·rw[List.getElem?_append_right af,hx] at h;obtain⟨j,i,vs,h1,h2,h3⟩:=j7 (λj' vs' h'=>hl (j'+1) vs' (by simpa using h')) h;exact⟨j+1,i,vs,by simpa using h1,h2,by rw[Nat.succ_mul];omega⟩
theorem eV {m:Nat} :∀{vss:List (List α)},(∀(j:Nat) vs,vss[j]?=Y5 vs->vs.length=m)->vss.flatten.length=vss.length*m
 | [],_=>by simp
 | x ::vss,hl=>by
  have hx:=hl 0 x rfl;rw[List.flatten_cons,List.length_append,eV (λj' vs' h'=>hl (j'+1) vs' (by simpa using h')),hx,List.length_cons,Nat.succ_mul];omega
theorem aQ.one {w:World} {m:Nat} {rs:List (List Fv)} (h:aQ w S m rs vss H):∀u∈vss.flatten,u.oneCell'=Zb:=by
 intro u hu;obtain⟨k,hk,rfl⟩:=List.mem_iff_getElem.1 hu;obtain⟨j,i,vs,h1,h2,_⟩:=j7 h.all (Yi hk);have hj:j<rs.length:=by rw[<-h.len];exact (Yc.1 h1).1
 have hr:=Yi hj;have hi:i<(rs[j]).length:=by rw[h.rl j _ hr,<-h.all j vs h1];exact (Yc.1 h2).1
 obtain⟨v,h3,h4⟩:=h.cell j _ vs hr h1 i _ (Yi hi);rw[h2] at h3;cases h3;exact h4.one
theorem aQ.own {w:World} {m:Nat} {rs:List (List Fv)} (h:aQ w S m rs vss H) {base n:Nat} {v:Value} (ho:w.ownsRow base T m v n vss.flatten) (hn:n=rs.length) (hT:¬T=9) (hS:∀g,v.ownBlock=Y5 g->S g):
  ∃a cap,v=J a rs.length cap/\aw w a rs.length cap m T rs S:=by
 subst hn;rcases ho.2 with ⟨rfl,h0⟩|⟨g,cap,cur,rfl,_,hgg,h1,h2,h3,h4⟩
 ·obtain rfl:rs=[]:=YM h0;exact⟨U,0,rfl,aw.nil _ _ _ _ _ af⟩
 ·refine⟨_,cap,rfl,rfl,h1,by unfold maxLen at h2;omega,Zd ⟨g,cur,H,rfl,hgg,hS g rfl,h.rl,λj r hj i f hi=>?_,h.inj⟩⟩;have hjl:j<vss.length:=by rw[h.len];exact (Yc.1 hj).1
  have hv:=Yi hjl;obtain⟨u,h5,h6⟩:=h.cell j r _ hj hv i f hi;have h7:=gi h.all hv h5;rw[<-h4,YA] at h7;split at h7
  ·exact⟨u,by simpa using h7,h6.own hgg hT⟩
  ·cases h7
theorem aw.ju {w:World} {m:Nat} {len:Nat} {rs:List (List Fv)} (h:aw w a len cap m T rs S):
  ∃vss H,aQ w S m rs vss H/\∀(k:Nat) u,vss.flatten[k]?=Y5 u->∃g,a=Y5 ⟨g,0,U⟩/\S g/\w.cell? ⟨g,k,U⟩=Y5 u:=by
 obtain⟨h1,h2,h3,h4⟩:=h;rcases h4 with rfl|⟨g,cur,H,rfl,h5⟩
 ·exact⟨[],λ_ _=>0,aQ.nil _ _ _ _,λk u hu=>by simp at hu⟩
 ·have hget:∀(j i:Nat),((YU rs.length).map λj=>(YU m).map λi=>cur.getD (j*m+i) undef)[j]?=if j<rs.length then Y5 ((YU m).map λi=>cur.getD (j*m+i) undef) else U:=by
   intro j _;rw[Yv];split
   ·next e=>rw[List.getElem?_range e];rfl
   ·next e=>rw[List.getElem?_eq_none (by simpa using e)];rfl
  have hval:∀(j:Nat) r,rs[j]?=Y5 r->∀(i:Nat),i<m->∃f v,r[i]?=Y5 f/\cur[j*m+i]?=Y5 v/\f.Own w (H j i) S g v/\((YU m).map λi=>cur.getD (j*m+i) undef)[i]?=Y5 v:=by
   intro j r hr i hi;have hl:=h5.len j r hr;have hf:=Yi (l:=r) (i:=i) af;obtain⟨v,q1,q2⟩:=h5.cell j r hr i _ hf;refine⟨_,v,hf,q1,q2,?_⟩;rw[Yv,List.getElem?_range hi];simp[Yr,q1]
  have hvrecs:aQ w S m rs ((YU rs.length).map λj=>(YU m).map λi=>cur.getD (j*m+i) undef) H:=by
   refine⟨by simp,λj vs hv=>?_,h5.len,λj r vs hr hv i f hf=>?_,h5.inj⟩
   ·rw[hget j 0] at hv;split at hv
    ·cases hv;simp
    ·cases hv
   ·rw[hget j 0,if_pos (Yc.1 hr).1] at hv;cases hv;have hi:i<m:=by rw[<-h5.len j r hr];exact (Yc.1 hf).1
    obtain⟨f',v,q1,q2,q3,q4⟩:=hval j r hr i hi;rw[hf] at q1;cases q1;exact⟨v,q4,q3.fr⟩
  refine⟨_,H,hvrecs,λk u hu=>⟨g,rfl,h5.inS,?_⟩⟩;obtain⟨j,i,vs,e1,e2,rfl⟩:=j7 hvrecs.all hu;rw[hget j 0] at e1;split at e1
  ·next e=>
   cases e1;have hi:i<m:=by have:=(Yc.1 e2).1;simpa using this
   obtain⟨f',v,q1,q2,q3,q4⟩:=hval j _ (Yi e) i hi;rw[e2] at q4;cases q4;exact (an h5.blk _).trans q2
  ·cases e1
theorem en:∀x:List UInt8,Yk x x=Y_
 | []=>rfl
 | a ::x=>by simp[Yk,en x]
theorem cJ:∀x y z:List UInt8,Yk x y=Zb->Yk y z=Zb->Yk x z=Zb
 | _,[],_,h,_=>by cases ‹List UInt8› <;> simp[Yk] at h
 | _,_ ::_,[],_,h=>by simp[Yk] at h
 | [],_ ::_,_ ::_,_,_=>rfl
 | a ::x,b ::y,c ::z,h,k=>by
  simp only[Yk,Bool.or_eq_true,decide_eq_true_eq,YG,beq_iff_eq] at h k ⊢;rcases h with h|⟨rfl,h⟩
  ·rcases k with k|⟨rfl,k⟩
   ·exact Ze (UInt8.lt_trans h k)
   ·exact Ze h
  ·rcases k with k|⟨rfl,k⟩
   ·exact Ze k
   ·exact Zd ⟨rfl,cJ x y z h k⟩
section
variable {α:Type} {nm:α->ByteArray} {xs:List α} {t:ByteArray}
def aF(nm:α->ByteArray) (xs:List α):Prop:=∀(j:Nat) x y,xs[j+1]?=Y5 x->xs[j]?=Y5 y->Yk (nm y).toList (nm x).toList=Zb
theorem aF.lt(h:aF nm xs) {i j:Nat} {x y:α} (hij:i<j) (hi:xs[i]?=Y5 x) (hj:xs[j]?=Y5 y):Yk (nm x).toList (nm y).toList=Zb:=by
 induction j generalizing y with
 | zero=>omega
 | succ j ih=>
  by_cases e:i=j
  ·subst e;exact h i y x hj hi
  ·have hl:j<xs.length:=by have:=(Yc.1 hj).1;omega
   have hz:xs[j]?=Y5 (xs[j]'hl):=Yi _;exact cJ _ _ _ (ih af hz) (h j y _ hj hz)
theorem aF.inj(h:aF nm xs) {i j:Nat} {x y:α} (hi:xs[i]?=Y5 x) (hj:xs[j]?=Y5 y) (e:nm x=nm y):i=j/\x=y:=by
 have hij:i=j:=by
  rcases Nat.lt_trichotomy i j with k|k|k
  ·have:=h.lt k hi hj;rw[e,en] at this;cases this
  ·exact k
  ·have:=h.lt k hj hi;rw[e,en] at this;cases this
 subst hij;rw[hi] at hj;exact⟨rfl,Yd hj⟩
def pl(nm:α->ByteArray) (xs:List α) (t:ByteArray):Nat:=xs.findIdx (λx=> !Yk (nm x).toList t.toList)
def hit(nm:α->ByteArray) (xs:List α) (t:ByteArray):Bool:=match xs[pl nm xs t]? with|Y5 x=>(nm x).toList==t.toList|U=>Y_
theorem oY {k:Nat} {x:α} (h:∀(j:Nat) y,j<k->xs[j]?=Y5 y->Yk (nm y).toList t.toList=Zb) (hx:xs[k]?=Y5 x) (hl:Yk (nm x).toList t.toList=Y_):pl nm xs t=k:=by
 have hk:k<xs.length:=(Yc.1 hx).1;have hxe:xs[k]=x:=(Yc.1 hx).2;unfold pl;rw[List.findIdx_eq hk];refine⟨by rw[hxe,hl];rfl,λj hj=>?_⟩;rw[h j _ hj (Yi af)];rfl
theorem fY(h:∀(j:Nat) y,xs[j]?=Y5 y->Yk (nm y).toList t.toList=Zb):pl nm xs t=xs.length:=by
 unfold pl;rw[List.findIdx_eq_length];intro x hx;obtain⟨j,hj,rfl⟩:=List.mem_iff_getElem.1 hx;rw[h j _ (Yi hj)];rfl
theorem di {a b:ByteArray} (h:(a.toList==b.toList)=Zb):a=b:=by
 by_cases e:a=b
 ·exact e
 ·rw[bu e] at h;cases h
theorem bo(hr:aF nm xs) {j:Nat} {x:α} (hx:xs[j]?=Y5 x) (hn:nm x=t):pl nm xs t=j/\hit nm xs t=Zb:=by
 have h:pl nm xs t=j:=oY (λi y hi hy=>by rw[<-hn];exact hr.lt hi hy hx) hx (by rw[hn];exact en _);refine⟨h,?_⟩;unfold hit;rw[h,hx];exact aP hn
theorem cf(h:hit nm xs t=Zb):∃x,xs[pl nm xs t]?=Y5 x/\nm x=t:=by
 unfold hit at h;split at h
 ·next x hx=>exact⟨x,hx,di h⟩
 ·cases h
def dI(ok:α->Prop) (nm:α->ByteArray) (xs:List α) (most:Int):Prop:=(xs.length:Int)<=most/\(∀(j:Nat) x,xs[j]?=Y5 x->ok x)/\aF nm xs
end
theorem au.yes {p:Prop} {w:World} (h:au p w e w') (hp:p):e=Za (Y9 Zb)/\Below w.heap.size w w':=by
 obtain⟨r,rfl,hr,hb⟩:=h;exact⟨by rw[hr.2 hp],hb⟩
theorem au.no {p:Prop} {w:World} (h:au p w e w') (hp:¬p):e=Za (Y9 Y_)/\Below w.heap.size w w':=by
 obtain⟨r,rfl,hr,hb⟩:=h;cases r
 ·exact⟨rfl,hb⟩
 ·exact absurd (hr.1 rfl) hp
theorem au.t {p:Prop} {w:World} (hp:p) (hb:Below w.heap.size w w'):au p w (Za (Y9 Zb)) w':=⟨Zb,rfl,⟨λ_=>hp,λ_=>rfl⟩,hb⟩
theorem au.f {p:Prop} {w:World} (hp:¬p) (hb:Below w.heap.size w w'):au p w (Za (Y9 Y_)) w':=⟨Y_,rfl,⟨λh=>(by cases h),λh=>absurd h hp⟩,hb⟩
def wV(x:Nd):Prop:=xQ x.n x.z x.c x.s x.u x.zs
def xi(x:Kd):Prop:=qX x.n x.z
def pA(v:Vd):Prop:=Ry v.n v.c v.z v.k v.x v.m v.y v.zs
def gK(x:Xd):Prop:=qY x.n x.z x.k x.v
def uS(x:Pd):Prop:=RA x.n x.c x.z x.zs x.d x.p
def Bw(y W:World):Prop:=Below y.heap.size y W
theorem Bw.refl(y:World):Bw y y:=Yh _ _
theorem Bw.below {y W':World} (h:Bw y W) (hb:Below W.heap.size W W'):Bw y W':=Below.trans h (hb.mono (Below.size h))
theorem Bw.out {y:World} (h:Bw y W):Below y.heap.size y W:=h
def bS(w:World) (a:Option Addr) (l c:Nat) (zs:List ByteArray) (S:Nat->Prop):Prop:=
 az w a l c zs/\(zs=[]\/∃g cur,a=Y5 ⟨g,0,U⟩/\S g/\w.heap[g]?=Y5 (Y8 cur 9 (0,0)))
theorem bS.ay {w:World} {l c:Nat} {zs:List ByteArray} (h:bS w a l c zs S) (hk:∀k,k<w.heap.size->S k->w'.heap[k]?=w.heap[k]?) (hs:∀k,k<w.heap.size->S k->S' k):bS w' a l c zs S':=by
 obtain⟨⟨h1,h2,h3,h4,h5⟩,h6⟩:=h;rcases h6 with rfl|⟨g,cur,rfl,hS,hg⟩
 ·exact⟨⟨h1,h2,h3,h4,Ze rfl⟩,Ze rfl⟩
 ·have hg':=(hk g (ae hg) hS).trans hg;refine⟨⟨h1,h2,h3,h4,h5.imp id ?_⟩,Zd ⟨g,cur,rfl,hs g (ae hg) hS,hg'⟩⟩;rintro⟨b,o,e,hlt,hc⟩;cases e;exact⟨g,0,rfl,ae hg',λj x hx=>by have:=hc j x hx;rw[an hg] at this;rw[an hg'];exact this⟩
theorem bS.below {w:World} {l c:Nat} {zs:List ByteArray} (h:bS w a l c zs S) (hb:Below w.heap.size w w'):bS w' a l c zs S:=h.ay (λk hk _=>hb.block k hk) (λ_ _ s=>s)
theorem bS.bm {w:World} {l c:Nat} {zs:List ByteArray} (h:bS w a l c zs S) (hs:∀k,k<w.heap.size->S k->S' k):bS w a l c zs S':=h.ay (λ_ _ _=>rfl) hs
theorem bS.row {w:World} {l c:Nat} {zs:List ByteArray} (h:bS w a l c zs S):az w a l c zs:=h.1
theorem bS.fo {w:World} {n:Nat} {v:Value} {zs:List ByteArray} (h:w.ownsRow base 9 1 v n (zs.map Ym)) (hs:∀(j:Nat) x,zs[j]?=Y5 x->x.size<=9223372036854775807):∃a c,v=J a n c/\bS w a n c zs (λk=>base<=k):=by
 obtain⟨hl,h⟩:=h;have hl':zs.length=n:=by simpa using hl
 rcases h with ⟨rfl,rfl⟩|⟨g,cap,cur,rfl,hbg,hg,hnc,hcm,hsz,htk⟩
 ·obtain rfl:zs=[]:=YM hl';exact⟨U,0,rfl,⟨rfl,Ye _,by omega,λj x hx=>by simp at hx,Ze rfl⟩,Ze rfl⟩
 ·refine⟨Y5 ⟨g,0,U⟩,cap,rfl,⟨hl',hnc,by unfold maxLen at hcm;omega,hs,Zd ⟨g,0,rfl,ae hg,λj x hx=>?_⟩⟩,Zd ⟨g,cur,rfl,hbg,hg⟩⟩;exact QA
theorem cI {w:World} {n m:Nat} {v:Value} {xs:List Value} (h:w.ownsRow base T m v n xs) (hb:Below w.heap.size w w'):w'.ownsRow base T m v n xs:=by
 refine⟨h.1,h.2.imp id ?_⟩;rintro⟨g,cap,cur,h1,h2,h3,h4⟩;exact⟨g,cap,cur,h1,h2,(hb.block _ (ae h3)).trans h3,h4⟩
end Rc
namespace Ap
def b8(zs:List ByteArray) (w:World) (a:Option Addr) (len cap:Nat) (w':World):Prop:=
 az w' a len cap zs/\(zs=[]\/∃g cur,a=Y5 ⟨g,0,U⟩/\w.heap.size<=g/\w'.heap[g]?=Y5 (Y8 cur 9 (0,0)))/\Below w.heap.size w w'
theorem Ay {w:World} {ad:Addr} {len:Nat} {zs:List ByteArray} (h:az w (Y5 ad) len cap zs):∀j u,(zs.map Ym)[j]?=Y5 u->w.cell? (ad.add j)=Y5 u:=by
 intro j u hu;rw[Yv] at hu;obtain⟨x,hx,rfl⟩:=YB.1 hu;rcases h.2.2.2.2 with h|⟨b,o,e,_,hc⟩
 ·subst h;simp at hx
 ·cases e;rw[Yn];exact hc j x hx
theorem b8.set {zs:List ByteArray} {w:World} {l p b X:Nat} {v:Value} (h:az w' a l p zs/\(zs=[]\/∃g cur,a=Y5 ⟨g,0,U⟩/\X<=g/\w'.heap[g]?=Y5 (Y8 cur 9 (0,0)))/\Below w.heap.size w w') (hb:w.heap.size<=b) (hX:b<X):
  az (w'.setCell ⟨b,i,U⟩ v) a l p zs/\(zs=[]\/∃g cur,a=Y5 ⟨g,0,U⟩/\X<=g/\(w'.setCell ⟨b,i,U⟩ v).heap[g]?=Y5 (Y8 cur 9 (0,0)))/\Below w.heap.size w (w'.setCell ⟨b,i,U⟩ v):=by
 obtain⟨⟨h1,h2,h3,h4,h5⟩,h6,h7⟩:=h;refine⟨⟨h1,h2,h3,h4,?_⟩,?_,h7.setCell hb v⟩
 ·rcases h6 with h6|⟨g,cur,rfl,hg,hh⟩
  ·exact Ze h6
  ·rcases h5 with h5|⟨g',o,e,hl,hc⟩
   ·exact Ze h5
   ·cases e;have hs:(w'.setCell ⟨b,i,U⟩ v).heap[g]?=w'.heap[g]?:=Ya _ _ _ _ (show g≠b by omega);exact Zd ⟨g,0,rfl,by simpa[World.setCell] using hl,λj x hx=>by have:=hc j x hx;simp only[World.cell?,hs] at this ⊢;exact this⟩
 ·rcases h6 with h6|⟨g,cur,rfl,hg,hh⟩
  ·exact Ze h6
  ·exact Zd ⟨g,cur,rfl,hg,(Ya _ _ _ _ (show g≠b by omega)).trans hh⟩
theorem ald(n:ByteArray) (c:Int) (z:ByteArray) (k:ByteArray) (x:Bool) (m:ByteArray) (y:Bool) (a:Option Addr) (len cap:Nat) (zs:List ByteArray) (w:World) (hr:az w a len cap zs) (hl:len<=8001):
  Calls Tryz.prog 44 #[Zc #[I n,Y7 Y6 c,I z,I k,Y9 x,I m,Y9 y,J a len cap]] w λe w'=> ∃a' l p,e=Za (Zc #[I n,Y7 Y6 c,I z,I k,Y9 x,I m,Y9 y,J a' l p])/\b8 zs w a' l p w':=by
 have hown:(((w.alloc (Y8 #[I n,Y7 Y6 c,I z,I k,Y9 x,I m,Y9 y,J a len cap] 38)).alloc (Y8 #[I ⟨#[]⟩,Y7 Y6 0,I ⟨#[]⟩,I ⟨#[]⟩,Y9 Y_,I ⟨#[]⟩,Y9 Y_,J U 0 0] 38)).alloc (Y8 #[] 9)).ownsRow (w.heap.size+1+1) 9 1 (J (Y5 ⟨w.heap.size+1+1,0,U⟩) 0 0) 0 []:=⟨rfl,Zd ⟨w.heap.size+1+1,0,#[],rfl,Ye _,lR _ _ _ _,Ye _,by unfold maxLen;omega,rfl,rfl⟩⟩;have HOW:=aa hown;have hr3:=hr.below (dj w (Y8 #[I n,Y7 Y6 c,I z,I k,Y9 x,I m,Y9 y,J a len cap] 38) (Y8 #[I ⟨#[]⟩,Y7 Y6 0,I ⟨#[]⟩,I ⟨#[]⟩,Y9 Y_,I ⟨#[]⟩,Y9 Y_,J U 0 0] 38) (Y8 #[] 9));have HZ:=aa hr.2.2.2.1;have hzl:=hr.1;have HR3:=aa hr3;clear hown hr3;obtain⟨i0,hi,hz0,hz1,hz2⟩:=info_parts fk;cases a with
 | none=>
  obtain rfl:zs=[]:=by
   rcases hr.2.2.2.2 with h|⟨b,o,e,_⟩
   ·exact h
   ·cases e
  obtain rfl:len=0:=by simpa using hzl.symm
  clear hr HOW HR3 hi hz0 hz1 hz2
  go_enter Tryz.func44,Tryz.ntmps44
  go_wp2
  exact bodyPost_ret (v:=Zc #[I n,Y7 Y6 c,I z,I k,Y9 x,I m,Y9 y,J (Y5 ⟨w.heap.size+1+1,0,U⟩) 0 0]) (by simp[results,Tryz.results44,go_sem]) rfl ⟨_,_,_,rfl,⟨rfl,Ye _,by omega,λj x hx=>by simp at hx,Ze rfl⟩,Ze rfl,dj _ _ _ _⟩
 | some ad=>
  have HN:=aa (Ay HR3.out);clear hr
  go_enter Tryz.func44,Tryz.ntmps44
  go_wp2_with (first|(at_builtin;refine wpList_append_own _ rfl _ _ 36 rfl (w.heap.size+1+1) 9 i0 (I ⟨#[]⟩) 1 16 Tryz.underlying36 hi hz0 hz1 hz2 rfl ag _ 0 _ rfl HOW.out ad len cap (zs.map Ym) rfl ?c1 HN.out ?c3 ?c4 ?c5 aG ?_))
  case c1=>simpa using hzl
  case c3=>intro u hu;obtain⟨x,_,rfl⟩:=List.mem_map.1 hu;rfl
  case c4=>unfold maxLen;omega
  case c5=>omega
  intro v' w3 hown3 hgrow hv;have hb3:=(Yh (w.heap.size+1+1) _).grown hgrow aG (λk hk=>by simp[YL] at hk;omega);have g0:=(hb3.block w.heap.size af).trans (lS _ _ _ _);have g1:=(hb3.block (w.heap.size+1) af).trans (jX _ _ _ _)
  obtain⟨a',l,p,rfl,hq⟩:∃a' l p,v'=J a' l p/\(az w3 a' l p zs/\(zs=[]\/∃g cur,a'=Y5 ⟨g,0,U⟩/\w.heap.size+1+1<=g/\w3.heap[g]?=Y5 (Y8 cur 9 (0,0)))/\Below w.heap.size w w3):=by
   have hbw:=(dj w _ _ _).trans (hb3.mono af);have ho:=hown3;obtain⟨hl1,h⟩:=ho;have hl':=hzl
   rcases h with ⟨rfl,h0⟩|⟨g,cp,cur,rfl,hbg,hg,hnc,hcm,hsz,htk⟩
   ·obtain rfl:zs=[]:=YM af;exact⟨U,0,0,rfl,⟨rfl,Ye _,by omega,λj x hx=>by simp at hx,Ze rfl⟩,Ze rfl,hbw⟩
   ·refine⟨Y5 ⟨g,0,U⟩,len,cp,rfl,⟨hl',hnc,by unfold maxLen at hcm;omega,HZ.out,Zd ⟨g,0,rfl,ae hg,λj x hx=>?_⟩⟩,Zd ⟨g,cur,rfl,hbg,hg⟩,hbw⟩;rw[Yq,an hg]
    have hj:j<len:=by have:=(Yc.1 hx).1;omega
    have e1:(cur.toList.take (len*1))[j]?=Y5 (I x):=by rw[htk];simp[hx]
    rw[YA,if_pos af] at e1
    simpa using e1
  have HQ:=aa hq;have d0:=ck0 g0;have d1:=ck1 g0;have d2:=ck2 g0;have d3:=ck3 g0;have d4:=ck4 g0;have d5:=ck5 g0;have d6:=ck6 g0;have d7:=ck7 g0;have df7:=al g0 7;have e0:=ck0 g1;have ef0:=al g1 0;have e1:=ck1 g1;have ef1:=al g1 1;have e2:=ck2 g1;have ef2:=al g1 2;have e3:=ck3 g1;have ef3:=al g1 3;have e4:=ck4 g1;have ef4:=al g1 4;have e5:=ck5 g1;have ef5:=al g1 5;have e6:=ck6 g1;have ef6:=al g1 6;have e7:=ck7 g1;have ef7:=al g1 7;have HQ2:=aa (b8.set (b8.set (b8.set (b8.set (b8.set (b8.set (b8.set (b8.set (b8.set HQ.out (b:=w.heap.size) (i:=7) af af (v:=J a' l p)) (b:=w.heap.size+1) (i:=0) af af (v:=(I n))) (b:=w.heap.size+1) (i:=1) af af (v:=(Y7 Y6 c))) (b:=w.heap.size+1) (i:=2) af af (v:=(I z))) (b:=w.heap.size+1) (i:=3) af af (v:=(I k))) (b:=w.heap.size+1) (i:=4) af af (v:=(Y9 x))) (b:=w.heap.size+1) (i:=5) af af (v:=(I m))) (b:=w.heap.size+1) (i:=6) af af (v:=(Y9 y))) (b:=w.heap.size+1) (i:=7) af af (v:=(J a' l p)));clear hown3 hgrow hv hb3 g0 g1 hq;go_wp2_with fail;refine bodyPost_ret (v:=Zc #[I n,Y7 Y6 c,I z,I k,Y9 x,I m,Y9 y,J a' l p]) (by simp[results,Tryz.results44,go_sem, *]) rfl ⟨a',l,p,rfl,HQ2.1,?_,HQ2.2.2⟩
  rcases HQ2.2.1 with h|⟨g,cur,h1,h2,h3⟩
  ·exact Ze h
  ·exact Zd ⟨g,cur,h1,by omega,h3⟩
end Ap
namespace Rc
theorem bS.fr {w:World} {l c:Nat} {zs:List ByteArray} (h:bS w a l c zs S):∃g,LFr w g S zs (J a l c):=by
 obtain⟨⟨h1,h2,h3,h4,h5⟩,h6⟩:=h;rcases h6 with rfl|⟨g,cur,rfl,hS,hg⟩
 ·exact⟨0,_,_,_,rfl,h1,h2,h3,h4,Ze rfl⟩
 ·refine⟨g,_,_,_,rfl,h1,h2,h3,h4,h5.imp id ?_⟩;rintro⟨b,o,e,hlt,hc⟩;cases e;exact⟨rfl,hS,cur,hg,λj x hx=>by have:=hc j x hx;rw[an hg,Yq] at this;exact this⟩
theorem LFr.lt {w:World} {zs:List ByteArray} {v:Value} (k:LFr w h S zs v) (hz:zs≠[]):S h/\h<w.heap.size:=by
 obtain⟨a',l',c',h1,h2,h3,h4,h5,h6⟩:=k;rcases h6 with h6|⟨_,q2,cu,q4,_⟩
 ·exact absurd h6 hz
 ·exact⟨q2,ae q4⟩
theorem dv(w:World) (vs:List Value) (T:TypeId):∀(j:Nat) u,vs[j]?=Y5 u->(w.alloc (Y8 vs.toArray T)).cell? ((⟨w.heap.size,0,U⟩:Addr).add j)=Y5 u:=by
 intro j u hu;rw[Yn,an (heap_alloc_new w _),Yq];simpa using hu
theorem aQ.app {w:World} {m:Nat} {rs:List (List Fv)} {n:Nat} {v:Value} {xs:List Value} (h:aQ w S m rs vss H) (hb:Below w.heap.size w W) (ho:W.ownsRow base T m v n xs) (hT:¬T=9) (hg:W.grownBy w' v.ownBlock)
  {r:List Fv} {vs:List Value} {hh:Nat} (hr:r.length=m) (hvs:vs.length=m) (hc:∀(i:Nat) f,r[i]?=Y5 f->∃v,vs[i]?=Y5 v/\f.Fr W hh S v) (hfr:∀(i:Nat) zs,r[i]?=Y5 (.l zs)->zs≠[]->w.heap.size<=hh)
  (h1:∀(i i':Nat) zs zs',r[i]?=Y5 (.l zs)->zs≠[]->r[i']?=Y5 (.l zs')->zs'≠[]->i=i'):aQ w' S m (rs++[r]) (vss++[vs]) (λj=>if j=rs.length then λ_=>hh else H j):=
 ((h.below hb).push hr hvs hc (λi zs a b j r' i' zs' c d e q=>by have q1:=h.lt c d e;have q2:=hfr i zs a b;omega) h1).grown ho hT hg
theorem A7 {x:Nd} {zs:List ByteArray} (h:(ndF x)[i]?=Y5 (.l zs)):i=6/\zs=x.zs:=by
 rcases i with _|_|_|_|_|_|_|i
 ·cases h
 ·cases h
 ·cases h
 ·cases h
 ·cases h
 ·cases h
 ·cases h;exact⟨rfl,rfl⟩
 ·simp[ndF] at h
theorem ah_ {w:World} {x:Nd} {Q:Nat->Prop} {l c:Nat} (hn:x.n.size<=9223372036854775807) (hz:x.z.size<=9223372036854775807) (hl:LFr w g Q x.zs (J a l c)):∀(i:Nat) f,(ndF x)[i]?=Y5 f->∃v,[I x.n,I x.z,Y7 Y6 x.c,Y7 Y6 x.s,Y7 Y6 x.u,Y9 x.d,J a l c][i]?=Y5 v/\f.Fr w g Q v:=by
 intro i f h;rcases i with _|_|_|_|_|_|_|i
 ·cases h;exact⟨_,rfl,rfl,hn⟩
 ·cases h;exact⟨_,rfl,rfl,hz⟩
 ·cases h;exact⟨_,rfl,rfl⟩
 ·cases h;exact⟨_,rfl,rfl⟩
 ·cases h;exact⟨_,rfl,rfl⟩
 ·cases h;exact⟨_,rfl,rfl⟩
 ·cases h;exact⟨_,rfl,hl⟩
 ·simp[ndF] at h
theorem AP {x:Vd} {zs:List ByteArray} (h:(vdF x)[i]?=Y5 (.l zs)):i=7/\zs=x.zs:=by
 rcases i with _|_|_|_|_|_|_|_|i
 ·cases h
 ·cases h
 ·cases h
 ·cases h
 ·cases h
 ·cases h
 ·cases h
 ·cases h;exact⟨rfl,rfl⟩
 ·simp[vdF] at h
theorem BP {w:World} {x:Vd} {Q:Nat->Prop} {l c:Nat} (hn:x.n.size<=9223372036854775807) (hz:x.z.size<=9223372036854775807) (hk:x.k.size<=9223372036854775807) (hm:x.m.size<=9223372036854775807) (hl:LFr w g Q x.zs (J a l c)):∀(i:Nat) f,(vdF x)[i]?=Y5 f->∃v,[I x.n,Y7 Y6 x.c,I x.z,I x.k,Y9 x.x,I x.m,Y9 x.y,J a l c][i]?=Y5 v/\f.Fr w g Q v:=by
 intro i f h;rcases i with _|_|_|_|_|_|_|_|i
 ·cases h;exact⟨_,rfl,rfl,hn⟩
 ·cases h;exact⟨_,rfl,rfl⟩
 ·cases h;exact⟨_,rfl,rfl,hz⟩
 ·cases h;exact⟨_,rfl,rfl,hk⟩
 ·cases h;exact⟨_,rfl,rfl⟩
 ·cases h;exact⟨_,rfl,rfl,hm⟩
 ·cases h;exact⟨_,rfl,rfl⟩
 ·cases h;exact⟨_,rfl,hl⟩
 ·simp[vdF] at h
theorem A5 {x:Pd} {zs:List ByteArray} (h:(pdF x)[i]?=Y5 (.l zs)):i=3/\zs=x.zs:=by
 rcases i with _|_|_|_|_|_|i
 ·cases h
 ·cases h
 ·cases h
 ·cases h;exact⟨rfl,rfl⟩
 ·cases h
 ·cases h
 ·simp[pdF] at h
theorem ah9 {w:World} {x:Pd} {Q:Nat->Prop} {l c:Nat} (hn:x.n.size<=9223372036854775807) (hz:x.z.size<=9223372036854775807) (hd:x.d.size<=9223372036854775807) (hl:LFr w g Q x.zs (J a l c)):∀(i:Nat) f,(pdF x)[i]?=Y5 f->∃v,[I x.n,Y7 Y6 x.c,I x.z,J a l c,I x.d,Y7 Y6 x.p][i]?=Y5 v/\f.Fr w g Q v:=by
 intro i f h;rcases i with _|_|_|_|_|_|i
 ·cases h;exact⟨_,rfl,rfl,hn⟩
 ·cases h;exact⟨_,rfl,rfl⟩
 ·cases h;exact⟨_,rfl,rfl,hz⟩
 ·cases h;exact⟨_,rfl,hl⟩
 ·cases h;exact⟨_,rfl,rfl,hd⟩
 ·cases h;exact⟨_,rfl,rfl⟩
 ·simp[pdF] at h
def ank(xs:List Nd) (t:ByteArray) (w:World) (e:Ending) (w':World):Prop:=
 Below w.heap.size w w'/\((∃(j:Nat) (x:Nd),xs[j]?=Y5 x/\x.n=t/\e=Za (Y7 Y6 j))\/((∀(j:Nat) x,xs[j]?=Y5 x->¬x.n=t)/\e=Za (Y7 Y6 (-1))))
theorem jf(d:Ad) (now:Int) (xs:List Nd) (t:ByteArray) (w:World) (hr:aT w d.a1 d.l1 d.c1 7 (xs.map ndF)):
  Calls Tryz.prog 113 #[Zc #[J d.a1 d.l1 d.c1,J d.a2 d.l2 d.c2,J d.a3 d.l3 d.c3,J d.a4 d.l4 d.c4,J d.a5 d.l5 d.c5,Y7 Y6 now],I t] w (ank xs t w):=by
 have HR:=aa hr;have hxl:xs.length=d.l1:=fg
 have hlc:=Yp hr.2.1 hr.2.2.1;clear hr;go_enter Tryz.func113,Tryz.ntmps113;go_wp2;go_loopw [5] (λi wr=> ∃k:Nat,k<=d.l1/\i=Y7 Y6 k/\wr=w.alloc (Y8 #[J d.a1 d.l1 d.c1,J d.a2 d.l2 d.c2,J d.a3 d.l3 d.c3,J d.a4 d.l4 d.c4,J d.a5 d.l5 d.c5,Y7 Y6 now] 29)/\Hid (∀(j:Nat) z,j<k->xs[j]?=Y5 z->¬z.n=t)) (λi _=>d.l1 - (intOf i).toNat);case atStart=>exact⟨0,by omega,rfl,rfl,λ_ _ h=>absurd h af⟩
 case round=>
  obtain⟨k,hk,rfl,rfl,HE⟩:=hrel;by_cases hlt:k<d.l1
  ·obtain⟨b,o,x,ha,hb,hx,hat⟩:=dh HR.out hlt;obtain⟨va,vl,vc,hvr,-,-,c0,-,-,-,-,-,-⟩:=bg hat;have HX:=aa hx;clear hat hx hvr;exact uI
  ·obtain rfl:k=d.l1:=af
   exact uA
def anl(xs:List Kd) (t:ByteArray) (w:World) (e:Ending) (w':World):Prop:=
 Below w.heap.size w w'/\((∃(j:Nat) (x:Kd),xs[j]?=Y5 x/\x.n=t/\e=Za (Y7 Y6 j))\/((∀(j:Nat) x,xs[j]?=Y5 x->¬x.n=t)/\e=Za (Y7 Y6 (-1))))
theorem jg(d:Ad) (now:Int) (xs:List Kd) (t:ByteArray) (w:World) (hr:aT w d.a2 d.l2 d.c2 4 (xs.map kdF)):
  Calls Tryz.prog 38 #[Zc #[J d.a1 d.l1 d.c1,J d.a2 d.l2 d.c2,J d.a3 d.l3 d.c3,J d.a4 d.l4 d.c4,J d.a5 d.l5 d.c5,Y7 Y6 now],I t] w (anl xs t w):=by
 have HR:=aa hr;have hxl:xs.length=d.l2:=fg
 have hlc:=Yp hr.2.1 hr.2.2.1;clear hr;go_enter Tryz.func38,Tryz.ntmps38;go_wp2;go_loopw [5] (λi wr=> ∃k:Nat,k<=d.l2/\i=Y7 Y6 k/\wr=w.alloc (Y8 #[J d.a1 d.l1 d.c1,J d.a2 d.l2 d.c2,J d.a3 d.l3 d.c3,J d.a4 d.l4 d.c4,J d.a5 d.l5 d.c5,Y7 Y6 now] 29)/\Hid (∀(j:Nat) z,j<k->xs[j]?=Y5 z->¬z.n=t)) (λi _=>d.l2 - (intOf i).toNat);case atStart=>exact⟨0,by omega,rfl,rfl,λ_ _ h=>absurd h af⟩
 case round=>
  obtain⟨k,hk,rfl,rfl,HE⟩:=hrel;by_cases hlt:k<d.l2
  ·obtain⟨b,o,x,ha,hb,hx,hat⟩:=gH HR.out hlt;obtain⟨-,-,c0,-,-,-⟩:=da hat;have HX:=aa hx;clear hat hx;exact uI
  ·obtain rfl:k=d.l2:=af
   exact uA
def ani(xs:List Vd) (t:ByteArray) (w:World) (e:Ending) (w':World):Prop:=
 Below w.heap.size w w'/\((∃(j:Nat) (x:Vd),xs[j]?=Y5 x/\x.n=t/\e=Za (Y7 Y6 j))\/((∀(j:Nat) x,xs[j]?=Y5 x->¬x.n=t)/\e=Za (Y7 Y6 (-1))))
theorem je(d:Ad) (now:Int) (xs:List Vd) (t:ByteArray) (w:World) (hr:aT w d.a3 d.l3 d.c3 8 (xs.map vdF)):
  Calls Tryz.prog 40 #[Zc #[J d.a1 d.l1 d.c1,J d.a2 d.l2 d.c2,J d.a3 d.l3 d.c3,J d.a4 d.l4 d.c4,J d.a5 d.l5 d.c5,Y7 Y6 now],I t] w (ani xs t w):=by
 have HR:=aa hr;have hxl:xs.length=d.l3:=fg
 have hlc:=Yp hr.2.1 hr.2.2.1;clear hr;go_enter Tryz.func40,Tryz.ntmps40;go_wp2;go_loopw [5] (λi wr=> ∃k:Nat,k<=d.l3/\i=Y7 Y6 k/\wr=w.alloc (Y8 #[J d.a1 d.l1 d.c1,J d.a2 d.l2 d.c2,J d.a3 d.l3 d.c3,J d.a4 d.l4 d.c4,J d.a5 d.l5 d.c5,Y7 Y6 now] 29)/\Hid (∀(j:Nat) z,j<k->xs[j]?=Y5 z->¬z.n=t)) (λi _=>d.l3 - (intOf i).toNat);case atStart=>exact⟨0,by omega,rfl,rfl,λ_ _ h=>absurd h af⟩
 case round=>
  obtain⟨k,hk,rfl,rfl,HE⟩:=hrel;by_cases hlt:k<d.l3
  ·obtain⟨b,o,x,ha,hb,hx,hat⟩:=bK HR.out hlt;obtain⟨va,vl,vc,hvr,-,-,-,-,c0,-,-,-,-,-,-,-⟩:=aW hat;have HX:=aa hx;clear hat hx hvr;exact uI
  ·obtain rfl:k=d.l3:=af
   exact uA
def anh(xs:List Xd) (t:ByteArray) (w:World) (e:Ending) (w':World):Prop:=
 Below w.heap.size w w'/\((∃(j:Nat) (x:Xd),xs[j]?=Y5 x/\x.n=t/\e=Za (Y7 Y6 j))\/((∀(j:Nat) x,xs[j]?=Y5 x->¬x.n=t)/\e=Za (Y7 Y6 (-1))))
theorem eN(d:Ad) (now:Int) (xs:List Xd) (t:ByteArray) (w:World) (hr:aT w d.a4 d.l4 d.c4 5 (xs.map xdF)):
  Calls Tryz.prog 33 #[Zc #[J d.a1 d.l1 d.c1,J d.a2 d.l2 d.c2,J d.a3 d.l3 d.c3,J d.a4 d.l4 d.c4,J d.a5 d.l5 d.c5,Y7 Y6 now],I t] w (anh xs t w):=by
 have HR:=aa hr;have hxl:xs.length=d.l4:=fg
 have hlc:=Yp hr.2.1 hr.2.2.1;clear hr;go_enter Tryz.func33,Tryz.ntmps33;go_wp2;go_loopw [5] (λi wr=> ∃k:Nat,k<=d.l4/\i=Y7 Y6 k/\wr=w.alloc (Y8 #[J d.a1 d.l1 d.c1,J d.a2 d.l2 d.c2,J d.a3 d.l3 d.c3,J d.a4 d.l4 d.c4,J d.a5 d.l5 d.c5,Y7 Y6 now] 29)/\Hid (∀(j:Nat) z,j<k->xs[j]?=Y5 z->¬z.n=t)) (λi _=>d.l4 - (intOf i).toNat);case atStart=>exact⟨0,by omega,rfl,rfl,λ_ _ h=>absurd h af⟩
 case round=>
  obtain⟨k,hk,rfl,rfl,HE⟩:=hrel;by_cases hlt:k<d.l4
  ·obtain⟨b,o,x,ha,hb,hx,hat⟩:=dL HR.out hlt;obtain⟨-,-,-,c0,-,-,-,-⟩:=bQ hat;have HX:=aa hx;clear hat hx;exact uI
  ·obtain rfl:k=d.l4:=af
   exact uA
theorem cC {s:ByteArray} (h:s=⟨#[]⟩):s.toList.isEmpty=Zb:=by rw[h];exact AD
def kg(c:Cl) (t s:ByteArray):Prop:=∃(i j:Nat) (x:Xd) (v:Vd),c.xs[i]?=Y5 x/\x.n=t/\c.vs[j]?=Y5 v/\v.n=s/\x.v=s/\v.m=t/\x.z<=v.c/\v.k=x.k/\v.x=x.x
def QV(c:Cl) (v:Vd):Prop:=hit Kd.n c.ks v.k=Zb/\(v.m=⟨#[]⟩\/kg c v.m v.n)
def QX(c:Cl) (x:Xd):Prop:=hit Kd.n c.ks x.k=Zb/\(x.v=⟨#[]⟩\/kg c x.n x.v)
def xW(c:Cl):Prop:=(∀(j:Nat) v,c.vs[j]?=Y5 v->QV c v)/\(∀(j:Nat) x,c.xs[j]?=Y5 x->QX c x)
def InL(zs:List ByteArray) (t:ByteArray):Prop:=∃j:Nat,zs[j]?=Y5 t
def aO(c:Cl) (t:ByteArray) (v:Vd):Prop:=∃(i j:Nat) (x:Xd),c.xs[i]?=Y5 x/\x.n=t/\c.vs[j]?=Y5 v/\v.n=x.v
def cpuOf(t:ByteArray):List Pd->Int
 | []=>0
 | p ::ps=>(if p.d=t then p.c else 0)+cpuOf t ps
theorem ka(t:ByteArray):∀ps qs:List Pd,cpuOf t (ps++qs)=cpuOf t ps+cpuOf t qs
 | [],qs=>by simp[cpuOf]
 | p ::ps,qs=>by simp[cpuOf,ka t ps];omega
theorem gn {t:ByteArray} {ps:List Pd} {k:Nat} {p:Pd} (h:ps[k]?=Y5 p):cpuOf t (ps.take (k+1))=cpuOf t (ps.take k)+(if p.d=t then p.c else 0):=by
 rw[YN,h,ka];simp[cpuOf]
def AL(c:Cl) (t:ByteArray):Prop:=∀(i j:Nat) p q,c.ps[i]?=Y5 p->c.ps[j]?=Y5 q->¬p.d=⟨#[]⟩->¬q.d=⟨#[]⟩->InL p.zs t->InL q.zs t->p.d=q.d
theorem aO.inj {c:Cl} {t:ByteArray} {v v':Vd} (hx:aF Xd.n c.xs) (hv:aF Vd.n c.vs) (h:aO c t v) (h':aO c t v'):v=v':=by
 obtain⟨i,j,x,e1,e2,e3,e4⟩:=h;obtain⟨i',j',x',f1,f2,f3,f4⟩:=h';obtain⟨_,rfl⟩:=hx.inj e1 f1 (e2.trans f2.symm);exact (hv.inj e3 f3 (e4.trans f4.symm)).2
def aib(c:Cl) (p:Pd):Prop:=∃(i:Nat) (n:Nd),c.ns[i]?=Y5 n/\n.n=p.d/\(p.z=⟨#[]⟩\/p.z=n.z)/\∀(j:Nat) t,p.zs[j]?=Y5 t->∃v,aO c t v/\v.z=n.z
def amG(c:Cl) (p:Pd):Prop:=∃(i:Nat) (n:Nd),c.ns[i]?=Y5 n/\n.n=p.d/\n.d=Y_/\∀(j:Nat) t,p.zs[j]?=Y5 t->∃v,aO c t v/\InL n.zs v.n
def RD(c:Cl) (n:Nd):Prop:=∀(j:Nat) t,n.zs[j]?=Y5 t->∃(i:Nat) (v:Vd),c.vs[i]?=Y5 v/\v.n=t/\(n.d=Zb\/InL v.zs n.n)
open Classical in
noncomputable def onOf (t:ByteArray):List Vd->Int
 | []=>0
 | v ::vs=>(if InL v.zs t then 1 else 0)+onOf t vs
theorem ei(t:ByteArray):∀vs us:List Vd,onOf t (vs++us)=onOf t vs+onOf t us
 | [],us=>by simp[onOf]
 | v ::vs,us=>by simp[onOf,ei t vs];omega
open Classical in
theorem kJ {t:ByteArray} {vs:List Vd} {k:Nat} {v:Vd} (h:vs[k]?=Y5 v):onOf t (vs.take (k+1))=onOf t (vs.take k)+(if InL v.zs t then 1 else 0):=by
 rw[YN,h,ei];simp[onOf]
def PQ1(c:Cl) (p:Pd):Prop:=(∀(j:Nat) t,p.zs[j]?=Y5 t->hit Xd.n c.xs t=Zb)/\(p.d=⟨#[]⟩\/aib c p)
def PQ2(c:Cl) (n:Nd):Prop:=cpuOf n.n c.ps<=n.c
def PQ3(c:Cl) (v:Vd):Prop:=v.x=Zb->¬v.m=⟨#[]⟩->AL c v.m
def qT(c:Cl):Prop:=(∀(j:Nat) z,c.ps[j]?=Y5 z->PQ1 c z)/\(∀(j:Nat) z,c.ns[j]?=Y5 z->PQ2 c z)/\(∀(j:Nat) z,c.vs[j]?=Y5 z->PQ3 c z)
def AQ1(c:Cl) (v:Vd):Prop:=∀(j:Nat) t,v.zs[j]?=Y5 t->∃(i:Nat) (n:Nd),c.ns[i]?=Y5 n/\n.n=t/\n.z=v.z
def AQ2(c:Cl) (n:Nd):Prop:=onOf n.n c.vs<=n.s
def py(c:Cl):Prop:=(∀(j:Nat) z,c.vs[j]?=Y5 z->AQ1 c z)/\(∀(j:Nat) z,c.ns[j]?=Y5 z->AQ2 c z)
def MQ2(c:Cl) (p:Pd):Prop:=p.p=2->amG c p
def nV(c:Cl):Prop:=(∀(j:Nat) z,c.ns[j]?=Y5 z->RD c z)/\(∀(j:Nat) z,c.ps[j]?=Y5 z->MQ2 c z)
def cq(c:Cl):Prop:=dI wV Nd.n c.ns 6/\dI xi Kd.n c.ks 8/\dI pA Vd.n c.vs 8/\dI gK Xd.n c.xs 8/\dI uS Pd.n c.ps 8
def aq(c:Cl):Prop:=Inn c.now 0 1000000/\cq c/\xW c/\qT c/\py c/\nV c
theorem cq.ne {c:Cl} (h:cq c) (j:Nat) (v:Vd) (hv:c.vs[j]?=Y5 v):¬v.n=⟨#[]⟩:=λe=>by
 have h1:=(h.2.2.1.2.1 j v hv).1.1;rw[e] at h1;exact absurd h1 ag
theorem cq.cpu {c:Cl} (h:cq c) (j:Nat) (p:Pd) (hp:c.ps[j]?=Y5 p):0<=p.c/\p.c<=1000000:=(h.2.2.2.2.2.1 j p hp).2.1
theorem bX(a:Option Addr) (len cap:Nat) (zs:List ByteArray) (t:ByteArray) (w:World) (hr:az w a len cap zs):
  Calls Tryz.prog 36 #[J a len cap,I t] w (au (InL zs t) w):=by
 have HR:=aa hr;have hlc:=Yp hr.2.1 hr.2.2.1;have hzl:=hr.1;clear hr;go_enter Tryz.func36,Tryz.ntmps36;go_wp2;go_loop [5] (λi=> ∃k:Nat,k<=len/\i=Y7 Y6 k/\Hid (∀(j:Nat) x,j<k->zs[j]?=Y5 x->¬x=t)) (λi=>len - (intOf i).toNat);case atStart=>exact⟨0,by omega,rfl,λ_ _ h=>absurd h af⟩
 case round=>
  obtain⟨k,hk,rfl,HE⟩:=hrel;by_cases hlt:k<len
  ·obtain⟨b,o,x,rfl,hb,hx,hc,hsz⟩:=HR.at hlt;have HX:=aa hx;clear hx;by_cases hn:x=t
   ·have hq:=aP hn;have HN:=aa hn;clear hn;go_wp2;go_ret;exact au.t ⟨k,by rw[HX.out,HN.out]⟩ (Yh _ _)
   ·have hq:=bu hn;have HN:=aa hn;clear hn;go_wp2;refine⟨⟨k+1,by omega,by go_num,λj z hj hz=>?_⟩,by simp[intOf];omega⟩;exact O1
  ·obtain rfl:len=k:=af
   go_wp2;go_ret;exact au.f (λ⟨j,hj⟩=>HE.out j t uo hj rfl) (Yh _ _)
theorem ft(d:Ad) (now:Int) (xs:List Nd) (t:ByteArray) (w:World) (hr:aT w d.a1 d.l1 d.c1 7 (xs.map ndF)) (hs:aF Nd.n xs) {j:Nat} {x:Nd} (hx:xs[j]?=Y5 x) (hn:x.n=t):
  Calls Tryz.prog 113 #[Zc #[J d.a1 d.l1 d.c1,J d.a2 d.l2 d.c2,J d.a3 d.l3 d.c3,J d.a4 d.l4 d.c4,J d.a5 d.l5 d.c5,Y7 Y6 now],I t] w λe w'=>e=Za (Y7 Y6 j)/\Below w.heap.size w w':=by
 refine (jf d now xs t w hr).mono ?_;exact uC
theorem AR(d:Ad) (now:Int) (xs:List Nd) (t:ByteArray) (w:World) (hr:aT w d.a1 d.l1 d.c1 7 (xs.map ndF)) (hn:∀(j:Nat) x,xs[j]?=Y5 x->¬x.n=t):
  Calls Tryz.prog 113 #[Zc #[J d.a1 d.l1 d.c1,J d.a2 d.l2 d.c2,J d.a3 d.l3 d.c3,J d.a4 d.l4 d.c4,J d.a5 d.l5 d.c5,Y7 Y6 now],I t] w λe w'=>e=Za (Y7 Y6 (-1))/\Below w.heap.size w w':=by
 refine (jf d now xs t w hr).mono ?_;exact uz
theorem d_(d:Ad) (now:Int) (xs:List Kd) (t:ByteArray) (w:World) (hr:aT w d.a2 d.l2 d.c2 4 (xs.map kdF)) (hs:aF Kd.n xs) {j:Nat} {x:Kd} (hx:xs[j]?=Y5 x) (hn:x.n=t):
  Calls Tryz.prog 38 #[Zc #[J d.a1 d.l1 d.c1,J d.a2 d.l2 d.c2,J d.a3 d.l3 d.c3,J d.a4 d.l4 d.c4,J d.a5 d.l5 d.c5,Y7 Y6 now],I t] w λe w'=>e=Za (Y7 Y6 j)/\Below w.heap.size w w':=by
 refine (jg d now xs t w hr).mono ?_;exact uC
theorem oq(d:Ad) (now:Int) (xs:List Kd) (t:ByteArray) (w:World) (hr:aT w d.a2 d.l2 d.c2 4 (xs.map kdF)) (hn:∀(j:Nat) x,xs[j]?=Y5 x->¬x.n=t):
  Calls Tryz.prog 38 #[Zc #[J d.a1 d.l1 d.c1,J d.a2 d.l2 d.c2,J d.a3 d.l3 d.c3,J d.a4 d.l4 d.c4,J d.a5 d.l5 d.c5,Y7 Y6 now],I t] w λe w'=>e=Za (Y7 Y6 (-1))/\Below w.heap.size w w':=by
 refine (jg d now xs t w hr).mono ?_;exact uz
theorem dZ(d:Ad) (now:Int) (xs:List Vd) (t:ByteArray) (w:World) (hr:aT w d.a3 d.l3 d.c3 8 (xs.map vdF)) (hs:aF Vd.n xs) {j:Nat} {x:Vd} (hx:xs[j]?=Y5 x) (hn:x.n=t):
  Calls Tryz.prog 40 #[Zc #[J d.a1 d.l1 d.c1,J d.a2 d.l2 d.c2,J d.a3 d.l3 d.c3,J d.a4 d.l4 d.c4,J d.a5 d.l5 d.c5,Y7 Y6 now],I t] w λe w'=>e=Za (Y7 Y6 j)/\Below w.heap.size w w':=by
 refine (je d now xs t w hr).mono ?_;exact uC
theorem ij(d:Ad) (now:Int) (xs:List Vd) (t:ByteArray) (w:World) (hr:aT w d.a3 d.l3 d.c3 8 (xs.map vdF)) (hn:∀(j:Nat) x,xs[j]?=Y5 x->¬x.n=t):
  Calls Tryz.prog 40 #[Zc #[J d.a1 d.l1 d.c1,J d.a2 d.l2 d.c2,J d.a3 d.l3 d.c3,J d.a4 d.l4 d.c4,J d.a5 d.l5 d.c5,Y7 Y6 now],I t] w λe w'=>e=Za (Y7 Y6 (-1))/\Below w.heap.size w w':=by
 refine (je d now xs t w hr).mono ?_;exact uz
theorem eM(d:Ad) (now:Int) (xs:List Xd) (t:ByteArray) (w:World) (hr:aT w d.a4 d.l4 d.c4 5 (xs.map xdF)) (hs:aF Xd.n xs) {j:Nat} {x:Xd} (hx:xs[j]?=Y5 x) (hn:x.n=t):
  Calls Tryz.prog 33 #[Zc #[J d.a1 d.l1 d.c1,J d.a2 d.l2 d.c2,J d.a3 d.l3 d.c3,J d.a4 d.l4 d.c4,J d.a5 d.l5 d.c5,Y7 Y6 now],I t] w λe w'=>e=Za (Y7 Y6 j)/\Below w.heap.size w w':=by
 refine (eN d now xs t w hr).mono ?_;exact uC
theorem eL(d:Ad) (now:Int) (xs:List Xd) (t:ByteArray) (w:World) (hr:aT w d.a4 d.l4 d.c4 5 (xs.map xdF)) (hn:∀(j:Nat) x,xs[j]?=Y5 x->¬x.n=t):
  Calls Tryz.prog 33 #[Zc #[J d.a1 d.l1 d.c1,J d.a2 d.l2 d.c2,J d.a3 d.l3 d.c3,J d.a4 d.l4 d.c4,J d.a5 d.l5 d.c5,Y7 Y6 now],I t] w λe w'=>e=Za (Y7 Y6 (-1))/\Below w.heap.size w w':=by
 refine (eN d now xs t w hr).mono ?_;exact uz
def amD(c:Cl) (t:ByteArray) (w:World) (e:Ending) (w':World):Prop:=
 Below w.heap.size w w'/\((∃(j:Nat) (v:Vd),c.vs[j]?=Y5 v/\aO c t v/\e=Za (Y7 Y6 j))\/((∀v,¬aO c t v)/\e=Za (Y7 Y6 (-1))))
theorem im(d:Ad) (c:Cl) (t:ByteArray) (w:World) (hr:aB w d c.raw) (hx:aF Xd.n c.xs) (hv:aF Vd.n c.vs) (hne:∀(j:Nat) v,c.vs[j]?=Y5 v->¬v.n=⟨#[]⟩):
  Calls Tryz.prog 34 #[Zc #[J d.a1 d.l1 d.c1,J d.a2 d.l2 d.c2,J d.a3 d.l3 d.c3,J d.a4 d.l4 d.c4,J d.a5 d.l5 d.c5,Y7 Y6 c.now],I t] w (amD c t w):=by
 have z535z:=@aa _ @aaw;exact cP
theorem fv(d:Ad) (c:Cl) (t:ByteArray) (w:World) (hr:aB w d c.raw) (hx:aF Xd.n c.xs) (hv:aF Vd.n c.vs) (hne:∀(j:Nat) v,c.vs[j]?=Y5 v->¬v.n=⟨#[]⟩) {j:Nat} {v:Vd} (hj:c.vs[j]?=Y5 v) (hb:aO c t v):
  Calls Tryz.prog 34 #[Zc #[J d.a1 d.l1 d.c1,J d.a2 d.l2 d.c2,J d.a3 d.l3 d.c3,J d.a4 d.l4 d.c4,J d.a5 d.l5 d.c5,Y7 Y6 c.now],I t] w λe w'=>e=Za (Y7 Y6 j)/\Below w.heap.size w w':=by
 refine (im d c t w hr hx hv hne).mono ?_;rintro e w' ⟨hw,h⟩;rcases h with ⟨i,u,h1,h2,rfl⟩|⟨h1,rfl⟩
 ·obtain rfl:=aO.inj hx hv h2 hb;obtain⟨rfl,_⟩:=hv.inj h1 hj rfl;exact⟨rfl,hw⟩
 ·exact absurd hb (h1 v)
theorem fO(d:Ad) (c:Cl) (t:ByteArray) (w:World) (hr:aB w d c.raw) (hx:aF Xd.n c.xs) (hv:aF Vd.n c.vs) (hne:∀(j:Nat) v,c.vs[j]?=Y5 v->¬v.n=⟨#[]⟩) (hb:∀v,¬aO c t v):
  Calls Tryz.prog 34 #[Zc #[J d.a1 d.l1 d.c1,J d.a2 d.l2 d.c2,J d.a3 d.l3 d.c3,J d.a4 d.l4 d.c4,J d.a5 d.l5 d.c5,Y7 Y6 c.now],I t] w λe w'=>e=Za (Y7 Y6 (-1))/\Below w.heap.size w w':=by
 refine (im d c t w hr hx hv hne).mono ?_;rintro e w' ⟨hw,h⟩;rcases h with ⟨i,u,h1,h2,rfl⟩|⟨h1,rfl⟩
 ·exact absurd h2 (hb u)
 ·exact⟨rfl,hw⟩
theorem aO.at {c:Cl} {t:ByteArray} {v:Vd} (h:aO c t v):∃j:Nat,c.vs[j]?=Y5 v:=by
 obtain⟨_,j,_,_,_,h,_⟩:=h;exact⟨j,h⟩
theorem ki(d:Ad) (now:Int) (ps:List Pd) (t:ByteArray) (w:World) (hr:aT w d.a5 d.l5 d.c5 6 (ps.map pdF)) (hl:ps.length<=8) (hp:∀(j:Nat) p,ps[j]?=Y5 p->0<=p.c/\p.c<=1000000):
  Calls Tryz.prog 115 #[Zc #[J d.a1 d.l1 d.c1,J d.a2 d.l2 d.c2,J d.a3 d.l3 d.c3,J d.a4 d.l4 d.c4,J d.a5 d.l5 d.c5,Y7 Y6 now],I t] w λe w'=>e=Za (Y7 Y6 (cpuOf t ps))/\Below w.heap.size w w':=by
 have z427z:=@aa _ @abY;exact zx
theorem yh(d:Ad) (now:Int) (vs:List Vd) (t:ByteArray) (w:World) (hr:aT w d.a3 d.l3 d.c3 8 (vs.map vdF)) (hl:vs.length<=8):
  Calls Tryz.prog 116 #[Zc #[J d.a1 d.l1 d.c1,J d.a2 d.l2 d.c2,J d.a3 d.l3 d.c3,J d.a4 d.l4 d.c4,J d.a5 d.l5 d.c5,Y7 Y6 now],I t] w λe w'=>e=Za (Y7 Y6 (onOf t vs))/\Below w.heap.size w w':=by
 obtain⟨a1,l1,y1,a2,l2,y2,a3,l3,y3,a4,l4,y4,a5,l5,y5⟩:=d;dsimp only at hr ⊢;have HR:=aa hr;have hxl:vs.length=l3:=fg
 clear hr;go_enter Tryz.func116,Tryz.ntmps116;go_wp2;go_loopw [5,6] (λq i wr=> ∃(k:Nat) (s:Int),k<=l3/\q=Y7 Y6 s/\i=Y7 Y6 k/\Hid (s=onOf t (vs.take k))/\0<=s/\s<=k/\Hid (Below w.heap.size w wr)/\Hid (wr.heap[w.heap.size]?=Y5 (Y8 (clo6 a1 l1 y1 a2 l2 y2 a3 l3 y3 a4 l4 y4 a5 l5 y5 now) 29 (0,0)))) (λ_ i _=>l3 - (intOf i).toNat);case atStart=>exact⟨0,0,by omega,rfl,rfl,rfl,by omega,by omega,ak _ _,Yg⟩
 case round=>
  obtain⟨k,s,hk,rfl,rfl,HS,hs0,hs1,HB,Bk⟩:=hrel;have kk:=ck2 Bk;by_cases hlt:k<l3
  ·obtain⟨b,o,v,rfl,hb,hx,hat⟩:=bK (HR.below HB.out) hlt;have z280z:=@aa _ @adK;exact fV
  ·obtain rfl:l3=k:=af
   exact wR
def pw(c:Cl) (p q:Pd):Prop:=p.d=⟨#[]⟩\/q.d=⟨#[]⟩\/p.d=q.d\/∀(j:Nat) t,p.zs[j]?=Y5 t->∀v,aO c t v->v.x=Zb->¬InL q.zs t
theorem ik(d:Ad) (c:Cl) (p q:Pd) (pa:Option Addr) (pl pc:Nat) (qa:Option Addr) (ql qc:Nat) (w:World) (hr:aB w d c.raw) (hx:aF Xd.n c.xs) (hv:aF Vd.n c.vs) (hne:∀(j:Nat) v,c.vs[j]?=Y5 v->¬v.n=⟨#[]⟩) (hp:az w pa pl pc p.zs) (hq:az w qa ql qc q.zs):
  Calls Tryz.prog 114 #[Zc #[J d.a1 d.l1 d.c1,J d.a2 d.l2 d.c2,J d.a3 d.l3 d.c3,J d.a4 d.l4 d.c4,J d.a5 d.l5 d.c5,Y7 Y6 c.now],Zc #[I p.n,Y7 Y6 p.c,I p.z,J pa pl pc,I p.d,Y7 Y6 p.p],Zc #[I q.n,Y7 Y6 q.c,I q.z,J qa ql qc,I q.d,Y7 Y6 q.p]] w (au (pw c p q) w):=by
 have z535z:=@aa _ @aav;exact cP
theorem A0(d:Ad) (c:Cl) (w:World) (hr:aB w d c.raw):
  Calls Tryz.prog 68 #[Zc #[J d.a1 d.l1 d.c1,J d.a2 d.l2 d.c2,J d.a3 d.l3 d.c3,J d.a4 d.l4 d.c4,J d.a5 d.l5 d.c5,Y7 Y6 c.now]] w (au (cq c) w):=by
 have z448z:=@aa _ @abK;exact b_
def agU(c:Cl) (t:ByteArray):Prop:=∃(i:Nat) (k:Kd),c.ks[i]?=Y5 k/\k.n=t
def SV(c:Cl) (v:Vd):Prop:=agU c v.k/\(v.m=⟨#[]⟩\/∃(i:Nat) (x:Xd),c.xs[i]?=Y5 x/\x.n=v.m/\x.v=v.n)
def SX(c:Cl) (x:Xd):Prop:=agU c x.k/\(x.v=⟨#[]⟩\/∃(j:Nat) (v:Vd),c.vs[j]?=Y5 v/\v.n=x.v/\v.m=x.n/\x.z<=v.c/\v.k=x.k/\v.x=x.x)
def xV(c:Cl):Prop:=(∀(j:Nat) z,c.vs[j]?=Y5 z->SV c z)/\(∀(j:Nat) z,c.xs[j]?=Y5 z->SX c z)
theorem vK(d:Ad) (c:Cl) (w:World) (hr:aB w d c.raw) (hks:aF Kd.n c.ks) (hxs:aF Xd.n c.xs) (hvs:aF Vd.n c.vs):
  Calls Tryz.prog 69 #[Zc #[J d.a1 d.l1 d.c1,J d.a2 d.l2 d.c2,J d.a3 d.l3 d.c3,J d.a4 d.l4 d.c4,J d.a5 d.l5 d.c5,Y7 Y6 c.now]] w (au (xV c) w):=by
 have z448z:=@aa _ @abJ;exact b_
end Rc
end Go.Proofs.YtfhdfmdaiookjaaGreatDoor
