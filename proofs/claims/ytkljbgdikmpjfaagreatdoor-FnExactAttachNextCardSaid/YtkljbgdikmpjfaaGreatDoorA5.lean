import Derived.Test.YtkljbgdikmpjfaaGreatDoorA4
import Derived.Shelf.Strings.OnBuilder
/-
 A pair put in its place, as the program puts it.
-/
set_option maxRecDepth 100000
set_option maxHeartbeats 12800000
namespace Go.Proofs.YtkljbgdikmpjfaaGreatDoor
open Go.RowKit
namespace Rc
open Mk

theorem own_new {w : World} {e : TypeId} {size : Nat} {z : Value} (hzs : z.cells.size = size) {k old : Nat} {xs : List Value} (hl : xs.length = k * size) (h63 : k ≤ maxLen) {base : Nat} (hb : base ≤ w.heap.size) :
  (w.drew.alloc (.cells (xs.toArray ++ Builtin.zeroCells z.cells (grownCap w k old e - k)) e)).ownsRow base e size (.slice (some ⟨w.heap.size,0,none⟩) k (grownCap w k old e)) k xs ∧ Below w.heap.size w (w.drew.alloc (.cells (xs.toArray ++ Builtin.zeroCells z.cells (grownCap w k old e - k)) e)):=by
 have hge:=grownCap_ge w k old e;have hcm : grownCap w k old e ≤ maxLen:=grownCap_le_maxLen w k old e h63;refine ⟨⟨hl,.inr ⟨w.heap.size,_,_,rfl,hb,heap_alloc_new w.drew _,hge,hcm,?_,?_⟩⟩,⟨rfl,rfl,rfl,by simp,fun j hj => Below.heap_alloc w.drew _ j hj⟩⟩
 ·simp only [Array.size_append,List.size_toArray,size_zeroCells,hzs,hl,← Nat.add_mul]
  congr 1
  omega
 ·simp only [Array.toList_append];rw [← hl];exact List.take_left
theorem run_append_cut (w : World) (t ty e : TypeId) (i : TypeInfo) (z : Value) (size bytes : Nat) (ht : Tryz.prog.underlying t = some (.slice e)) (hi : Tryz.prog.info? e = some i) (hz : i.zero = some z)
  (hsize : i.size = size) (hby : i.bytes = bytes) (hzs : z.cells.size = size)
  (bs : Option Addr) (n : Nat) (olds : List Value) (hlo : olds.length = n * size) (hn0 : bs = none → n = 0) (holds : ∀ (j : Nat) u,olds[j]? = some u → ∃ ad : Addr,bs = some ad ∧ w.cell? (ad.add j) = some u)
  (ad : Addr) (m c : Nat) (news : List Value) (hm : 0 < m) (hl : news.length = m * size) (hnews : ∀ (j : Nat) u,news[j]? = some u → w.cell? (ad.add j) = some u)
  (h63 : n + m ≤ maxLen) (hbytes : (n + m) * bytes ≤ 140737488355328) : ∃ v' w',(Builtin.append_ #[t,t] ty #[.slice bs n n,.slice (some ad) m c]).run Tryz.prog w = .ok v' w' ∧ w'.ownsRow w.heap.size e size v' (n + m) (olds ++ news) ∧ Below w.heap.size w w':=by
 subst hsize;subst hby
 have hsmall : n + m ≤ 9223372036854775807:=by simp only [maxLen] at h63;omega
 have hall : (olds ++ news).length = (n + m) * i.size:=by rw [List.length_append,hlo,hl,Nat.add_mul]
 rcases bs with _ | b
 ·obtain rfl:=hn0 rfl;have h0 : olds = []:=List.eq_nil_of_length_eq_zero (by simpa using hlo);subst h0;have hr:=run_append_nil (P:=Tryz.prog) w t ty e i z ht hi hz ad m c news hl hnews hm (by omega) (by have hb:=hbytes;simp only [Nat.zero_add] at hb;omega);have h2:=own_new (w:=w) (e:=e) (old:=0) hzs hl (by omega : m ≤ maxLen) (Nat.le_refl w.heap.size);exact ⟨_,_,hr,by simpa using h2.1,h2.2⟩
 ·have hr:=run_append_grow (P:=Tryz.prog) w t ty e i z ht hi hz b n n olds hlo (fun j u hu => by obtain ⟨ad',e',h3⟩:=holds j u hu;cases e';exact h3) ad m c news hl hnews (by omega) (by omega) (growslice_fits (by omega) hbytes);have h2:=own_new (w:=w) (e:=e) (old:=n) hzs hall h63 (Nat.le_refl w.heap.size)
  have h9 : (olds ++ news).toArray = olds.toArray ++ news.toArray:=by simp
  rw [h9] at h2;exact ⟨_,_,hr,h2.1,h2.2⟩
theorem wp_append_run {w : World} {o : Oper} {a : Act} {K : Act → World → Prop} {Q : Exit → Act → World → Prop} (s x : Operand) (t : TypeId) (ho : o.op = .call { callee:=.builtin .append,args:=#[s,x],argTypes:=#[t,t] }) {v u v' : Value} {w' : World} (hs : a.eval s = v) (hx : a.eval x = u)
  (hr : (Builtin.append_ #[t,t] o.type #[v,u]).run Tryz.prog w = .ok v' w') (h : K (a.put o.dst v') w') : o.wp Tryz.prog a w K Q:=by
 unfold Oper.wp execOp;simp only [ho,resolve,invoke,builtin,Sem.run_bind,Sem.run_pure,Result.andThen_ok,List.map_toArray,List.map_cons,List.map_nil,hs,hx,hr];exact h
structure Lq (B : Nat) (w w' : World) : Prop where
 os : w'.os = w.os
 tape : w'.tape = w.tape
 output : w'.output = w.output
 size : w.heap.size ≤ w'.heap.size
 block : ∀ k,k < w.heap.size → (k < B ∨ ∃ (cs : Array Value) (T : TypeId),w.heap[k]? = some (.cells cs T (0,0)) ∧ cs.size = 2) → w'.heap[k]? = w.heap[k]?
theorem Lq.of_below {B : Nat} {w w' : World} (h : Below w.heap.size w w') : Lq B w w':=⟨h.os,h.tape,h.output,h.size,fun k hk _ => h.block k hk⟩
theorem Lq.trans {B : Nat} {a b c : World} (h : Lq B a b) (k : Lq B b c) : Lq B a c:=⟨k.os.trans h.os,k.tape.trans h.tape,k.output.trans h.output,Nat.le_trans h.size k.size,fun i hi hp => by
 have h1:=h.block i hi hp
 exact (k.block i (Nat.lt_of_lt_of_le hi h.size) (hp.imp id (fun ⟨cs,T,h2,h3⟩ => ⟨cs,T,h1.trans h2,h3⟩))).trans h1⟩
theorem Lq.low {w w' : World} (h : Lq w.heap.size w w') : Below w.heap.size w w':=⟨h.os,h.tape,h.output,h.size,fun k hk => h.block k hk (.inl hk)⟩
def Rq (B : Nat) (sp : Tmp) : Gi.Rs:=fun s w w' => match s with
 | none => Lq B w w'
 | some t => if t = sp then Lq B w w' else Below w.heap.size w w'
theorem Rq.below {B : Nat} {sp : Tmp} {s : Option Tmp} {w w' : World} (h : Rq B sp s w w') (h1 : ¬ s = none) (h2 : ¬ s = some sp) : Below w.heap.size w w':=by
 cases s with
 | none => exact absurd rfl h1
 | some t =>
  simp only [Rq] at h;rw [if_neg (fun e => h2 (by rw [e]))] at h;exact h
theorem Rq.rel (B : Nat) (sp : Tmp) : Gi.Rel (Rq B sp) sp:=by
 refine ⟨fun w => Lq.of_below (Below.refl _ _),fun {a b c} h k => Lq.trans h k,fun h => Lq.size h,fun w => Lq.of_below (Below.refl _ _).drew,fun s {a b} h => ?_,fun s {a b} h1 h2 h => Rq.below h h1 h2⟩
 cases s with
 | none => exact h
 | some t =>
  show Lq B a b
  simp only [Rq] at h
  split at h
  ·exact h
  ·exact Lq.of_below h
theorem Rq.other {B : Nat} {sp t : Tmp} {w w' : World} (ht : ¬ t = sp) (h : Below w.heap.size w w') : Rq B sp (some t) w w':=by
 show (if t = sp then Lq B w w' else Below w.heap.size w w')
 rw [if_neg ht];exact h
theorem Rq.this {B : Nat} {sp : Tmp} {w w' : World} (h : Lq B w w') : Rq B sp (some sp) w w':=by
 show (if sp = sp then Lq B w w' else Below w.heap.size w w')
 rw [if_pos rfl];exact h
def B1F (x : Qd) : Gi.Fact:=fun u w _ _ => ∃ b,u = .slice (some ⟨b,0,none⟩) 1 1 ∧ w.heap[b]? = some (.cells #[.string x.n,.string x.d] 63 (0,0))
theorem B1F.mono {B : Nat} {sp : Tmp} {ex : Gi.Ex} {d : Option Tmp} {x : Qd} : Gi.Fact.Mono (Rq B sp) ex d (B1F x):=by
 rintro s _ _ _ v w w' l h ⟨b,h1,h2⟩ hb;have hb : Lq B w w':=(Rq.rel B sp).sub s hb;exact ⟨b,h1,(hb.block b (lt_of_some h2) (.inr ⟨_,_,h2,rfl⟩)).trans h2⟩
def OwG (B n : Nat) (xs : List Value) : Gi.Fact:=fun u w _ _ => w.ownsRow B 63 2 u n xs
theorem OwG.mono {B B' n : Nat} {sp t : Tmp} {ex : Gi.Ex} {xs : List Value} (hx : t = sp ∨ ex t = some sp) : Gi.Fact.Mono (Rq B sp) ex (some t) (OwG B' n xs):=by
 rintro s h1 h2 h3 v w w' l h ho hb;refine owns_below ho (Rq.below hb h1 (fun e => ?_))
 rcases hx with rfl | hx
 ·exact h2 e
 ·exact h3 t sp rfl hx e
theorem run_append_lq (w : World) (B : Nat) (t ty e : TypeId) (i : TypeInfo) (z : Value) (bytes : Nat) (ht : Tryz.prog.underlying t = some (.slice e)) (hi : Tryz.prog.info? e = some i) (hz : i.zero = some z)
  (hsize : i.size = 2) (hby : i.bytes = bytes) (hzs : z.cells.size = 2) (v : Value) (n : Nat) (xs : List Value) (hn : 0 < n) (hown : w.ownsRow B e 2 v n xs)
  (ax : Option Addr) (m c : Nat) (news : List Value) (hl : news.length = m * 2) (hnews : ∀ (j : Nat) u,news[j]? = some u → ∃ ad : Addr,ax = some ad ∧ w.cell? (ad.add j) = some u) (h1 : ∀ u ∈ news,u.oneCell' = true)
  (h63 : n + m ≤ maxLen) (hbytes : (n + m) * bytes ≤ 140737488355328) (hbase : B ≤ w.heap.size) :
  ∃ v' w',(Builtin.append_ #[t,t] ty #[v,.slice ax m c]).run Tryz.prog w = .ok v' w' ∧ w'.ownsRow B e 2 v' (n + m) (xs ++ news) ∧ Lq B w w':=by
 rcases Nat.eq_zero_or_pos m with rfl | hm
 ·have h0 : news = []:=List.eq_nil_of_length_eq_zero (by simpa using hl);subst h0;exact ⟨v,w,run_append_empty ht hi hown ax c,by simpa using hown,Lq.of_below (Below.refl _ _)⟩
 ·obtain ⟨ad,rfl,_⟩:=hnews 0 (news[0]'(by omega)) (List.getElem?_eq_getElem _)
  have hnw : ∀ (j : Nat) u,news[j]? = some u → w.cell? (ad.add j) = some u:=fun j u hu => by
   obtain ⟨ad',e',h3⟩:=hnews j u hu
   cases e'
   exact h3
  obtain ⟨v',w',hr,h2,h3,h4⟩:=run_append_own (P:=Tryz.prog) w B t ty e i z 2 bytes ht hi hz hsize hby hzs (by decide) v n xs hown ad m c news hl hnw h1 h63 hbytes hbase;refine ⟨v',w',hr,h2,⟨h3.os,h3.tape,h3.output,h3.size,fun k hk hp => ?_⟩⟩
  by_cases hkg : some k = v.ownBlock
  ·rcases hown.2 with ⟨rfl,h5⟩ | ⟨g,cap,cur,rfl,hbg,hg,hnc,hcm,hcs,htake⟩
   ·omega
   ·obtain rfl : k = g:=by simpa [Value.ownBlock] using hkg
    have hc1 : cap < n + m:=by
     rcases hp with hp | ⟨cs,T,h6,h7⟩
     ·omega
     ·rw [hg] at h6
      cases h6
      omega
    have hsm : n + m ≤ 9223372036854775807:=by simp only [maxLen] at h63;omega
    have holds : ∀ (j : Nat) u,xs[j]? = some u → w.cell? ((⟨k,0,none⟩ : Addr).add j) = some u:=hown.cells (g:=k) rfl;subst hby;have hr2:=run_append_grow (P:=Tryz.prog) w t ty e i z ht hi hz ⟨k,0,none⟩ n cap xs (by rw [hsize];exact hown.1) holds ad m c news (by rw [hsize];exact hl) hnw (by omega) (by omega) (growslice_fits (by omega) hbytes);rw [hr] at hr2
    cases hr2
    exact Below.heap_alloc w.drew _ k hk
  ·exact h3.block k hk hkg

theorem iputQ_any (a : Option Addr) (len cap : Nat) (zs : List Qd) (x : Qd) (B : Nat) (w : World) (ho : ROwn w a len cap 2 63 (zs.map qdF) (fun k => B ≤ k)) (hB : B ≤ w.heap.size) (hri : RQ zs) (hl : len ≤ 64) (hx1 : x.n.size ≤ 9223372036854775807) (hx2 : x.d.size ≤ 9223372036854775807) :
  Calls Tryz.prog 90 #[.slice a len cap,.agg #[.string x.n,.string x.d],.func (.func 91) #[] #[]] w (PutQAns x zs B w):=by
 have hll : zs.length = len:=by simpa using ho.1
 have hlc : len ≤ cap:=ho.2.1;have hcm : cap ≤ 9223372036854775807:=ho.2.2.1;have HR:=hidK ho.row;have HOW0:=hidK ho;have HRI:=hidK hri;have HB:=hidK (Below.refl w.heap.size w);obtain ⟨vss,H,hV,hcell⟩:=ho.recs
 have hvl : vss.length = len:=by rw [hV.len,List.length_map,hll]
 have HC : Hid (∀ (j : Nat) u,vss.flatten[j]? = some u → ∃ b,a = some ⟨b,0,none⟩ ∧ w.cell? ⟨b,j,none⟩ = some u):=fun j u hj => by
  obtain ⟨b,e,_,h3⟩:=hcell j u hj;exact ⟨b,e,h3⟩
 have HVA:=hidK hV.all;have HV1:=hidK hV.one;have HFIN : Hid (∀ (w4 : World) v4 base k,k ≤ len → w.heap.size ≤ base → Below w.heap.size w w4 → w4.ownsRow base 63 2 v4 (len + 1) (inAt k [.string x.n,.string x.d] vss).flatten → ∃ a' c',v4 = .slice a' (len + 1) c' ∧ ROwn w4 a' (len + 1) c' 2 63 ((inAt k x zs).map qdF) (fun k => B ≤ k)):=fun w4 v4 base k hk hbs hB4 ho4 => qd_ins hV hll hk hB4 hx1 hx2 (fun k hk => by omega) ho4;obtain ⟨i5,hi5',hz0,hz1,hz2⟩:=info_parts infoqd;have HI0:=hidK (And.intro hi5' (And.intro hz0 (And.intro hz1 hz2)));clear hi5' hz0 hz1 hz2 hV hcell ho hri
 go_enter Tryz.func90,Tryz.ntmps90
 go_wp2_with fail;refine (ibs_any a len cap zs x _ (HR.out.below (below1 _ _)) HRI.out hl).mono ?_;rintro e w1 ⟨k,f,rfl,hk,hlt,hfd,hb⟩;obtain ⟨HA0,hbx⟩:=slots1 hb;have Bx:=hidK HA0;replace HB:=upB HB hbx;clear hb hbx HA0;have HLT:=hidK hlt;clear hlt
 rcases hfd with ⟨rfl,hxk⟩ | ⟨rfl,hgt⟩
 ·have HP : Hid (PutQ x zs zs):=.inl ⟨List.mem_of_getElem? hxk,rfl⟩;clear hxk;obtain ⟨x0,x1⟩:=cs2 Bx.out;have ltx_1:=lt_of_some Bx.out
  go_wp2
  go_ret;exact ⟨_,_,_,_,rfl,HOW0.out.below HB.out,HP.out,HB.out⟩
 have HP : Hid (PutQ x zs (inAt k x zs)):=.inr ⟨k,hk,rfl,HLT.out,hgt⟩
 have hkl : k ≤ len:=by omega
 have hkc : k ≤ cap:=by omega
 have hik : (k : Int) ≤ len:=by omega
 have hic : (k : Int) ≤ cap:=by omega
 clear hgt hk
 rcases a with _ | ⟨b2,f2,sp⟩
 ·have hl0 : len = 0:=Classical.byContradiction fun hne0 => by
   have h1 : vss[0]? = some (vss[0]'(by omega)):=List.getElem?_eq_getElem _
   have h2 : 0 < (vss[0]'(by omega)).length:=by rw [HVA.out 0 _ h1];decide
   obtain ⟨g,e,_⟩:=HC.out _ _ (flat_at HVA.out h1 (List.getElem?_eq_getElem h2))
   cases e
  obtain rfl : k = 0:=by omega
  subst hl0
  by_cases hcap : cap = 0
  all_goals (
   obtain ⟨x0,x1⟩:=cs2 Bx.out;have ltx_1:=lt_of_some Bx.out;go_wp2_with fail;clear x0 x1 ltx_1;rename_i K0 hK0;refine Gi.wp_region_grow_last (R:=Rq w1.heap.size 28) (ex:=fun q => if q = 24 then some 28 else none) (Rq.rel _ _) (by kernel_rfl) rfl rfl (by kernel_rfl) (by kernel_rfl) ?_;refine' Gi.Grow.stepC _ rfl ?_ ?_;rotate_left 1
   ·refine Gi.Obl.plain rfl ?_;intro ac wg K lo hi hsz hW hpr hf hap hK;clear hsz hap hpr;have hW : Lq w1.heap.size w1 wg:=hW;have e0:=hf 0 (by decide)
    simp [Gi.slotFact,List.lookup] at e0
    clear hf;go_simp;refine hK _ _ (Rq.other (by decide) (Below.refl _ _)) ?_;with_reducible rfl
   refine' Gi.Grow.stepC _ rfl ?_ ?_;rotate_left 1
   ·refine Gi.Obl.plain rfl ?_;intro ac wg K lo hi hsz hW hpr hf hap hK;clear hsz hap hpr;have hW : Lq w1.heap.size w1 wg:=hW;have e7:=hf 7 (by decide)
    simp [Gi.slotFact,List.lookup] at e7
    clear hf;go_simp;refine hK _ _ (Rq.other (by decide) (Below.refl _ _)) ?_;with_reducible rfl
   refine' Gi.Grow.stepC _ rfl ?_ ?_;rotate_left 1
   ·refine Gi.Obl.plain rfl ?_;intro ac wg K lo hi hsz hW hpr hf hap hK;clear hsz hap hpr;have hW : Lq w1.heap.size w1 wg:=hW;have e7:=hf 7 (by decide)
    simp [Gi.slotFact,List.lookup] at e7
    clear hf;go_simp;refine hK _ _ (Rq.other (by decide) (Below.refl _ _)) ?_;with_reducible rfl
   refine' Gi.Grow.stepC _ rfl ?_ ?_;rotate_left 1
   ·refine Gi.Obl.plain rfl ?_;intro ac wg K lo hi hsz hW hpr hf hap hK;clear hsz hap hpr;have hW : Lq w1.heap.size w1 wg:=hW;have e18:=hf 18 (by decide)
    simp [Gi.slotFact,List.lookup] at e18
    have e19:=hf 19 (by decide)
    simp [Gi.slotFact,List.lookup] at e19
    have e20:=hf 20 (by decide)
    simp [Gi.slotFact,List.lookup] at e20
    clear hf;go_simp;refine hK _ _ (Rq.other (by decide) (Below.refl _ _)) ?_;with_reducible rfl
   refine' Gi.Grow.stepC _ rfl ?_ ?_;rotate_left 1
   ·refine Gi.Obl.plain rfl ?_;intro ac wg K lo hi hsz hW hpr hf hap hK;clear hsz hap hpr;have hW : Lq w1.heap.size w1 wg:=hW;have e4:=hf 4 (by decide)
    simp [Gi.slotFact,List.lookup] at e4
    clear hf;obtain ⟨k0,k1⟩:=cs2 ((hW.low.block _ (lt_of_some Bx.out)).trans Bx.out);go_simp;refine hK _ _ (Rq.other (by decide) (Below.refl _ _)) ?_;with_reducible rfl
   refine Gi.Grow.step (B1F x) rfl (B1F.mono) ?_ ?_
   ·refine Gi.Obl.plain rfl ?_;intro ac wg K lo hi hsz hW hpr hf hap hK;clear hsz hap hpr;have hW : Lq w1.heap.size w1 wg:=hW;have e22:=hf 22 (by decide)
    simp [Gi.slotFact,List.lookup] at e22
    clear hf;go_simp;exact hK _ _ (Rq.other (by decide) (below1 _ _)) ⟨_,rfl,Array.getElem?_push_size⟩
   refine Gi.Grow.step (OwG w1.heap.size (0 + 1) ((vss.take 0).flatten ++ [.string x.n,.string x.d])) rfl (OwG.mono (.inr rfl)) ?_ ?_
   ·refine Gi.Obl.plain rfl ?_;intro ac wg K lo hi hsz hW hpr hf hap hK;clear hsz hap hpr;have hW : Lq w1.heap.size w1 wg:=hW;have e21:=hf 21 (by decide)
    simp [Gi.slotFact,List.lookup] at e21
    have e23:=hf 23 (by decide)
    simp [Gi.slotFact,List.lookup] at e23
    clear hf
    have HCG : Hid (∀ (j : Nat) u,vss.flatten[j]? = some u → ∃ b,(none : Option Addr) = some ⟨b,0,none⟩ ∧ wg.cell? ⟨b,j,none⟩ = some u):=fun j u hj => by
     obtain ⟨b,e,h3⟩:=HC.out j u hj;exact ⟨b,e,(cell_below (HB.out.trans (hW.low.mono HB.out.size)) (World.block_lt_of_cell? _ _ h3)).trans h3⟩
    obtain ⟨b5,e23,hg5⟩:=e23
    obtain ⟨v',w',hr,h2,h3⟩:=run_append_cut wg 30 30 63 i5 (.agg #[.string ⟨#[]⟩,.string ⟨#[]⟩]) 2 32 Tryz.underlying30 HI0.out.1 HI0.out.2.1 HI0.out.2.2.1 HI0.out.2.2.2 rfl none 0 (vss.take 0).flatten (take_flat HVA.out (by omega)) (fun e => Classical.byContradiction fun hne => by
     have h1 : vss[0]? = some (vss[0]'(by omega)):=List.getElem?_eq_getElem _
     have h2 : 0 < (vss[0]'(by omega)).length:=by rw [HVA.out 0 _ h1];decide
     obtain ⟨g,e',_⟩:=HC.out _ _ (flat_at HVA.out h1 (List.getElem?_eq_getElem h2));rw [e] at e'
     cases e') (fun j u hu => by
     obtain ⟨g,e',h3⟩:=HCG.out _ _ (take_at hu)
     exact ⟨_,e',by rw [Addr.add_lit,Nat.zero_add];exact h3⟩) ⟨b5,0,none⟩ 1 1 [.string x.n,.string x.d] (by decide) rfl (news_blk hg5) (by unfold maxLen;omega) (by omega)
    refine wp_append_run (.tmp 21) (.tmp 23) 30 rfl (by simpa [Act.eval] using e21) (by simpa [Act.eval] using e23) hr ?_;refine hK _ _ (Rq.other (by decide) h3) ?_;obtain ⟨h4,h5⟩:=h2;refine ⟨h4,h5.imp id ?_⟩;rintro ⟨g,cap',cur,h6,h7,h8⟩;exact ⟨g,cap',cur,h6,Nat.le_trans hW.size h7,h8⟩
   refine' Gi.Grow.stepC _ rfl ?_ ?_;rotate_left 1
   ·refine Gi.Obl.plain rfl ?_;intro ac wg K lo hi hsz hW hpr hf hap hK;clear hsz hap hpr;have hW : Lq w1.heap.size w1 wg:=hW;have e0:=hf 0 (by decide)
    simp [Gi.slotFact,List.lookup] at e0
    clear hf;go_simp;refine hK _ _ (Rq.other (by decide) (Below.refl _ _)) ?_;with_reducible rfl
   refine' Gi.Grow.stepC _ rfl ?_ ?_;rotate_left 1
   ·refine Gi.Obl.plain rfl ?_;intro ac wg K lo hi hsz hW hpr hf hap hK;clear hsz hap hpr;have hW : Lq w1.heap.size w1 wg:=hW;have e7:=hf 7 (by decide)
    simp [Gi.slotFact,List.lookup] at e7
    clear hf;go_simp;refine hK _ _ (Rq.other (by decide) (Below.refl _ _)) ?_;with_reducible rfl
   refine' Gi.Grow.stepC _ rfl ?_ ?_;rotate_left 1
   ·refine Gi.Obl.plain rfl ?_;intro ac wg K lo hi hsz hW hpr hf hap hK;clear hsz hap hpr;have hW : Lq w1.heap.size w1 wg:=hW;have e25:=hf 25 (by decide)
    simp [Gi.slotFact,List.lookup] at e25
    have e26:=hf 26 (by decide)
    simp [Gi.slotFact,List.lookup] at e26
    clear hf;go_simp;refine hK _ _ (Rq.other (by decide) (Below.refl _ _)) ?_;with_reducible rfl
   refine Gi.Grow.step (OwG w1.heap.size (0 + 1) (inAt 0 [.string x.n,.string x.d] vss).flatten) rfl (OwG.mono (.inl rfl)) ?_ ?_
   ·refine Gi.Obl.plain rfl ?_;intro ac wg K lo hi hsz hW hpr hf hap hK;clear hsz hap;have hW : Lq w1.heap.size w1 wg:=hW;have e24:=hf 24 (by decide)
    simp [Gi.slotFact,List.lookup] at e24
    have e27:=hf 27 (by decide)
    simp [Gi.slotFact,List.lookup] at e27
    clear hf
    have HCG : Hid (∀ (j : Nat) u,vss.flatten[j]? = some u → ∃ b,(none : Option Addr) = some ⟨b,0,none⟩ ∧ wg.cell? ⟨b,j,none⟩ = some u):=fun j u hj => by
     obtain ⟨b,e,h3⟩:=HC.out j u hj;exact ⟨b,e,(cell_below (HB.out.trans (hW.low.mono HB.out.size)) (World.block_lt_of_cell? _ _ h3)).trans h3⟩
    have hbW : Below w1.heap.size w1 wg:=hpr rfl;clear hpr
    have e24' : wg.ownsRow w1.heap.size 63 2 (ac.tmps.getD 24 undef) (0 + 1) ((vss.take 0).flatten ++ [.string x.n,.string x.d]):=by simpa [OwG] using e24
    obtain ⟨u4,hu4⟩ : ∃ u4,u4 = ac.tmps.getD 24 undef:=⟨_,rfl⟩;obtain ⟨ax,c9,e27',hax⟩ : ∃ (ax : Option Addr) (c9 : Nat),ac.tmps[27]?.getD undef = .slice ax (0 - 0) c9 ∧ (∀ (j : Nat) u,(vss.drop 0).flatten[j]? = some u → ∃ ad : Addr,ax = some ad ∧ wg.cell? (ad.add j) = some u):=⟨_,_,e27,fun j u hu => by first | (rw [List.drop_eq_nil_of_le (by omega)] at hu;simp at hu;done) | (obtain ⟨g,e',h3⟩:=HCG.out _ _ (drop_at HVA.out (by omega) hu);cases e' <;> exact ⟨_,rfl,by simp only [Addr.add_lit,Nat.zero_add];exact h3⟩)⟩;rw [← hu4] at e24';obtain ⟨v',w',hr,h2,h3⟩:=run_append_lq wg w1.heap.size 30 30 63 i5 (.agg #[.string ⟨#[]⟩,.string ⟨#[]⟩]) 32 Tryz.underlying30 HI0.out.1 HI0.out.2.1 HI0.out.2.2.1 HI0.out.2.2.2 rfl u4 (0 + 1) ((vss.take 0).flatten ++ [.string x.n,.string x.d]) (by omega) e24' ax (0 - 0) c9 (vss.drop 0).flatten (by rw [drop_flat HVA.out,hvl]) hax (mem_take_one HV1.out 0).2 (by unfold maxLen;omega) (by omega) (by have:=hW.size;omega);refine wp_append_run (.tmp 24) (.tmp 27) 30 rfl (by simpa [Act.eval] using hu4.symm) (by simpa [Act.eval] using e27') hr ?_;refine hK _ _ (Rq.this h3) ?_
    show w'.ownsRow _ _ _ _ _ _
    have e9 : 0 + 1 + (0 - 0) = 0 + 1:=by omega
    rw [e9] at h2
    simpa [inAt] using h2
   refine Gi.Grow.done ?_;intro q wz lo hi hW hf hap;clear hap;have hW : Lq w1.heap.size w1 wz:=hW;simp only [List.forall_mem_cons] at hf;obtain ⟨h28,-⟩:=hf;have h28 : wz.ownsRow w1.heap.size 63 2 (q 28) (0 + 1) (inAt 0 [.string x.n,.string x.d] vss).flatten:=h28 (by first | trivial | rfl);obtain ⟨v8,hv8⟩ : ∃ v8,q 28 = v8:=⟨_,rfl⟩;rw [hv8] at h28;have HB7:=hidK (HB.out.trans (hW.low.mono HB.out.size));obtain ⟨a',c',rfl,hR⟩:=HFIN.out wz v8 w1.heap.size 0 (by omega) HB.out.size HB7.out h28;have HR7:=hidK hR;clear h28 hR hW;intro K hK;rw [if_pos (by rfl)];simp only [Gi.putsAll,List.foldr,Act.put,List.setIfInBounds_toArray,List.set_cons_zero,List.set_cons_succ,hv8];simp only [List.getLast];go_simp;refine hK _ _ ?_;refine hK0 _ _ ?_;clear hK hK0 K K0
   go_wp2
   go_ret
   exact ⟨a',_,c',_,rfl,HR7.out,HP.out,HB7.out⟩)
 by_cases hcap : cap = k
 all_goals (
  obtain ⟨x0,x1⟩:=cs2 Bx.out;have ltx_1:=lt_of_some Bx.out;go_wp2_with fail;clear x0 x1 ltx_1;rename_i K0 hK0;refine Gi.wp_region_grow_last (R:=Rq w1.heap.size 28) (ex:=fun q => if q = 24 then some 28 else none) (Rq.rel _ _) (by kernel_rfl) rfl rfl (by kernel_rfl) (by kernel_rfl) ?_;refine' Gi.Grow.stepC _ rfl ?_ ?_;rotate_left 1
  ·refine Gi.Obl.plain rfl ?_;intro ac wg K lo hi hsz hW hpr hf hap hK;clear hsz hap hpr;have hW : Lq w1.heap.size w1 wg:=hW;have e0:=hf 0 (by decide)
   simp [Gi.slotFact,List.lookup] at e0
   clear hf;go_simp;refine hK _ _ (Rq.other (by decide) (Below.refl _ _)) ?_;with_reducible rfl
  refine' Gi.Grow.stepC _ rfl ?_ ?_;rotate_left 1
  ·refine Gi.Obl.plain rfl ?_;intro ac wg K lo hi hsz hW hpr hf hap hK;clear hsz hap hpr;have hW : Lq w1.heap.size w1 wg:=hW;have e7:=hf 7 (by decide)
   simp [Gi.slotFact,List.lookup] at e7
   clear hf;go_simp;refine hK _ _ (Rq.other (by decide) (Below.refl _ _)) ?_;with_reducible rfl
  refine' Gi.Grow.stepC _ rfl ?_ ?_;rotate_left 1
  ·refine Gi.Obl.plain rfl ?_;intro ac wg K lo hi hsz hW hpr hf hap hK;clear hsz hap hpr;have hW : Lq w1.heap.size w1 wg:=hW;have e7:=hf 7 (by decide)
   simp [Gi.slotFact,List.lookup] at e7
   clear hf;go_simp;refine hK _ _ (Rq.other (by decide) (Below.refl _ _)) ?_;with_reducible rfl
  refine' Gi.Grow.stepC _ rfl ?_ ?_;rotate_left 1
  ·refine Gi.Obl.plain rfl ?_;intro ac wg K lo hi hsz hW hpr hf hap hK;clear hsz hap hpr;have hW : Lq w1.heap.size w1 wg:=hW;have e18:=hf 18 (by decide)
   simp [Gi.slotFact,List.lookup] at e18
   have e19:=hf 19 (by decide)
   simp [Gi.slotFact,List.lookup] at e19
   have e20:=hf 20 (by decide)
   simp [Gi.slotFact,List.lookup] at e20
   clear hf;go_simp;refine hK _ _ (Rq.other (by decide) (Below.refl _ _)) ?_;with_reducible rfl
  refine' Gi.Grow.stepC _ rfl ?_ ?_;rotate_left 1
  ·refine Gi.Obl.plain rfl ?_;intro ac wg K lo hi hsz hW hpr hf hap hK;clear hsz hap hpr;have hW : Lq w1.heap.size w1 wg:=hW;have e4:=hf 4 (by decide)
   simp [Gi.slotFact,List.lookup] at e4
   clear hf;obtain ⟨k0,k1⟩:=cs2 ((hW.low.block _ (lt_of_some Bx.out)).trans Bx.out);go_simp;refine hK _ _ (Rq.other (by decide) (Below.refl _ _)) ?_;with_reducible rfl
  refine Gi.Grow.step (B1F x) rfl (B1F.mono) ?_ ?_
  ·refine Gi.Obl.plain rfl ?_;intro ac wg K lo hi hsz hW hpr hf hap hK;clear hsz hap hpr;have hW : Lq w1.heap.size w1 wg:=hW;have e22:=hf 22 (by decide)
   simp [Gi.slotFact,List.lookup] at e22
   clear hf;go_simp;exact hK _ _ (Rq.other (by decide) (below1 _ _)) ⟨_,rfl,Array.getElem?_push_size⟩
  refine Gi.Grow.step (OwG w1.heap.size (k + 1) ((vss.take k).flatten ++ [.string x.n,.string x.d])) rfl (OwG.mono (.inr rfl)) ?_ ?_
  ·refine Gi.Obl.plain rfl ?_;intro ac wg K lo hi hsz hW hpr hf hap hK;clear hsz hap hpr;have hW : Lq w1.heap.size w1 wg:=hW;have e21:=hf 21 (by decide)
   simp [Gi.slotFact,List.lookup] at e21
   have e23:=hf 23 (by decide)
   simp [Gi.slotFact,List.lookup] at e23
   clear hf
   have HCG : Hid (∀ (j : Nat) u,vss.flatten[j]? = some u → ∃ b,(some ⟨b2,f2,sp⟩ : Option Addr) = some ⟨b,0,none⟩ ∧ wg.cell? ⟨b,j,none⟩ = some u):=fun j u hj => by
    obtain ⟨b,e,h3⟩:=HC.out j u hj;exact ⟨b,e,(cell_below (HB.out.trans (hW.low.mono HB.out.size)) (World.block_lt_of_cell? _ _ h3)).trans h3⟩
   obtain ⟨b5,e23,hg5⟩:=e23
   obtain ⟨v',w',hr,h2,h3⟩:=run_append_cut wg 30 30 63 i5 (.agg #[.string ⟨#[]⟩,.string ⟨#[]⟩]) 2 32 Tryz.underlying30 HI0.out.1 HI0.out.2.1 HI0.out.2.2.1 HI0.out.2.2.2 rfl (some ⟨b2,f2,sp⟩ : Option Addr) k (vss.take k).flatten (take_flat HVA.out (by omega)) (fun e => Classical.byContradiction fun hne => by
    have h1 : vss[0]? = some (vss[0]'(by omega)):=List.getElem?_eq_getElem _
    have h2 : 0 < (vss[0]'(by omega)).length:=by rw [HVA.out 0 _ h1];decide
    obtain ⟨g,e',_⟩:=HC.out _ _ (flat_at HVA.out h1 (List.getElem?_eq_getElem h2));rw [e] at e'
    cases e') (fun j u hu => by
    obtain ⟨g,e',h3⟩:=HCG.out _ _ (take_at hu)
    exact ⟨_,e',by rw [Addr.add_lit,Nat.zero_add];exact h3⟩) ⟨b5,0,none⟩ 1 1 [.string x.n,.string x.d] (by decide) rfl (news_blk hg5) (by unfold maxLen;omega) (by omega)
   refine wp_append_run (.tmp 21) (.tmp 23) 30 rfl (by simpa [Act.eval] using e21) (by simpa [Act.eval] using e23) hr ?_;refine hK _ _ (Rq.other (by decide) h3) ?_;obtain ⟨h4,h5⟩:=h2;refine ⟨h4,h5.imp id ?_⟩;rintro ⟨g,cap',cur,h6,h7,h8⟩;exact ⟨g,cap',cur,h6,Nat.le_trans hW.size h7,h8⟩
  refine' Gi.Grow.stepC _ rfl ?_ ?_;rotate_left 1
  ·refine Gi.Obl.plain rfl ?_;intro ac wg K lo hi hsz hW hpr hf hap hK;clear hsz hap hpr;have hW : Lq w1.heap.size w1 wg:=hW;have e0:=hf 0 (by decide)
   simp [Gi.slotFact,List.lookup] at e0
   clear hf;go_simp;refine hK _ _ (Rq.other (by decide) (Below.refl _ _)) ?_;with_reducible rfl
  refine' Gi.Grow.stepC _ rfl ?_ ?_;rotate_left 1
  ·refine Gi.Obl.plain rfl ?_;intro ac wg K lo hi hsz hW hpr hf hap hK;clear hsz hap hpr;have hW : Lq w1.heap.size w1 wg:=hW;have e7:=hf 7 (by decide)
   simp [Gi.slotFact,List.lookup] at e7
   clear hf;go_simp;refine hK _ _ (Rq.other (by decide) (Below.refl _ _)) ?_;with_reducible rfl
  refine' Gi.Grow.stepC _ rfl ?_ ?_;rotate_left 1
  ·refine Gi.Obl.plain rfl ?_;intro ac wg K lo hi hsz hW hpr hf hap hK;clear hsz hap hpr;have hW : Lq w1.heap.size w1 wg:=hW;have e25:=hf 25 (by decide)
   simp [Gi.slotFact,List.lookup] at e25
   have e26:=hf 26 (by decide)
   simp [Gi.slotFact,List.lookup] at e26
   clear hf;go_simp;refine hK _ _ (Rq.other (by decide) (Below.refl _ _)) ?_;with_reducible rfl
  refine Gi.Grow.step (OwG w1.heap.size (len + 1) (inAt k [.string x.n,.string x.d] vss).flatten) rfl (OwG.mono (.inl rfl)) ?_ ?_
  ·refine Gi.Obl.plain rfl ?_;intro ac wg K lo hi hsz hW hpr hf hap hK;clear hsz hap;have hW : Lq w1.heap.size w1 wg:=hW;have e24:=hf 24 (by decide)
   simp [Gi.slotFact,List.lookup] at e24
   have e27:=hf 27 (by decide)
   simp [Gi.slotFact,List.lookup] at e27
   clear hf
   have HCG : Hid (∀ (j : Nat) u,vss.flatten[j]? = some u → ∃ b,(some ⟨b2,f2,sp⟩ : Option Addr) = some ⟨b,0,none⟩ ∧ wg.cell? ⟨b,j,none⟩ = some u):=fun j u hj => by
    obtain ⟨b,e,h3⟩:=HC.out j u hj;exact ⟨b,e,(cell_below (HB.out.trans (hW.low.mono HB.out.size)) (World.block_lt_of_cell? _ _ h3)).trans h3⟩
   have hbW : Below w1.heap.size w1 wg:=hpr rfl;clear hpr
   have e24' : wg.ownsRow w1.heap.size 63 2 (ac.tmps.getD 24 undef) (k + 1) ((vss.take k).flatten ++ [.string x.n,.string x.d]):=by simpa [OwG] using e24
   obtain ⟨u4,hu4⟩ : ∃ u4,u4 = ac.tmps.getD 24 undef:=⟨_,rfl⟩;obtain ⟨ax,c9,e27',hax⟩ : ∃ (ax : Option Addr) (c9 : Nat),ac.tmps[27]?.getD undef = .slice ax (len - k) c9 ∧ (∀ (j : Nat) u,(vss.drop k).flatten[j]? = some u → ∃ ad : Addr,ax = some ad ∧ wg.cell? (ad.add j) = some u):=⟨_,_,e27,fun j u hu => by first | (rw [List.drop_eq_nil_of_le (by omega)] at hu;simp at hu;done) | (obtain ⟨g,e',h3⟩:=HCG.out _ _ (drop_at HVA.out (by omega) hu);cases e' <;> exact ⟨_,rfl,by simp only [Addr.add_lit,Nat.zero_add];exact h3⟩)⟩;rw [← hu4] at e24';obtain ⟨v',w',hr,h2,h3⟩:=run_append_lq wg w1.heap.size 30 30 63 i5 (.agg #[.string ⟨#[]⟩,.string ⟨#[]⟩]) 32 Tryz.underlying30 HI0.out.1 HI0.out.2.1 HI0.out.2.2.1 HI0.out.2.2.2 rfl u4 (k + 1) ((vss.take k).flatten ++ [.string x.n,.string x.d]) (by omega) e24' ax (len - k) c9 (vss.drop k).flatten (by rw [drop_flat HVA.out,hvl]) hax (mem_take_one HV1.out k).2 (by unfold maxLen;omega) (by omega) (by have:=hW.size;omega);refine wp_append_run (.tmp 24) (.tmp 27) 30 rfl (by simpa [Act.eval] using hu4.symm) (by simpa [Act.eval] using e27') hr ?_;refine hK _ _ (Rq.this h3) ?_
   show w'.ownsRow _ _ _ _ _ _
   have e9 : k + 1 + (len - k) = len + 1:=by omega
   rw [e9] at h2
   simpa [inAt] using h2
  refine Gi.Grow.done ?_;intro q wz lo hi hW hf hap;clear hap;have hW : Lq w1.heap.size w1 wz:=hW;simp only [List.forall_mem_cons] at hf;obtain ⟨h28,-⟩:=hf;have h28 : wz.ownsRow w1.heap.size 63 2 (q 28) (len + 1) (inAt k [.string x.n,.string x.d] vss).flatten:=h28 (by first | trivial | rfl);obtain ⟨v8,hv8⟩ : ∃ v8,q 28 = v8:=⟨_,rfl⟩;rw [hv8] at h28;have HB7:=hidK (HB.out.trans (hW.low.mono HB.out.size));obtain ⟨a',c',rfl,hR⟩:=HFIN.out wz v8 w1.heap.size k (by omega) HB.out.size HB7.out h28;have HR7:=hidK hR;clear h28 hR hW;intro K hK;rw [if_pos (by rfl)];simp only [Gi.putsAll,List.foldr,Act.put,List.setIfInBounds_toArray,List.set_cons_zero,List.set_cons_succ,hv8];simp only [List.getLast];go_simp;refine hK _ _ ?_;refine hK0 _ _ ?_;clear hK hK0 K K0
  go_wp2
  go_ret
  exact ⟨a',_,c',_,rfl,HR7.out,HP.out,HB7.out⟩)

theorem iwan_any (d : Ad) (c : Cl) (w : World) (hr : ClRow w d c.raw) (hT : RightI c) :
  Calls Tryz.prog 35 #[.agg #[.slice d.a1 d.l1 d.c1,.slice d.a2 d.l2 d.c2,.slice d.a3 d.l3 d.c3,.slice d.a4 d.l4 d.c4,.slice d.a5 d.l5 d.c5,.int .i64 c.now]] w (WanAns c (w.heap.size + 1) w):=by
 obtain ⟨a1,l1,y1,a2,l2,y2,a3,l3,y3,a4,l4,y4,a5,l5,y5⟩:=d;dsimp only;have HR:=hidK hr
 have hl1 : c.ns.length = l1:=by simpa using (show (c.ns.map ndF).length = l1 from hr.n.1)
 have hm1 : l1 ≤ 9223372036854775807:=Nat.le_trans hr.n.2.1 hr.n.2.2.1
 have hl2 : c.ks.length = l2:=by simpa using (show (c.ks.map kdF).length = l2 from hr.k.1)
 have hm2 : l2 ≤ 9223372036854775807:=Nat.le_trans hr.k.2.1 hr.k.2.2.1
 have hl3 : c.vs.length = l3:=by simpa using (show (c.vs.map vdF).length = l3 from hr.v.1)
 have hm3 : l3 ≤ 9223372036854775807:=Nat.le_trans hr.v.2.1 hr.v.2.2.1
 have hl4 : c.xs.length = l4:=by simpa using (show (c.xs.map xdF).length = l4 from hr.x.1)
 have hm4 : l4 ≤ 9223372036854775807:=Nat.le_trans hr.x.2.1 hr.x.2.2.1
 have hl5 : c.ps.length = l5:=by simpa using (show (c.ps.map pdF).length = l5 from hr.p.1)
 have hm5 : l5 ≤ 9223372036854775807:=Nat.le_trans hr.p.2.1 hr.p.2.2.1;clear hr;have HT:=hidK hT;clear hT
 have h58 : c.ps.length ≤ 8:=by have:=HT.out.sm.p;omega
 go_enter Tryz.func35,Tryz.ntmps35
 go_wp2
 go_loopw [3,13] (fun vo vi wr => ∃ (k : Nat) (ca : Option Addr) (cl cc : Nat) (ys : List Qd),k ≤ l5 ∧ vi = .int .i64 k ∧ vo = .slice ca cl cc ∧ Hid (ROwn wr ca cl cc 2 63 (ys.map qdF) (fun j => w.heap.size + 1 ≤ j) ∧ RQ ys ∧ (∀ q,q ∈ ys ↔ Wn c k q) ∧ ys.length ≤ 3 * k) ∧ Hid (Below (w.heap.size + 1) (w.alloc (.cells #[.slice a1 l1 y1,.slice a2 l2 y2,.slice a3 l3 y3,.slice a4 l4 y4,.slice a5 l5 y5,.int .i64 c.now] 38)) wr)) (fun _ vi _ => l5 - (intOf vi).toNat)
 case atStart => exact ⟨0,_,0,0,[],by omega,rfl,rfl,⟨⟨rfl,Nat.le_refl _,by omega,.inl rfl⟩,List.Pairwise.nil,fun q => ⟨fun h => by simp at h,fun ⟨j,p,h,_⟩ => by omega⟩,by simp⟩,Below.refl _ _⟩
 case round =>
  obtain ⟨k,ca,cl,cc,ys,hk,rfl,rfl,HQ,HL⟩:=hrel;have Bk:=hidK ((HL.out.block w.heap.size (by omega)).trans (heap_alloc_new w (.cells #[.slice a1 l1 y1,.slice a2 l2 y2,.slice a3 l3 y3,.slice a4 l4 y4,.slice a5 l5 y5,.int .i64 c.now] 38)));have HB:=hidK ((below1 w (.cells #[.slice a1 l1 y1,.slice a2 l2 y2,.slice a3 l3 y3,.slice a4 l4 y4,.slice a5 l5 y5,.int .i64 c.now] 38)).trans (HL.out.mono (by omega)))
  have hLs : w.heap.size + 1 ≤ wr.heap.size:=by have h8:=HL.out.size;rw [size1] at h8;exact h8
  by_cases hlt : k < l5
  ·obtain ⟨b,o,x,rfl,hb,hx,hat⟩:=pd_at (HR.out.p.below HB.out) hlt;obtain ⟨va,vl,vc,hvr,z0,z2,z4,c0,c1,c2,c3,c4,c5⟩:=pd_cells hat;have HXx:=hidK hx;have HTx:=hidK hvr;have HZx0:=hidK z0;have HZx2:=hidK z2;have HZx4:=hidK z4;clear hat hx z0 z2 z4 hvr;have hbw:=hb;clear hb
   have hk1 : (k : Int) < l5:=by omega
   obtain ⟨W1,hW1⟩ : ∃ W1,W1 = wr:=⟨_,rfl⟩;subst hW1;have hxz : x.zs.length = vl:=HTx.out.1;have hpo:=HT.out.2.1.2.2.2.2.2.1 k x HXx.out
   have hv3 : vl ≤ 3:=by have h9 : (x.zs.length : Int) ≤ 3:=hpo.2.2.2.1.1;omega
   have hyb:=HQ.out.2.2.2
   by_cases hp0 : x.p = 0
   ·have HHE : Hid (x.d = ⟨#[]⟩):=by
     have h3 : SuitsOk x.d x.p:=hpo.2.2.2.2;rw [hp0] at h3;exact (suits_pend _).1 h3
    have hpb : (x.p == 0) = true:=by simpa using hp0
    clear hp0 hpo;obtain ⟨k0,k1,k2,k3,k4,k5⟩:=cs6 Bk.out;have ltk_0:=lt_of_some Bk.out
    go_wp2
    refine ⟨⟨k + 1,ca,cl,cc,ys,by omega,by go_num,rfl,⟨HQ.out.1.below (below1 _ _),HQ.out.2.1,fun q => ?_,by omega⟩,HL.out.trans ((below1 W1 (.cells #[.string x.n,.int .i64 x.c,.string x.z,.slice va vl vc,.string x.d,.int .i64 x.p] 107)).mono (by omega))⟩,by simp [intOf];omega⟩;rw [HQ.out.2.2.1,Wn.no HXx.out HHE.out]
   have HHE : Hid (¬ x.d = ⟨#[]⟩):=fun e => by
    have h3 : SuitsOk x.d x.p:=hpo.2.2.2.2;rw [e] at h3
    rcases h3 with ⟨h3,_⟩ | ⟨_,h3⟩
    ·exact hp0 h3
    ·have h5:=h3.1
     revert h5
     decide
   have hpb : (x.p == 0) = false:=by simpa using hp0
   clear hp0 hpo;obtain ⟨k0,k1,k2,k3,k4,k5⟩:=cs6 Bk.out;have ltk_0:=lt_of_some Bk.out
   go_wp2
   clear k0 k1 k2 k3 k4 k5 ltk_0;clear c0 c1 c2 c3 c4 c5 hbw
   go_loopw [3,23] (fun vo vi wr => ∃ (n : Nat) (ca : Option Addr) (cl cc : Nat) (ys : List Qd),n ≤ vl ∧ vi = .int .i64 n ∧ vo = .slice ca cl cc ∧ Hid (ROwn wr ca cl cc 2 63 (ys.map qdF) (fun j => w.heap.size + 1 ≤ j) ∧ RQ ys ∧ (∀ q,q ∈ ys ↔ Wn c k q ∨ Wc c x n q) ∧ ys.length ≤ 3 * k + n) ∧ Hid (Below (W1.heap.size + 1) (W1.alloc (.cells #[.string x.n,.int .i64 x.c,.string x.z,.slice va vl vc,.string x.d,.int .i64 x.p] 107)) wr)) (fun _ vi _ => vl - (intOf vi).toNat)
   case atStart => exact ⟨0,_,_,_,ys,by omega,rfl,rfl,⟨HQ.out.1.below (below1 _ _),HQ.out.2.1,fun q => by rw [HQ.out.2.2.1];exact ⟨.inl,fun h => h.elim id (fun ⟨i,t,v,h,_⟩ => by omega)⟩,by omega⟩,Below.refl _ _⟩
   case round =>
    clear HQ hyb;obtain ⟨n,ca,cl,cc,ys,hn,rfl,rfl,HQ,HL2⟩:=hrel;have hbP : Below W1.heap.size W1 wr:=(below1 W1 (.cells #[.string x.n,.int .i64 x.c,.string x.z,.slice va vl vc,.string x.d,.int .i64 x.p] 107)).trans (HL2.out.mono (by omega));have Bp:=hidK ((HL2.out.block W1.heap.size (by omega)).trans (heap_alloc_new W1 (.cells #[.string x.n,.int .i64 x.c,.string x.z,.slice va vl vc,.string x.d,.int .i64 x.p] 107)));replace Bk:=upK Bk hbP;replace HB:=upB HB hbP;have HBP:=hidK hbP;have hs2:=hbP.size
    have hs3 : W1.heap.size + 1 ≤ wr.heap.size:=by have h8:=HL2.out.size;rw [size1] at h8;exact h8
    have hyl : ys.length = cl:=by have h9 : (ys.map qdF).length = cl:=HQ.out.1.1;rw [List.length_map] at h9;exact h9
    have hyb:=HQ.out.2.2.2;clear hbP
    by_cases hlt2 : n < vl
    ·have hk3 : (n : Int) < vl:=by omega
     obtain ⟨b2,o2,t,rfl,hb2,hx2,hc2,hsz2⟩:=(HTx.out.below HBP.out).at hlt2;have HXT:=hidK hx2
     obtain ⟨v,hbd⟩ : ∃ v,IsBd c t v:=by
      obtain ⟨i9,n9,_,_,_,h9⟩:=(HT.out.2.2.2.1.1 k x HXx.out).2.resolve_left HHE.out;obtain ⟨v,hv,_⟩:=h9 n t hx2;exact ⟨v,hv⟩
     have HBD:=hidK hbd;have HZD : Hid (x.d.size ≤ 9223372036854775807):=HZx4.out;clear hbd hx2 hsz2;have HY2 : Hid (Bw wr wr):=Bw.refl _;obtain ⟨k0,k1,k2,k3,k4,k5⟩:=cs6 Bk.out;have ltk_0:=lt_of_some Bk.out;obtain ⟨p0,p1,p2,p3,p4,p5⟩:=cs6 Bp.out;have ltp_0:=lt_of_some Bp.out;go_wp2_with fail;refine (ibd_any ⟨a1,l1,y1,a2,l2,y2,a3,l3,y3,a4,l4,y4,(some ⟨b,o,none⟩),l5,y5⟩ c t w _ HR.out HB.out HT.out.2.1.2.2.2.1.2.2 HT.out.2.1.2.2.1.2.2 (fun j v hv e => by have h9:=(HT.out.2.1.2.2.1.2.1 j v hv).1;rw [e] at h9;have h8:=h9.1;revert h8;decide)).mono ?_;rintro e w2 ⟨hb3,hf⟩;clear k0 k1 k2 k3 k4 k5 ltk_0 p0 p1 p2 p3 p4 p5 ltp_0;replace Bk:=upK Bk hb3;replace Bp:=upK Bp hb3;replace HY2:=hidK (HY2.out.below hb3);replace HB:=upB HB hb3;clear hb3;clear hb2 hc2
     rcases hf with ⟨v1,va2,vl2,vc2,hb1,rfl,hz1,-,-⟩ | ⟨hno,rfl⟩
     rotate_left
     ·exact absurd HBD.out (hno v)
     have HB1:=hidK hb1;have HZ1:=hidK hz1;clear hb1 hz1;obtain ⟨k0,k1,k2,k3,k4,k5⟩:=cs6 Bk.out;have ltk_1:=lt_of_some Bk.out;obtain ⟨p0,p1,p2,p3,p4,p5⟩:=cs6 Bp.out;have ltp_1:=lt_of_some Bp.out;go_wp2_with fail;refine (iputQ_any ca cl cc ys ⟨v1.n,x.d⟩ (w.heap.size + 1) _ (HQ.out.1.below (HY2.out.below (below1 _ _)).out) (by have:=HY2.out.le;simp only [size1];omega) HQ.out.2.1 (by omega) HZ1.out HZD.out).mono ?_;rintro e w3 ⟨sa,sl,sc,zs2,rfl,ho2,hp2,hb3⟩;clear k0 k1 k2 k3 k4 k5 ltk_1 p0 p1 p2 p3 p4 p5 ltp_1;obtain ⟨HA0,hbx⟩:=slots1 hb3;replace Bk:=upK Bk hbx;replace Bp:=upK Bp hbx;have Bv:=hidK HA0;replace HY2:=hidK (HY2.out.below hbx);replace HB:=upB HB hbx;clear hb3 hbx HA0;have HP2:=hidK hp2;have HO2:=hidK ho2;clear hp2 ho2;obtain ⟨k0,k1,k2,k3,k4,k5⟩:=cs6 Bk.out;have ltk_2:=lt_of_some Bk.out;obtain ⟨p0,p1,p2,p3,p4,p5⟩:=cs6 Bp.out;have ltp_2:=lt_of_some Bp.out
     go_wp2
     refine ⟨⟨n + 1,sa,sl,sc,zs2,by omega,by go_num,rfl,⟨HO2.out,HP2.out.ris HQ.out.2.1,fun q => ?_,by have h9:=HP2.out.len;omega⟩,HL2.out.trans (HY2.out.out.mono hs3)⟩,by simp [intOf];omega⟩;rw [HP2.out.mem,HQ.out.2.2.1,Wc.step HT.out.2.1.2.2.2.1.2.2 HXT.out HB1.out,or_assoc]
    have hk3 : ¬ (n : Int) < vl:=by omega
    have hnv : n = vl:=by omega
    obtain ⟨p0,p1,p2,p3,p4,p5⟩:=cs6 Bp.out;have ltp_0:=lt_of_some Bp.out
    go_wp2
    refine ⟨⟨k + 1,ca,cl,cc,ys,by omega,by go_num,rfl,⟨HQ.out.1,HQ.out.2.1,fun q => ?_,by omega⟩,HL.out.trans (HBP.out.mono (by omega))⟩,by simp [intOf];omega⟩;rw [HQ.out.2.2.1,Wn.yes HXx.out HHE.out,hxz,hnv]
  have hk1 : ¬ (k : Int) < l5:=by omega
  have hkl : k = l5:=by omega
  obtain ⟨k0,k1,k2,k3,k4,k5⟩:=cs6 Bk.out;have ltk_0:=lt_of_some Bk.out
  go_wp2
  go_ret;exact ⟨_,_,_,ys,rfl,HQ.out.1,HQ.out.2.1,by rw [hl5,← hkl];exact HQ.out.2.2.1,by have:=HQ.out.2.2.2;omega,HB.out⟩

def PwHeld (W : World) (nb vb : Nat) (t : ByteArray) (v : Vd) (ua : Option Addr) (ul uc : Nat) : Prop:=W.heap[nb]? = some (.cells #[.string t] 9 (0,0)) ∧ W.heap[vb]? = some (.cells #[.string v.n,.int .i64 v.c,.string v.z,.string v.k,.bool v.x,.string v.m,.bool v.y,.slice ua ul uc] 81 (0,0))
theorem PwHeld.below {W W' : World} {nb vb : Nat} {t : ByteArray} {v : Vd} {ua : Option Addr} {ul uc : Nat} (h : PwHeld W nb vb t v ua ul uc) (hb : Below W.heap.size W W') : PwHeld W' nb vb t v ua ul uc :=
 ⟨(hb.block _ (lt_of_some h.1)).trans h.1,(hb.block _ (lt_of_some h.2)).trans h.2⟩
def Wants (p : Pd) (t m : ByteArray) : Prop:=p.d = t ∧ InL p.zs m

theorem pw1_any (p : Pd) (va : Option Addr) (vl vc nb vb : Nat) (t : ByteArray) (v : Vd) (ua : Option Addr) (ul uc : Nat) (w : World) (hr : TxRow w va vl vc p.zs) (hh : PwHeld w nb vb t v ua ul uc) :
  Calls Tryz.prog 156 #[.agg #[.string p.n,.int .i64 p.c,.string p.z,.slice va vl vc,.string p.d,.int .i64 p.p],.pointer (some ⟨nb,0,none⟩),.pointer (some ⟨vb,0,none⟩)] w (BoolB (Wants p t v.m) w):=by
 have HR:=hidK hr;obtain ⟨h1,h2⟩:=hh;have n0:=cs1 h1;have hnl:=lt_of_some h1;obtain ⟨v0,v1,v2,v3,v4,v5,v6,v7⟩:=cs8 h2;have hvl:=lt_of_some h2;clear hr h1 h2
 by_cases he : p.d = t
 ·have hq:=tl_yes he;have HE:=hidK he;clear he
  go_enter Tryz.func156,Tryz.ntmps156
  go_wp2_with fail;refine (icontains_any va vl vc p.zs v.m _ (HR.out.below (below1 _ _))).mono ?_;rintro e w1 ⟨r,rfl,hi,hb⟩;have HB:=hidK ((below1 w _).trans (hb.mono (by simp)));clear hb
  go_wp2
  go_ret;exact ⟨r,rfl,⟨fun h => ⟨HE.out,hi.1 h⟩,fun h => hi.2 h.2⟩,HB.out⟩
 ·have hq:=tl_no he;have HE:=hidK he;clear he
  go_enter Tryz.func156,Tryz.ntmps156
  go_wp2
  go_ret;exact BoolB.f (fun h => HE.out h.1) (below1 _ _)

theorem pwx_any (a : Option Addr) (len cap : Nat) (ps : List Pd) (nb vb : Nat) (t : ByteArray) (v : Vd) (ua : Option Addr) (ul uc : Nat) (w : World) (hr : RRow w a len cap 6 (ps.map pdF)) (hh : PwHeld w nb vb t v ua ul uc) :
  Calls Tryz.prog 183 #[.slice a len cap,.func (.func 156) #[] #[.pointer (some ⟨nb,0,none⟩),.pointer (some ⟨vb,0,none⟩)]] w fun e w' => (∃ r : Int,e = .returned (.int .i64 r) ∧ ((0 ≤ r ∧ ∃ (j : Nat) (p : Pd),ps[j]? = some p ∧ Wants p t v.m) ∨ (r = -1 ∧ ∀ (j : Nat) (p : Pd),ps[j]? = some p → ¬ Wants p t v.m))) ∧ Below w.heap.size w w':=by
 have HR:=hidK hr;have HH:=hidK hh;have hlc : len ≤ 9223372036854775807:=Nat.le_trans hr.2.1 hr.2.2.1
 have hxl : ps.length = len:=by simpa using hr.1
 clear hr hh
 go_enter Tryz.func183,Tryz.ntmps183
 go_wp2
 go_loopw [8] (fun i wr => ∃ k : Nat,k ≤ len ∧ i = .int .i64 k ∧ Hid (∀ (j : Nat) p,j < k → ps[j]? = some p → ¬ Wants p t v.m) ∧ Hid (Below w.heap.size w wr)) (fun i _ => len - (intOf i).toNat)
 case atStart => exact ⟨0,by omega,rfl,fun _ _ h => absurd h (by omega),Below.refl _ _⟩
 case round =>
  obtain ⟨k,hk,rfl,HE,HB⟩:=hrel
  by_cases hlt : k < len
  ·obtain ⟨b,o,p,rfl,hb,hx,hat⟩:=pd_at (HR.out.below HB.out) hlt;obtain ⟨va,vl,vc,hvr,z0,z2,z4,c0,c1,c2,c3,c4,c5⟩:=pd_cells hat;have HX:=hidK hx;have HV:=hidK hvr;clear hat hx hvr z0 z2 z4;go_wp2_with fail;refine (pw1_any p va vl vc nb vb t v ua ul uc _ HV.out (HH.out.below HB.out)).mono ?_;rintro e w1 ⟨r,rfl,hi,hb1⟩;have HI:=hidK hi;have HB1:=upB HB hb1;clear hi hb1 c0 c1 c2 c3 c4 c5
   cases r
   ·go_wp2
    refine ⟨⟨k + 1,by omega,by go_num,fun j z hj hz => ?_,HB1.out⟩,by simp [intOf];omega⟩
    by_cases e : j = k
    ·subst e;rw [HX.out] at hz;obtain rfl:=Option.some.inj hz;exact fun q => (by have:=HI.out.2 q;cases this)
    ·exact HE.out j z (by omega) hz
   ·go_wp2
    go_ret;exact ⟨⟨k,rfl,.inl ⟨by omega,k,p,HX.out,HI.out.1 (by first | trivial | rfl)⟩⟩,HB1.out⟩
  ·obtain rfl : len = k:=by omega
   go_wp2
   go_ret;exact ⟨⟨-1,rfl,.inr ⟨rfl,fun j p hj => HE.out j p (by have:=(List.getElem?_eq_some_iff.1 hj).1;omega) hj⟩⟩,HB.out⟩

theorem pwc_any (a : Option Addr) (len cap : Nat) (ps : List Pd) (nb vb : Nat) (t : ByteArray) (v : Vd) (ua : Option Addr) (ul uc : Nat) (w : World) (hr : RRow w a len cap 6 (ps.map pdF)) (hh : PwHeld w nb vb t v ua ul uc) :
  Calls Tryz.prog 155 #[.slice a len cap,.func (.func 156) #[] #[.pointer (some ⟨nb,0,none⟩),.pointer (some ⟨vb,0,none⟩)]] w (BoolB (∃ (j : Nat) (p : Pd),ps[j]? = some p ∧ Wants p t v.m) w):=by
 have HR:=hidK hr;have HH:=hidK hh;clear hr hh
 go_enter Tryz.func155,Tryz.ntmps155
 go_wp2_with fail;refine (pwx_any a len cap ps nb vb t v ua ul uc _ HR.out HH.out).mono ?_;rintro e w1 ⟨⟨r,rfl,hi⟩,hb⟩;have HB:=hidK hb;clear hb
 rcases hi with ⟨h0,h1⟩ | ⟨rfl,h1⟩
 ·have H1:=hidK h1;clear h1
  go_wp2
  go_ret;exact BoolB.t H1.out HB.out
 ·have H1:=hidK h1;clear h1
  go_wp2
  go_ret;exact BoolB.f (fun ⟨j,p,h2,h3⟩ => H1.out j p h2 h3) HB.out

theorem ipw_any (d : Ad) (c : Cl) (v : Vd) (ua : Option Addr) (ul uc : Nat) (t : ByteArray) (w : World) (hr : ClRow w d c.raw) :
  Calls Tryz.prog 100 #[.agg #[.slice d.a1 d.l1 d.c1,.slice d.a2 d.l2 d.c2,.slice d.a3 d.l3 d.c3,.slice d.a4 d.l4 d.c4,.slice d.a5 d.l5 d.c5,.int .i64 c.now],.agg #[.string v.n,.int .i64 v.c,.string v.z,.string v.k,.bool v.x,.string v.m,.bool v.y,.slice ua ul uc],.string t] w (BoolB (∃ (j : Nat) (p : Pd),c.ps[j]? = some p ∧ Wants p t v.m) w):=by
 have HR:=hidK hr;have HB:=hidK (Below.refl w.heap.size w);clear hr
 go_enter Tryz.func100,Tryz.ntmps100
 go_wp2_with fail;refine (pwc_any d.a5 d.l5 d.c5 c.ps (w.heap.size + 1 + 1) (w.heap.size + 1) t v ua ul uc _ (HR.out.p.below (HB.out.trans ((below3 _ _ _ _).mono HB.out.size))) ⟨heap3_2 _ _ _ _,heap3_1 _ _ _ _⟩).mono ?_;rintro e w1 ⟨r,rfl,hi,hb⟩;obtain ⟨HA0,HA1,HA2,hbx⟩:=slots3 hb;have Bk:=hidK HA0;have Bv:=hidK HA1;have Bn:=hidK HA2;replace HB:=upB HB hbx;clear hb hbx HA0 HA1 HA2;have HI:=hidK hi;clear hi
 go_wp2
 go_ret;exact ⟨r,rfl,HI.out,HB.out⟩

def OffN (c : Cl) (n : Nd) (t : ByteArray) : Prop:=(n.d = true ∧ n.u + 5 < c.now) ∨ (n.d = false ∧ ¬ InL n.zs t)
theorem shasQ_any (a : Option Addr) (len cap : Nat) (zs : List Qd) (x : Qd) (w : World) (hr : RRow w a len cap 2 (zs.map qdF)) :
  Calls Tryz.prog 98 #[.slice a len cap,.agg #[.string x.n,.string x.d]] w (BoolB (x ∈ zs) w):=by
 have HR:=hidK hr
 have hzl : zs.length = len:=by simpa using hr.1
 have hlc : len ≤ 9223372036854775807:=Nat.le_trans hr.2.1 hr.2.2.1;clear hr
 go_enter Tryz.func98,Tryz.ntmps98
 go_wp2
 go_loopw [5] (fun vi wr => ∃ k : Nat,k ≤ len ∧ vi = .int .i64 k ∧ Hid (∀ (j : Nat) y,j < k → zs[j]? = some y → ¬ y = x) ∧ Hid (Below (w.heap.size + 1) (w.alloc (.cells #[.string x.n,.string x.d] 63)) wr)) (fun vi _ => len - (intOf vi).toNat)
 case atStart => exact ⟨0,by omega,rfl,fun j y h => by omega,Below.refl _ _⟩
 case round =>
  obtain ⟨k,hk,rfl,HI,HL⟩:=hrel
  have hLs : w.heap.size + 1 ≤ wr.heap.size:=by have h8:=HL.out.size;rw [size1] at h8;exact h8
  have HB:=hidK ((below1 w (.cells #[.string x.n,.string x.d] 63)).trans (HL.out.mono (by omega)));have Bx:=hidK ((HL.out.block w.heap.size (by omega)).trans (heap_alloc_new w (.cells #[.string x.n,.string x.d] 63)))
  by_cases hlt : k < len
  ·have hk1 : (k : Int) < len:=by omega
   obtain ⟨b,o,y,rfl,hb,hy,hat⟩:=qd_at (HR.out.below HB.out) hlt;obtain ⟨-,-,hc0,hc1⟩:=qd_cells hat;have HY:=hidK hy;clear hat hy
   by_cases he : y = x
   ·have hqe : ∀ W : World,(Op.equalIn 10000 63 (.agg #[.string y.n,.string y.d]) (.agg #[.string x.n,.string x.d])).run Tryz.prog W = .ok true W:=fun W => by rw [eqQ];rw [he];simp
    have HE:=hidK he;clear he;obtain ⟨x0,x1⟩:=cs2 Bx.out;have ltx_0:=lt_of_some Bx.out;go_wp2_with fail;clear x0 x1 ltx_0;have Gx:=Bx;have HW:=HB;obtain ⟨x0,x1⟩:=sl2 Gx;have yn:=fun q : Wd wr => (q.cell hb).trans hc0;have yd:=fun q : Wd wr => (q.cell hb).trans hc1;have hne0:=Wd.ne wr;go_wp2_with fail;refine wp_region_wide (by kernel_rfl) (by kernel_rfl) ?_
    repeat (go_big_quiet_step (first | fail))
    refine wpQuiet_nil ?_;rintro _ ⟨q1,rfl⟩;have HB1:=upB HW q1.b;have Cx:=upK Gx q1.b;clear hne0 HW HB x0 x1 yn yd Gx Bx hb hc0 hc1 hqe;have HB:=HB1;clear HB1;have Bx:=Cx;clear Cx
    go_wp2
    go_ret;exact BoolB.t (by rw [← HE.out];exact List.mem_of_getElem? HY.out) HB.out
   have hqe : ∀ W : World,(Op.equalIn 10000 63 (.agg #[.string y.n,.string y.d]) (.agg #[.string x.n,.string x.d])).run Tryz.prog W = .ok false W:=fun W => by rw [eqQ];exact congrArg (Result.ok · W) (by
    cases h1 : (y.n.toList == x.n.toList)
    ·rfl
    ·cases h2 : (y.d.toList == x.d.toList)
     ·rfl
     ·exact absurd (by have e1:=tl_inj h1;have e2:=tl_inj h2;obtain ⟨y1,y2⟩:=y;obtain ⟨x1,x2⟩:=x;cases e1;cases e2;rfl) he)
   have HE:=hidK he;clear he;obtain ⟨x0,x1⟩:=cs2 Bx.out;have ltx_0:=lt_of_some Bx.out;go_wp2_with fail;clear x0 x1 ltx_0;have Gx:=Bx;have HW:=HB;obtain ⟨x0,x1⟩:=sl2 Gx;have yn:=fun q : Wd wr => (q.cell hb).trans hc0;have yd:=fun q : Wd wr => (q.cell hb).trans hc1;have hne0:=Wd.ne wr;go_wp2_with fail;refine wp_region_wide (by kernel_rfl) (by kernel_rfl) ?_
   repeat (go_big_quiet_step (first | fail))
   refine wpQuiet_nil ?_;rintro _ ⟨q1,rfl⟩;have HB1:=upB HW q1.b;have Cx:=upK Gx q1.b;clear hne0 HW HB x0 x1 yn yd Gx Bx hb hc0 hc1 hqe;have HB:=HB1;clear HB1;have Bx:=Cx;clear Cx
   go_wp2
   refine ⟨⟨k + 1,by omega,by go_num,fun j z hj hz => ?_,HL.out.trans (q1.b.mono (by omega))⟩,by simp [intOf];omega⟩
   by_cases e : j = k
   ·subst e;rw [HY.out] at hz;obtain rfl:=Option.some.inj hz;exact HE.out
   ·exact HI.out j z (by omega) hz
  have hk1 : ¬ (k : Int) < len:=by omega
  obtain ⟨x0,x1⟩:=cs2 Bx.out;have ltx_0:=lt_of_some Bx.out
  go_wp2
  go_ret;exact BoolB.f (fun h => by obtain ⟨j,hj⟩:=List.getElem?_of_mem h;exact HI.out j x (by have:=(List.getElem?_eq_some_iff.1 hj).1;omega) hj rfl) HB.out

theorem sgoneE_any (d : Ad) (now : Int) (n : Nd) (va : Option Addr) (vl vc : Nat) (w : World) (h0 : 0 ≤ n.u) (h1 : n.u ≤ 1000000) :
  Calls Tryz.prog 154 #[.agg #[.slice d.a1 d.l1 d.c1,.slice d.a2 d.l2 d.c2,.slice d.a3 d.l3 d.c3,.slice d.a4 d.l4 d.c4,.slice d.a5 d.l5 d.c5,.int .i64 now],.agg #[.string n.n,.string n.z,.int .i64 n.c,.int .i64 n.s,.int .i64 n.u,.bool n.d,.slice va vl vc]] w fun e w' => e = .returned (.bool (n.d && decide (n.u + 5 < now))) ∧ Below w.heap.size w w':=by
 cases hd : n.d
 all_goals (
  go_enter Tryz.func154,Tryz.ntmps154
  go_wp2
  go_ret
  exact ⟨by simp,below2 _ _ _⟩)

theorem ileaseE_any (d : Ad) (now : Int) (n : Nd) (va : Option Addr) (vl vc : Nat) (w : World) :
  Calls Tryz.prog 158 #[.agg #[.slice d.a1 d.l1 d.c1,.slice d.a2 d.l2 d.c2,.slice d.a3 d.l3 d.c3,.slice d.a4 d.l4 d.c4,.slice d.a5 d.l5 d.c5,.int .i64 now],.agg #[.string n.n,.string n.z,.int .i64 n.c,.int .i64 n.s,.int .i64 n.u,.bool n.d,.slice va vl vc]] w fun e w' => e = .returned (.agg #[.int .i64 n.u,.int .i64 now]) ∧ Below w.heap.size w w':=by
 go_enter Tryz.func158,Tryz.ntmps158
 go_wp2
 exact bodyPost_ret (v:=.agg #[.int .i64 n.u,.int .i64 now]) (by simp [results,Tryz.results158,go_sem]) rfl ⟨rfl,below3 _ _ _ _⟩

theorem ioutE_any (u now : Int) (w : World) (h0 : 0 ≤ u) (h1 : u ≤ 1000000) :
  Calls Tryz.prog 159 #[.agg #[.int .i64 u,.int .i64 now]] w fun e w' => e = .returned (.bool (decide (u + 5 < now))) ∧ Below w.heap.size w w':=by
 go_enter Tryz.func159,Tryz.ntmps159
 go_wp2
 go_ret;exact ⟨rfl,below1 _ _⟩

def BoxN (B : Nat) : Fact:=fun v w => ∃ b,v = .pointer (some ⟨b,0,none⟩) ∧ B ≤ b ∧ w.heap[b]? = some (.cells #[.string ⟨#[]⟩,.string ⟨#[]⟩,.int .i64 0,.int .i64 0,.int .i64 0,.bool false,.slice none 0 0] 109 (0,0))
theorem BoxN.mono (B : Nat) : Fact.Mono (BoxN B):=by
 rintro v w w' ⟨b,h1,h2,h3⟩ hb;exact ⟨b,h1,h2,(hb.block _ (lt_of_some h3)).trans h3⟩
theorem RightI.until {c : Cl} {n : Nd} {j : Nat} (h : RightI c) (hn : c.ns[j]? = some n) : 0 ≤ n.u ∧ n.u ≤ 1000000:=(h.2.1.1.2.1 j n hn).2.2.2.2.1
theorem offN_dead {c : Cl} {n : Nd} {t : ByteArray} (h : n.d = true) : OffN c n t ↔ n.u + 5 < c.now:=by
 unfold OffN;rw [h]
 simp
theorem offN_lives {c : Cl} {n : Nd} {t : ByteArray} (h : n.d = false) : OffN c n t ↔ ¬ InL n.zs t:=by
 unfold OffN;rw [h]
 simp

theorem soff_any (d : Ad) (c : Cl) (x : Qd) (j : Nat) (n : Nd) (w : World) (hr : ClRow w d c.raw) (hT : RightI c) (hn : c.ns[j]? = some n) (hnn : n.n = x.d) :
  Calls Tryz.prog 99 #[.agg #[.slice d.a1 d.l1 d.c1,.slice d.a2 d.l2 d.c2,.slice d.a3 d.l3 d.c3,.slice d.a4 d.l4 d.c4,.slice d.a5 d.l5 d.c5,.int .i64 c.now],.agg #[.string x.n,.string x.d]] w (BoolB (OffN c n x.n) w):=by
 obtain ⟨a1,l1,y1,a2,l2,y2,a3,l3,y3,a4,l4,y4,a5,l5,y5⟩:=d;dsimp only;have HR:=hidK hr
 have hl1 : c.ns.length = l1:=by simpa using (show (c.ns.map ndF).length = l1 from hr.n.1)
 have hm1 : l1 ≤ 9223372036854775807:=Nat.le_trans hr.n.2.1 hr.n.2.2.1
 have hl2 : c.ks.length = l2:=by simpa using (show (c.ks.map kdF).length = l2 from hr.k.1)
 have hm2 : l2 ≤ 9223372036854775807:=Nat.le_trans hr.k.2.1 hr.k.2.2.1
 have hl3 : c.vs.length = l3:=by simpa using (show (c.vs.map vdF).length = l3 from hr.v.1)
 have hm3 : l3 ≤ 9223372036854775807:=Nat.le_trans hr.v.2.1 hr.v.2.2.1
 have hl4 : c.xs.length = l4:=by simpa using (show (c.xs.map xdF).length = l4 from hr.x.1)
 have hm4 : l4 ≤ 9223372036854775807:=Nat.le_trans hr.x.2.1 hr.x.2.2.1
 have hl5 : c.ps.length = l5:=by simpa using (show (c.ps.map pdF).length = l5 from hr.p.1)
 have hm5 : l5 ≤ 9223372036854775807:=Nat.le_trans hr.p.2.1 hr.p.2.2.1;clear hr;have HT:=hidK hT;have HN:=hidK hn;have HNN:=hidK hnn
 have hj1 : j < l1:=by have:=(List.getElem?_eq_some_iff.1 hn).1;omega
 have hj2 : (j : Int) < l1:=by omega
 have hj0 : ¬ (j : Int) < 0:=by omega
 have hu:=RightI.until hT hn;clear hT hn hnn;have HB:=hidK (Below.refl w.heap.size w);obtain ⟨b,o,y,rfl,hbl,hy,hat⟩:=nd_at HR.out.n hj1;rw [HN.out] at hy;obtain rfl:=Option.some.inj hy;obtain ⟨va,vl,vc,hvr,-,-,d0,d1,d2,d3,d4,d5,d6⟩:=nd_cells hat;have HV:=hidK hvr;clear hat hy hvr
 go_enter Tryz.func99,Tryz.ntmps99
 go_wp2_with fail;obtain ⟨W,hW0⟩ : ∃ W,W = ((w.alloc (.cells #[.slice (some ⟨b,o,none⟩) l1 y1,.slice a2 l2 y2,.slice a3 l3 y3,.slice a4 l4 y4,.slice a5 l5 y5,.int .i64 c.now] 38)).alloc (.cells #[.string x.n,.string x.d] 63)):=⟨_,rfl⟩
 have Bk : Hid (W.heap[w.heap.size]? = some (.cells #[.slice (some ⟨b,o,none⟩) l1 y1,.slice a2 l2 y2,.slice a3 l3 y3,.slice a4 l4 y4,.slice a5 l5 y5,.int .i64 c.now] 38 (0,0))):=by rw [hW0];exact heap2_0 _ _ _
 have Bx : Hid (W.heap[w.heap.size + 1]? = some (.cells #[.string x.n,.string x.d] 63 (0,0))):=by rw [hW0];exact heap2_1 _ _ _
 have HBW : Hid (Below w.heap.size w W):=by rw [hW0];exact below2 _ _ _
 have HNC:=hidK (And.intro d0 (And.intro d1 (And.intro d2 (And.intro d3 (And.intro d4 (And.intro d5 d6))))));have HBL:=hidK hbl;rw [← hW0];clear hW0 d0 d1 d2 d3 d4 d5 d6 hbl;rename_i K0 hK0;refine wp_region_grow_last (by kernel_rfl) rfl rfl (by kernel_rfl) ?_;refine' Grow.stepC _ rfl ?_ ?_;rotate_left 1
 ·refine Obl.plain rfl ?_;intro ac wg K hsz hW hf hK;clear hsz;have e2:=hf 2 (by decide)
  simp [slotFact,List.lookup] at e2
  clear hf;go_simp;refine hK _ _ (Below.refl _ _) ?_;with_reducible rfl
 refine' Grow.stepC _ rfl ?_ ?_;rotate_left 1
 ·refine Obl.plain rfl ?_;intro ac wg K hsz hW hf hK;clear hsz;have e6:=hf 6 (by decide)
  simp [slotFact,List.lookup] at e6
  clear hf;obtain ⟨k0,k1,k2,k3,k4,k5⟩:=cs6 ((hW.block _ (lt_of_some Bk.out)).trans Bk.out);go_simp;refine hK _ _ (Below.refl _ _) ?_;with_reducible rfl
 refine' Grow.stepC _ rfl ?_ ?_;rotate_left 1
 ·refine Obl.plain rfl ?_;intro ac wg K hsz hW hf hK;clear hsz;have e2:=hf 2 (by decide)
  simp [slotFact,List.lookup] at e2
  clear hf;obtain ⟨k0,k1,k2,k3,k4,k5⟩:=cs6 ((hW.block _ (lt_of_some Bk.out)).trans Bk.out);go_simp;refine hK _ _ (Below.refl _ _) ?_;with_reducible rfl
 refine' Grow.stepC _ rfl ?_ ?_;rotate_left 1
 ·refine Obl.plain rfl ?_;intro ac wg K hsz hW hf hK;clear hsz;have e3:=hf 3 (by decide)
  simp [slotFact,List.lookup] at e3
  clear hf;go_simp;refine hK _ _ (Below.refl _ _) ?_;with_reducible rfl
 refine' Grow.stepC _ rfl ?_ ?_;rotate_left 1
 ·refine Obl.plain rfl ?_;intro ac wg K hsz hW hf hK;clear hsz;have e9:=hf 9 (by decide)
  simp [slotFact,List.lookup] at e9
  clear hf;obtain ⟨k0,k1⟩:=cs2 ((hW.block _ (lt_of_some Bx.out)).trans Bx.out);go_simp;refine hK _ _ (Below.refl _ _) ?_;with_reducible rfl
 refine' Grow.stepC (.int .i64 j) rfl ?_ ?_
 ·refine Obl.plain rfl ?_;intro ac wg K hsz hW hf hK;clear hsz;have e8:=hf 8 (by decide)
  simp [slotFact,List.lookup] at e8
  have e10:=hf 10 (by decide)
  simp [slotFact,List.lookup] at e10
  clear hf;go_simp;refine (sxnd_hit ⟨(some ⟨b,o,none⟩),l1,y1,a2,l2,y2,a3,l3,y3,a4,l4,y4,a5,l5,y5⟩ c.now c.ns x.d _ (HR.out.n.below (HBW.out.trans (hW.mono HBW.out.size))) HT.out.2.1.1.2.2 HN.out HNN.out).mono ?_;rintro e w6 ⟨rfl,hb6⟩;exact hK _ _ hb6 rfl
 refine' Grow.stepC _ rfl ?_ ?_;rotate_left 1
 ·refine Obl.plain rfl ?_;intro ac wg K hsz hW hf hK;clear hsz;have e7:=hf 7 (by decide)
  simp [slotFact,List.lookup] at e7
  have e11:=hf 11 (by decide)
  simp [slotFact,List.lookup] at e11
  clear hf;go_simp;refine hK _ _ (Below.refl _ _) ?_;with_reducible rfl
 refine' Grow.stepC _ rfl ?_ ?_;rotate_left 1
 ·refine Obl.plain rfl ?_;intro ac wg K hsz hW hf hK;clear hsz;have e12:=hf 12 (by decide)
  simp [slotFact,List.lookup] at e12
  clear hf;obtain ⟨d0,d1,d2,d3,d4,d5,d6⟩:=HNC.out;have hbg:=HBW.out.trans (hW.mono HBW.out.size);replace d0:=(cell_below hbg HBL.out).trans d0;replace d1:=(cell_below hbg HBL.out).trans d1;replace d2:=(cell_below hbg HBL.out).trans d2;replace d3:=(cell_below hbg HBL.out).trans d3;replace d4:=(cell_below hbg HBL.out).trans d4;replace d5:=(cell_below hbg HBL.out).trans d5;replace d6:=(cell_below hbg HBL.out).trans d6;go_simp;refine hK _ _ (Below.refl _ _) ?_;with_reducible rfl
 refine Grow.step (BoxN W.heap.size) rfl (BoxN.mono _) ?_ ?_
 ·refine Obl.plain rfl ?_;intro ac wg K hsz hW hf hK;clear hsz;clear hf;go_simp;exact hK _ _ (below1 _ _) ⟨_,rfl,hW.size,Array.getElem?_push_size⟩
 refine Grow.done ?_;intro q wz hW hf;simp only [List.forall_mem_cons] at hf;obtain ⟨⟨b9,h5,hb9,hg9⟩,h13,-⟩:=hf;have g0:=hg9;have g1 : (wz.setCell ⟨b9,0,none⟩ (.string n.n)).heap[b9]? = some (.cells #[.string n.n,.string ⟨#[]⟩,.int .i64 0,.int .i64 0,.int .i64 0,.bool false,.slice none 0 0] 109 (0,0)):=block_set g0 _;have g2 : ((wz.setCell ⟨b9,0,none⟩ (.string n.n)).setCell ⟨b9,1,none⟩ (.string n.z)).heap[b9]? = some (.cells #[.string n.n,.string n.z,.int .i64 0,.int .i64 0,.int .i64 0,.bool false,.slice none 0 0] 109 (0,0)):=block_set g1 _;have g3 : (((wz.setCell ⟨b9,0,none⟩ (.string n.n)).setCell ⟨b9,1,none⟩ (.string n.z)).setCell ⟨b9,2,none⟩ (.int .i64 n.c)).heap[b9]? = some (.cells #[.string n.n,.string n.z,.int .i64 n.c,.int .i64 0,.int .i64 0,.bool false,.slice none 0 0] 109 (0,0)):=block_set g2 _;have g4 : ((((wz.setCell ⟨b9,0,none⟩ (.string n.n)).setCell ⟨b9,1,none⟩ (.string n.z)).setCell ⟨b9,2,none⟩ (.int .i64 n.c)).setCell ⟨b9,3,none⟩ (.int .i64 n.s)).heap[b9]? = some (.cells #[.string n.n,.string n.z,.int .i64 n.c,.int .i64 n.s,.int .i64 0,.bool false,.slice none 0 0] 109 (0,0)):=block_set g3 _;have g5 : (((((wz.setCell ⟨b9,0,none⟩ (.string n.n)).setCell ⟨b9,1,none⟩ (.string n.z)).setCell ⟨b9,2,none⟩ (.int .i64 n.c)).setCell ⟨b9,3,none⟩ (.int .i64 n.s)).setCell ⟨b9,4,none⟩ (.int .i64 n.u)).heap[b9]? = some (.cells #[.string n.n,.string n.z,.int .i64 n.c,.int .i64 n.s,.int .i64 n.u,.bool false,.slice none 0 0] 109 (0,0)):=block_set g4 _;have g6 : ((((((wz.setCell ⟨b9,0,none⟩ (.string n.n)).setCell ⟨b9,1,none⟩ (.string n.z)).setCell ⟨b9,2,none⟩ (.int .i64 n.c)).setCell ⟨b9,3,none⟩ (.int .i64 n.s)).setCell ⟨b9,4,none⟩ (.int .i64 n.u)).setCell ⟨b9,5,none⟩ (.bool n.d)).heap[b9]? = some (.cells #[.string n.n,.string n.z,.int .i64 n.c,.int .i64 n.s,.int .i64 n.u,.bool n.d,.slice none 0 0] 109 (0,0)):=block_set g5 _
 have g7 : (((((((wz.setCell ⟨b9,0,none⟩ (.string n.n)).setCell ⟨b9,1,none⟩ (.string n.z)).setCell ⟨b9,2,none⟩ (.int .i64 n.c)).setCell ⟨b9,3,none⟩ (.int .i64 n.s)).setCell ⟨b9,4,none⟩ (.int .i64 n.u)).setCell ⟨b9,5,none⟩ (.bool n.d)).setCell ⟨b9,6,none⟩ (.slice va vl vc)).heap[b9]? = some (.cells #[.string n.n,.string n.z,.int .i64 n.c,.int .i64 n.s,.int .i64 n.u,.bool n.d,.slice va vl vc] 109 (0,0)):=block_set g6 _;obtain ⟨t0,t1,t2,t3,t4,t5,t6⟩:=cs7 hg9;have f0:=froK hg9 0;have f1:=froK hg9 1;have f2:=froK hg9 2;have f3:=froK hg9 3;have f4:=froK hg9 4;have f5:=froK hg9 5;have f6:=froK hg9 6;have Bn:=hidK g7;have HWX : Hid (Below W.heap.size W (((((((wz.setCell ⟨b9,0,none⟩ (.string n.n)).setCell ⟨b9,1,none⟩ (.string n.z)).setCell ⟨b9,2,none⟩ (.int .i64 n.c)).setCell ⟨b9,3,none⟩ (.int .i64 n.s)).setCell ⟨b9,4,none⟩ (.int .i64 n.u)).setCell ⟨b9,5,none⟩ (.bool n.d)).setCell ⟨b9,6,none⟩ (.slice va vl vc))):=set_below hb9 (set_below hb9 (set_below hb9 (set_below hb9 (set_below hb9 (set_below hb9 (set_below hb9 (hW)))))));clear g0 g1 g2 g3 g4 g5 g6 g7 hg9;intro K hK;rw [if_pos (by rfl)];simp only [putsAll,List.foldr,Act.put,List.setIfInBounds_toArray,List.set_cons_zero,List.set_cons_succ,h5,h13];simp only [List.getLast];go_simp;refine hK _ _ ?_;refine hK0 _ _ ?_;clear hK hK0 K K0
 generalize (((((((wz.setCell ⟨b9,0,none⟩ (.string n.n)).setCell ⟨b9,1,none⟩ (.string n.z)).setCell ⟨b9,2,none⟩ (.int .i64 n.c)).setCell ⟨b9,3,none⟩ (.int .i64 n.s)).setCell ⟨b9,4,none⟩ (.int .i64 n.u)).setCell ⟨b9,5,none⟩ (.bool n.d)).setCell ⟨b9,6,none⟩ (.slice va vl vc)) = X3 at Bn HWX ⊢
 clear t0 t1 t2 t3 t4 t5 t6 f0 f1 f2 f3 f4 f5 f6;have HB3:=hidK (HBW.out.trans (HWX.out.mono HBW.out.size));replace Bk:=hidK ((HWX.out.block _ (lt_of_some Bk.out)).trans Bk.out);replace Bx:=hidK ((HWX.out.block _ (lt_of_some Bx.out)).trans Bx.out);clear HB hW HWX HBW;have HB:=HB3;clear HB3
 cases hd : n.d
 ·have HD:=hidK hd;clear hd;rw [HD.out] at Bn;obtain ⟨k0,k1,k2,k3,k4,k5⟩:=cs6 Bk.out;have ltk_0:=lt_of_some Bk.out;obtain ⟨x0,x1⟩:=cs2 Bx.out;have ltx_0:=lt_of_some Bx.out;obtain ⟨n0,n1,n2,n3,n4,n5,n6⟩:=cs7 Bn.out;have ltn_0:=lt_of_some Bn.out;go_wp2_with fail;refine (shas_any va vl vc n.zs x.n _ (HV.out.below HB.out)).mono ?_;rintro e w4 ⟨r,rfl,hh,hb⟩;clear k0 k1 k2 k3 k4 k5 ltk_0 x0 x1 ltx_0 n0 n1 n2 n3 n4 n5 n6 ltn_0;replace Bk:=upK Bk hb;replace Bx:=upK Bx hb;replace Bn:=upK Bn hb;replace HB:=upB HB hb;clear hb;have HH:=hidK hh;clear hh;obtain ⟨k0,k1,k2,k3,k4,k5⟩:=cs6 Bk.out;have ltk_1:=lt_of_some Bk.out;obtain ⟨x0,x1⟩:=cs2 Bx.out;have ltx_1:=lt_of_some Bx.out;obtain ⟨n0,n1,n2,n3,n4,n5,n6⟩:=cs7 Bn.out;have ltn_1:=lt_of_some Bn.out
  cases r
  all_goals (
   go_wp2
   go_ret
   first
    | exact BoolB.t ((offN_lives HD.out).2 (fun h => by have h9:=HH.out.2 h;cases h9)) HB.out
    | exact BoolB.f (fun h => (offN_lives HD.out).1 h (HH.out.1 (by simp))) HB.out)
 ·have HD:=hidK hd;clear hd;rw [HD.out] at Bn;obtain ⟨k0,k1,k2,k3,k4,k5⟩:=cs6 Bk.out;have ltk_0:=lt_of_some Bk.out;obtain ⟨x0,x1⟩:=cs2 Bx.out;have ltx_0:=lt_of_some Bx.out;obtain ⟨n0,n1,n2,n3,n4,n5,n6⟩:=cs7 Bn.out;have ltn_0:=lt_of_some Bn.out;go_wp2_with fail;obtain ⟨r,hr⟩ : ∃ r,r = decide (n.u + 5 < c.now):=⟨_,rfl⟩;have HRR:=hidK hr;clear hr;have hg:=sgoneE_any ⟨(some ⟨b,o,none⟩),l1,y1,a2,l2,y2,a3,l3,y3,a4,l4,y4,a5,l5,y5⟩ c.now n va vl vc X3 hu.1 hu.2;rw [HD.out,← HRR.out] at hg;refine (hg).mono ?_;rintro e w4 ⟨rfl,hb⟩;clear k0 k1 k2 k3 k4 k5 ltk_0 x0 x1 ltx_0 n0 n1 n2 n3 n4 n5 n6 ltn_0;replace Bk:=upK Bk hb;replace Bx:=upK Bx hb;replace Bn:=upK Bn hb;replace HB:=upB HB hb;clear hb;clear hg;obtain ⟨k0,k1,k2,k3,k4,k5⟩:=cs6 Bk.out;have ltk_1:=lt_of_some Bk.out
  cases r
  all_goals (
   go_wp2
   go_ret
   first
    | exact BoolB.t ((offN_dead HD.out).2 (of_decide_eq_true HRR.out.symm)) HB.out
    | exact BoolB.f (fun h => (of_decide_eq_false HRR.out.symm) ((offN_dead HD.out).1 h)) HB.out)

theorem imoff_any (d : Ad) (c : Cl) (t s : ByteArray) (j : Nat) (n : Nd) (w : World) (hr : ClRow w d c.raw) (hT : RightI c) (hn : c.ns[j]? = some n) (hnn : n.n = s) :
  Calls Tryz.prog 101 #[.agg #[.slice d.a1 d.l1 d.c1,.slice d.a2 d.l2 d.c2,.slice d.a3 d.l3 d.c3,.slice d.a4 d.l4 d.c4,.slice d.a5 d.l5 d.c5,.int .i64 c.now],.string t,.string s] w (BoolB (OffN c n t) w):=by
 have HR:=hidK hr;have HT:=hidK hT;have HN:=hidK hn;have HNN:=hidK hnn;have hu:=RightI.until hT hn;have HB:=hidK (Below.refl w.heap.size w);clear hr hT hn hnn
 go_enter Tryz.func101,Tryz.ntmps101
 go_wp2_with fail;refine (thend_any d c.now c.ns s w _ HR.out.n (below1 _ _)).mono ?_;rintro e w1 ⟨hb,hf⟩;obtain ⟨HA0,hbx⟩:=slots1 hb;have Bk:=hidK HA0;replace HB:=upB HB hbx;clear hb hbx HA0;have hit9:=hit_at HT.out.2.1.1.2.2 HN.out HNN.out
 rcases hf with ⟨hh,n9,va,vl,vc,hx,hn9,rfl,z0,z1,hvr⟩ | ⟨hh,rfl⟩
 rotate_left
 ·rw [hit9.2] at hh
  cases hh
 obtain ⟨-,rfl⟩:=HT.out.2.1.1.2.2.inj HN.out hx (HNN.out.trans hn9.symm);have HV:=hidK hvr;clear hx hn9 hh z0 z1 hvr hit9
 cases hd : n.d
 ·have HD:=hidK hd;clear hd;obtain ⟨k0,k1,k2,k3,k4,k5⟩:=cs6 Bk.out;have ltk_1:=lt_of_some Bk.out;go_wp2_with fail;refine (icontains_any va vl vc n.zs t _ (HV.out.below (HB.out.alloc HB.out.size _))).mono ?_;rintro e w4 ⟨r,rfl,hh,hb⟩;clear k0 k1 k2 k3 k4 k5 ltk_1;obtain ⟨HA0,hbx⟩:=slots1 hb;replace Bk:=upK Bk hbx;have Bn:=hidK HA0;replace HB:=upB HB hbx;clear hb hbx HA0;have HH:=hidK hh;clear hh;obtain ⟨k0,k1,k2,k3,k4,k5⟩:=cs6 Bk.out;have ltk_2:=lt_of_some Bk.out;obtain ⟨n0,n1,n2,n3,n4,n5,n6⟩:=cs7 Bn.out;have ltn_2:=lt_of_some Bn.out
  cases r
  all_goals (
   go_wp2
   go_ret
   first
    | exact BoolB.t ((offN_lives HD.out).2 (fun h => by have h9:=HH.out.2 h;cases h9)) HB.out
    | exact BoolB.f (fun h => (offN_lives HD.out).1 h (HH.out.1 (by simp))) HB.out)
 ·have HD:=hidK hd;clear hd;obtain ⟨k0,k1,k2,k3,k4,k5⟩:=cs6 Bk.out;have ltk_1:=lt_of_some Bk.out;go_wp2_with fail;have hg:=ileaseE_any d c.now n va vl vc (w1.alloc (.cells #[.string n.n,.string n.z,.int .i64 n.c,.int .i64 n.s,.int .i64 n.u,.bool true,.slice va vl vc] 109));rw [HD.out] at hg;refine (hg).mono ?_;rintro e w4 ⟨rfl,hb⟩;clear k0 k1 k2 k3 k4 k5 ltk_1;obtain ⟨HA0,hbx⟩:=slots1 hb;replace Bk:=upK Bk hbx;have Bn:=hidK HA0;replace HB:=upB HB hbx;clear hb hbx HA0;clear hg;obtain ⟨k0,k1,k2,k3,k4,k5⟩:=cs6 Bk.out;have ltk_2:=lt_of_some Bk.out;go_wp2_with fail;obtain ⟨r,hr⟩ : ∃ r,r = decide (n.u + 5 < c.now):=⟨_,rfl⟩;have HRR:=hidK hr;clear hr;have hg:=ioutE_any n.u c.now w4 hu.1 hu.2;rw [← HRR.out] at hg;refine (hg).mono ?_;rintro e w5 ⟨rfl,hb⟩;clear k0 k1 k2 k3 k4 k5 ltk_2;replace Bk:=upK Bk hb;replace Bn:=upK Bn hb;replace HB:=upB HB hb;clear hb;clear hg;obtain ⟨k0,k1,k2,k3,k4,k5⟩:=cs6 Bk.out;have ltk_3:=lt_of_some Bk.out
  cases r
  all_goals (
   go_wp2
   go_ret
   first
    | exact BoolB.t ((offN_dead HD.out).2 (of_decide_eq_true HRR.out.symm)) HB.out
    | exact BoolB.f (fun h => (of_decide_eq_false HRR.out.symm) ((offN_dead HD.out).1 h)) HB.out)

def Wnt (c : Cl) (v : Vd) (t : ByteArray) : Prop:=∃ (j : Nat) (p : Pd),c.ps[j]? = some p ∧ Wants p t v.m
def Mof (c : Cl) (v : Vd) (t : ByteArray) : Prop:=∃ (j : Nat) (n : Nd),c.ns[j]? = some n ∧ n.n = t ∧ OffN c n v.n
def Xc (c : Cl) (v : Vd) (k : Nat) (q : Qd) : Prop:=∃ (i : Nat) (t : ByteArray),i < k ∧ v.zs[i]? = some t ∧ ¬ Wnt c v t ∧ Mof c v t ∧ q = ⟨v.n,t⟩
def Xn (c : Cl) (k : Nat) (q : Qd) : Prop:=∃ (j : Nat) (v : Vd),j < k ∧ c.vs[j]? = some v ∧ Xc c v v.zs.length q
def ExcAns (c : Cl) (B : Nat) (w : World) (e : Ending) (w' : World) : Prop:=∃ a' l' c' zs',e = .returned (.slice a' l' c') ∧ ROwn w' a' l' c' 2 63 (zs'.map qdF) (fun k => B ≤ k) ∧ RQ zs' ∧ (∀ q,q ∈ zs' ↔ Xn c c.vs.length q) ∧ zs'.length ≤ 64 ∧ Below w.heap.size w w'
theorem Mof.iff {c : Cl} {v : Vd} {t : ByteArray} {j : Nat} {n : Nd} (hr : RisBy Nd.n c.ns) (h : c.ns[j]? = some n) (hn : n.n = t) : Mof c v t ↔ OffN c n v.n:=by
 constructor
 ·rintro ⟨j',n',h',hn',ho⟩;obtain ⟨-,rfl⟩:=hr.inj h h' (hn.trans hn'.symm);exact ho
 ·exact fun ho => ⟨j,n,h,hn,ho⟩
theorem Xc.yes {c : Cl} {v : Vd} {k : Nat} {t : ByteArray} {q : Qd} (ht : v.zs[k]? = some t) (h1 : ¬ Wnt c v t) (h2 : Mof c v t) : Xc c v (k + 1) q ↔ Xc c v k q ∨ q = ⟨v.n,t⟩:=by
 constructor
 ·rintro ⟨i,s,hi,hs,a,b,e⟩
  by_cases h : i = k
  ·subst h;rw [ht] at hs;obtain rfl:=Option.some.inj hs;exact .inr e
  ·exact .inl ⟨i,s,by omega,hs,a,b,e⟩
 ·rintro (⟨i,s,hi,hs,a,b,e⟩ | e)
  ·exact ⟨i,s,by omega,hs,a,b,e⟩
  ·exact ⟨k,t,by omega,ht,h1,h2,e⟩
theorem Xc.no {c : Cl} {v : Vd} {k : Nat} {t : ByteArray} {q : Qd} (ht : v.zs[k]? = some t) (h1 : ¬ (¬ Wnt c v t ∧ Mof c v t)) : Xc c v (k + 1) q ↔ Xc c v k q:=by
 constructor
 ·rintro ⟨i,s,hi,hs,a,b,e⟩
  by_cases h : i = k
  ·subst h;rw [ht] at hs;obtain rfl:=Option.some.inj hs;exact absurd ⟨a,b⟩ h1
  ·exact ⟨i,s,by omega,hs,a,b,e⟩
 ·rintro ⟨i,s,hi,hs,a,b,e⟩;exact ⟨i,s,by omega,hs,a,b,e⟩
theorem Xn.step {c : Cl} {k : Nat} {v : Vd} {q : Qd} (hv : c.vs[k]? = some v) : Xn c (k + 1) q ↔ Xn c k q ∨ Xc c v v.zs.length q:=by
 constructor
 ·rintro ⟨i,s,hi,hs,a⟩
  by_cases h : i = k
  ·subst h;rw [hv] at hs;obtain rfl:=Option.some.inj hs;exact .inr a
  ·exact .inl ⟨i,s,by omega,hs,a⟩
 ·rintro (⟨i,s,hi,hs,a⟩ | a)
  ·exact ⟨i,s,by omega,hs,a⟩
  ·exact ⟨k,v,by omega,hv,a⟩

theorem iexc_any (d : Ad) (c : Cl) (w : World) (hr : ClRow w d c.raw) (hT : RightI c) :
  Calls Tryz.prog 49 #[.agg #[.slice d.a1 d.l1 d.c1,.slice d.a2 d.l2 d.c2,.slice d.a3 d.l3 d.c3,.slice d.a4 d.l4 d.c4,.slice d.a5 d.l5 d.c5,.int .i64 c.now]] w (ExcAns c (w.heap.size + 1) w):=by
 obtain ⟨a1,l1,y1,a2,l2,y2,a3,l3,y3,a4,l4,y4,a5,l5,y5⟩:=d;dsimp only;have HR:=hidK hr
 have hl1 : c.ns.length = l1:=by simpa using (show (c.ns.map ndF).length = l1 from hr.n.1)
 have hm1 : l1 ≤ 9223372036854775807:=Nat.le_trans hr.n.2.1 hr.n.2.2.1
 have hl2 : c.ks.length = l2:=by simpa using (show (c.ks.map kdF).length = l2 from hr.k.1)
 have hm2 : l2 ≤ 9223372036854775807:=Nat.le_trans hr.k.2.1 hr.k.2.2.1
 have hl3 : c.vs.length = l3:=by simpa using (show (c.vs.map vdF).length = l3 from hr.v.1)
 have hm3 : l3 ≤ 9223372036854775807:=Nat.le_trans hr.v.2.1 hr.v.2.2.1
 have hl4 : c.xs.length = l4:=by simpa using (show (c.xs.map xdF).length = l4 from hr.x.1)
 have hm4 : l4 ≤ 9223372036854775807:=Nat.le_trans hr.x.2.1 hr.x.2.2.1
 have hl5 : c.ps.length = l5:=by simpa using (show (c.ps.map pdF).length = l5 from hr.p.1)
 have hm5 : l5 ≤ 9223372036854775807:=Nat.le_trans hr.p.2.1 hr.p.2.2.1;clear hr;have HT:=hidK hT;clear hT
 have h58 : c.vs.length ≤ 8:=by have:=HT.out.sm.v;omega
 go_enter Tryz.func49,Tryz.ntmps49
 go_wp2
 go_loopw [3,11] (fun vo vi wr => ∃ (k : Nat) (ca : Option Addr) (cl cc : Nat) (ys : List Qd),k ≤ l3 ∧ vi = .int .i64 k ∧ vo = .slice ca cl cc ∧ Hid (ROwn wr ca cl cc 2 63 (ys.map qdF) (fun j => w.heap.size + 1 ≤ j) ∧ RQ ys ∧ (∀ q,q ∈ ys ↔ Xn c k q) ∧ ys.length ≤ 8 * k) ∧ Hid (Below (w.heap.size + 1) (w.alloc (.cells #[.slice a1 l1 y1,.slice a2 l2 y2,.slice a3 l3 y3,.slice a4 l4 y4,.slice a5 l5 y5,.int .i64 c.now] 38)) wr)) (fun _ vi _ => l3 - (intOf vi).toNat)
 case atStart => exact ⟨0,_,0,0,[],by omega,rfl,rfl,⟨⟨rfl,Nat.le_refl _,by omega,.inl rfl⟩,List.Pairwise.nil,fun q => ⟨fun h => by simp at h,fun ⟨j,p,h,_⟩ => by omega⟩,by simp⟩,Below.refl _ _⟩
 case round =>
  obtain ⟨k,ca,cl,cc,ys,hk,rfl,rfl,HQ,HL⟩:=hrel;have Bk:=hidK ((HL.out.block w.heap.size (by omega)).trans (heap_alloc_new w (.cells #[.slice a1 l1 y1,.slice a2 l2 y2,.slice a3 l3 y3,.slice a4 l4 y4,.slice a5 l5 y5,.int .i64 c.now] 38)));have HB:=hidK ((below1 w (.cells #[.slice a1 l1 y1,.slice a2 l2 y2,.slice a3 l3 y3,.slice a4 l4 y4,.slice a5 l5 y5,.int .i64 c.now] 38)).trans (HL.out.mono (by omega)))
  have hLs : w.heap.size + 1 ≤ wr.heap.size:=by have h8:=HL.out.size;rw [size1] at h8;exact h8
  by_cases hlt : k < l3
  ·obtain ⟨b,o,x,rfl,hb,hx,hat⟩:=vd_at (HR.out.v.below HB.out) hlt;obtain ⟨va,vl,vc,hvr,z0,z2,z3,z5,c0,c1,c2,c3,c4,c5,c6,c7⟩:=vd_cells hat;have HXx:=hidK hx;have HTx:=hidK hvr;have HZx0:=hidK z0;have HZx2:=hidK z2;have HZx3:=hidK z3;have HZx5:=hidK z5;clear hat hx z0 z2 z3 z5 hvr;have hbw:=hb;clear hb
   have hk1 : (k : Int) < l3:=by omega
   obtain ⟨W1,hW1⟩ : ∃ W1,W1 = wr:=⟨_,rfl⟩;subst hW1;have hxz : x.zs.length = vl:=HTx.out.1
   have hv3 : vl ≤ 8:=by have h9:=(names_six (HT.out.2.1.2.2.1.2.1 k x HXx.out).2.2.2.2.2.2).1;omega
   have hyb:=HQ.out.2.2.2;obtain ⟨k0,k1,k2,k3,k4,k5⟩:=cs6 Bk.out;have ltk_0:=lt_of_some Bk.out
   go_wp2
   clear k0 k1 k2 k3 k4 k5 ltk_0;clear c0 c1 c2 c3 c4 c5 c6 c7 hbw
   go_loopw [3,18] (fun vo vi wr => ∃ (n : Nat) (ca : Option Addr) (cl cc : Nat) (ys : List Qd),n ≤ vl ∧ vi = .int .i64 n ∧ vo = .slice ca cl cc ∧ Hid (ROwn wr ca cl cc 2 63 (ys.map qdF) (fun j => w.heap.size + 1 ≤ j) ∧ RQ ys ∧ (∀ q,q ∈ ys ↔ Xn c k q ∨ Xc c x n q) ∧ ys.length ≤ 8 * k + n) ∧ Hid (Below (W1.heap.size + 1) (W1.alloc (.cells #[.string x.n,.int .i64 x.c,.string x.z,.string x.k,.bool x.x,.string x.m,.bool x.y,.slice va vl vc] 81)) wr)) (fun _ vi _ => vl - (intOf vi).toNat)
   case atStart => exact ⟨0,_,_,_,ys,by omega,rfl,rfl,⟨HQ.out.1.below (below1 _ _),HQ.out.2.1,fun q => by rw [HQ.out.2.2.1];exact ⟨.inl,fun h => h.elim id (fun ⟨i,t,h,_⟩ => by omega)⟩,by omega⟩,Below.refl _ _⟩
   case round =>
    clear HQ hyb;obtain ⟨n,ca,cl,cc,ys,hn,rfl,rfl,HQ,HL2⟩:=hrel;have hbP : Below W1.heap.size W1 wr:=(below1 W1 (.cells #[.string x.n,.int .i64 x.c,.string x.z,.string x.k,.bool x.x,.string x.m,.bool x.y,.slice va vl vc] 81)).trans (HL2.out.mono (by omega));have Bp:=hidK ((HL2.out.block W1.heap.size (by omega)).trans (heap_alloc_new W1 (.cells #[.string x.n,.int .i64 x.c,.string x.z,.string x.k,.bool x.x,.string x.m,.bool x.y,.slice va vl vc] 81)));replace Bk:=upK Bk hbP;replace HB:=upB HB hbP;have HBP:=hidK hbP;have hs2:=hbP.size
    have hs3 : W1.heap.size + 1 ≤ wr.heap.size:=by have h8:=HL2.out.size;rw [size1] at h8;exact h8
    have hyl : ys.length = cl:=by have h9 : (ys.map qdF).length = cl:=HQ.out.1.1;rw [List.length_map] at h9;exact h9
    have hyb:=HQ.out.2.2.2;clear hbP
    by_cases hlt2 : n < vl
    ·have hk3 : (n : Int) < vl:=by omega
     obtain ⟨b2,o2,t,rfl,hb2,hx2,hc2,hsz2⟩:=(HTx.out.below HBP.out).at hlt2;have HXT:=hidK hx2;obtain ⟨j,nd,hj,hjn,-⟩:=HT.out.2.2.2.2.1.1 k x HXx.out n t hx2;have HJ:=hidK hj;have HJN:=hidK hjn;have HZT:=hidK hsz2;clear hj hjn hx2 hsz2;have HY2 : Hid (Bw wr wr):=Bw.refl _;obtain ⟨k0,k1,k2,k3,k4,k5⟩:=cs6 Bk.out;have ltk_0:=lt_of_some Bk.out;obtain ⟨p0,p1,p2,p3,p4,p5,p6,p7⟩:=cs8 Bp.out;have ltp_0:=lt_of_some Bp.out;go_wp2_with fail;refine (ipw_any ⟨a1,l1,y1,a2,l2,y2,(some ⟨b,o,none⟩),l3,y3,a4,l4,y4,a5,l5,y5⟩ c x (some ⟨b2,o2,none⟩) vl vc t _ (HR.out.below HB.out)).mono ?_;rintro e w2 ⟨r,rfl,hi,hb3⟩;clear k0 k1 k2 k3 k4 k5 ltk_0 p0 p1 p2 p3 p4 p5 p6 p7 ltp_0;replace Bk:=upK Bk hb3;replace Bp:=upK Bp hb3;replace HY2:=hidK (HY2.out.below hb3);replace HB:=upB HB hb3;clear hb3;have HI:=hidK hi;clear hi hb2 hc2
     cases r
     rotate_left
     ·obtain ⟨k0,k1,k2,k3,k4,k5⟩:=cs6 Bk.out;have ltk_1:=lt_of_some Bk.out;obtain ⟨p0,p1,p2,p3,p4,p5,p6,p7⟩:=cs8 Bp.out;have ltp_1:=lt_of_some Bp.out
      go_wp2
      refine ⟨⟨n + 1,ca,cl,cc,ys,by omega,by go_num,rfl,⟨HQ.out.1.below HY2.out.out,HQ.out.2.1,fun q => ?_,by omega⟩,HL2.out.trans (HY2.out.out.mono hs3)⟩,by simp [intOf];omega⟩;rw [HQ.out.2.2.1,Xc.no HXT.out (fun h => h.1 (HI.out.1 (by first | trivial | rfl)))]
     have HNW : Hid (¬ Wnt c x t):=fun h => by have h9:=HI.out.2 h;cases h9
     clear HI;obtain ⟨k0,k1,k2,k3,k4,k5⟩:=cs6 Bk.out;have ltk_1:=lt_of_some Bk.out;obtain ⟨p0,p1,p2,p3,p4,p5,p6,p7⟩:=cs8 Bp.out;have ltp_1:=lt_of_some Bp.out;go_wp2_with fail;refine (imoff_any ⟨a1,l1,y1,a2,l2,y2,(some ⟨b,o,none⟩),l3,y3,a4,l4,y4,a5,l5,y5⟩ c x.n t j nd _ (HR.out.below HB.out) HT.out HJ.out HJN.out).mono ?_;rintro e w3 ⟨r,rfl,hi,hb3⟩;clear k0 k1 k2 k3 k4 k5 ltk_1 p0 p1 p2 p3 p4 p5 p6 p7 ltp_1;replace Bk:=upK Bk hb3;replace Bp:=upK Bp hb3;replace HY2:=hidK (HY2.out.below hb3);replace HB:=upB HB hb3;clear hb3;have HI:=hidK hi;clear hi
     cases r
     ·obtain ⟨k0,k1,k2,k3,k4,k5⟩:=cs6 Bk.out;have ltk_2:=lt_of_some Bk.out;obtain ⟨p0,p1,p2,p3,p4,p5,p6,p7⟩:=cs8 Bp.out;have ltp_2:=lt_of_some Bp.out
      go_wp2
      refine ⟨⟨n + 1,ca,cl,cc,ys,by omega,by go_num,rfl,⟨HQ.out.1.below HY2.out.out,HQ.out.2.1,fun q => ?_,by omega⟩,HL2.out.trans (HY2.out.out.mono hs3)⟩,by simp [intOf];omega⟩;rw [HQ.out.2.2.1,Xc.no HXT.out (fun h => by have h9:=HI.out.2 ((Mof.iff HT.out.2.1.1.2.2 HJ.out HJN.out).1 h.2);cases h9)]
     have HMO : Hid (Mof c x t):=(Mof.iff HT.out.2.1.1.2.2 HJ.out HJN.out).2 (HI.out.1 (by first | trivial | rfl));clear HI;obtain ⟨k0,k1,k2,k3,k4,k5⟩:=cs6 Bk.out;have ltk_2:=lt_of_some Bk.out;obtain ⟨p0,p1,p2,p3,p4,p5,p6,p7⟩:=cs8 Bp.out;have ltp_2:=lt_of_some Bp.out;go_wp2_with fail;refine (iputQ_any ca cl cc ys ⟨x.n,t⟩ (w.heap.size + 1) _ (HQ.out.1.below HY2.out.out) (by have:=HY2.out.le;omega) HQ.out.2.1 (by omega) HZx0.out HZT.out).mono ?_;rintro e w4 ⟨sa,sl,sc,zs2,rfl,ho2,hp2,hb3⟩;clear k0 k1 k2 k3 k4 k5 ltk_2 p0 p1 p2 p3 p4 p5 p6 p7 ltp_2;replace Bk:=upK Bk hb3;replace Bp:=upK Bp hb3;replace HY2:=hidK (HY2.out.below hb3);replace HB:=upB HB hb3;clear hb3;have HP2:=hidK hp2;have HO2:=hidK ho2;clear hp2 ho2;obtain ⟨k0,k1,k2,k3,k4,k5⟩:=cs6 Bk.out;have ltk_3:=lt_of_some Bk.out;obtain ⟨p0,p1,p2,p3,p4,p5,p6,p7⟩:=cs8 Bp.out;have ltp_3:=lt_of_some Bp.out
     go_wp2
     refine ⟨⟨n + 1,sa,sl,sc,zs2,by omega,by go_num,rfl,⟨HO2.out,HP2.out.ris HQ.out.2.1,fun q => ?_,by have h9:=HP2.out.len;omega⟩,HL2.out.trans (HY2.out.out.mono hs3)⟩,by simp [intOf];omega⟩;rw [HP2.out.mem,HQ.out.2.2.1,Xc.yes HXT.out HNW.out HMO.out,or_assoc]
    have hk3 : ¬ (n : Int) < vl:=by omega
    have hnv : n = vl:=by omega
    obtain ⟨p0,p1,p2,p3,p4,p5,p6,p7⟩:=cs8 Bp.out;have ltp_0:=lt_of_some Bp.out
    go_wp2
    refine ⟨⟨k + 1,ca,cl,cc,ys,by omega,by go_num,rfl,⟨HQ.out.1,HQ.out.2.1,fun q => ?_,by omega⟩,HL.out.trans (HBP.out.mono (by omega))⟩,by simp [intOf];omega⟩;rw [HQ.out.2.2.1,Xn.step HXx.out,hxz,hnv]
  have hk1 : ¬ (k : Int) < l3:=by omega
  have hkl : k = l3:=by omega
  obtain ⟨k0,k1,k2,k3,k4,k5⟩:=cs6 Bk.out;have ltk_0:=lt_of_some Bk.out
  go_wp2
  go_ret;exact ⟨_,_,_,ys,rfl,HQ.out.1,HQ.out.2.1,by rw [hl3,← hkl];exact HQ.out.2.2.1,by have:=HQ.out.2.2.2;omega,HB.out⟩

def CanN (c : Cl) (v : Vd) (n : Nd) : Prop:=¬ InL v.zs n.n ∧ ¬ (v.x = true ∧ 0 < v.zs.length) ∧ onOf n.n c.vs < n.s

theorem imcan_any (d : Ad) (c : Cl) (x : Qd) (i j : Nat) (v : Vd) (n : Nd) (w : World) (hr : ClRow w d c.raw) (hT : RightI c) (hv : c.vs[i]? = some v) (hvn : v.n = x.n) (hn : c.ns[j]? = some n) (hnn : n.n = x.d) :
  Calls Tryz.prog 115 #[.agg #[.slice d.a1 d.l1 d.c1,.slice d.a2 d.l2 d.c2,.slice d.a3 d.l3 d.c3,.slice d.a4 d.l4 d.c4,.slice d.a5 d.l5 d.c5,.int .i64 c.now],.agg #[.string x.n,.string x.d]] w (BoolB (CanN c v n) w):=by
 have HR:=hidK hr;have HT:=hidK hT;have HV:=hidK hv;have HVN:=hidK hvn;have HN:=hidK hn;have HNN:=hidK hnn;have h8 : c.vs.length ≤ 8:=hT.sm.v;have HB:=hidK (Below.refl w.heap.size w);clear hr hT hn hnn hv hvn
 go_enter Tryz.func115,Tryz.ntmps115
 go_wp2_with fail;refine (thevd_any d c.now c.vs x.n w _ HR.out.v (below2 _ _ _)).mono ?_;rintro e w1 ⟨hb,hf⟩;obtain ⟨HA0,HA1,hbx⟩:=slots2 hb;have Bk:=hidK HA0;have Bx:=hidK HA1;replace HB:=upB HB hbx;clear hb hbx HA0 HA1;have hit9:=hit_at HT.out.2.1.2.2.1.2.2 HV.out HVN.out
 rcases hf with ⟨hh,n9,va,vl,vc,hx,hn9,rfl,hf9⟩ | ⟨hh,rfl⟩
 rotate_left
 ·rw [hit9.2] at hh
  cases hh
 obtain ⟨-,rfl⟩:=HT.out.2.1.2.2.1.2.2.inj HV.out hx (HVN.out.trans hn9.symm);have HZ:=hidK hf9;clear hx hn9 hh hit9 hf9;obtain ⟨k0,k1,k2,k3,k4,k5⟩:=cs6 Bk.out;have ltk_1:=lt_of_some Bk.out;obtain ⟨x0,x1⟩:=cs2 Bx.out;have ltx_1:=lt_of_some Bx.out;go_wp2_with fail;refine (thend_any d c.now c.ns x.d w _ HR.out.n (HB.out.trans ((below1 _ _).mono HB.out.size))).mono ?_;rintro e w2 ⟨hb,hf⟩;clear k0 k1 k2 k3 k4 k5 ltk_1 x0 x1 ltx_1;obtain ⟨HA0,hbx⟩:=slots1 hb;replace Bk:=upK Bk hbx;replace Bx:=upK Bx hbx;have Bv:=hidK HA0;replace HB:=upB HB hbx;clear hb hbx HA0;have hit9:=hit_at HT.out.2.1.1.2.2 HN.out HNN.out
 rcases hf with ⟨hh,n9,na,nl,nc,hx,hn9,rfl,-⟩ | ⟨hh,rfl⟩
 rotate_left
 ·rw [hit9.2] at hh
  cases hh
 obtain ⟨-,rfl⟩:=HT.out.2.1.1.2.2.inj HN.out hx (HNN.out.trans hn9.symm);clear hx hn9 hh hit9;obtain ⟨k0,k1,k2,k3,k4,k5⟩:=cs6 Bk.out;have ltk_2:=lt_of_some Bk.out;obtain ⟨x0,x1⟩:=cs2 Bx.out;have ltx_2:=lt_of_some Bx.out;obtain ⟨v0,v1,v2,v3,v4,v5,v6,v7⟩:=cs8 Bv.out;have ltv_2:=lt_of_some Bv.out;go_wp2_with fail;refine (icontains_any va vl vc v.zs n.n _ (HZ.out.2.2.2.2.below (HB.out.trans ((below1 _ _).mono HB.out.size)))).mono ?_;rintro e w3 ⟨r,rfl,hi,hb⟩;clear k0 k1 k2 k3 k4 k5 ltk_2 x0 x1 ltx_2 v0 v1 v2 v3 v4 v5 v6 v7 ltv_2;obtain ⟨HA0,hbx⟩:=slots1 hb;replace Bk:=upK Bk hbx;replace Bx:=upK Bx hbx;replace Bv:=upK Bv hbx;have Bn:=hidK HA0;replace HB:=upB HB hbx;clear hb hbx HA0;have HI:=hidK hi;have hvl : v.zs.length = vl:=HZ.out.2.2.2.2.1;clear hi
 cases r
 rotate_left
 ·obtain ⟨k0,k1,k2,k3,k4,k5⟩:=cs6 Bk.out;have ltk_3:=lt_of_some Bk.out;obtain ⟨x0,x1⟩:=cs2 Bx.out;have ltx_3:=lt_of_some Bx.out;obtain ⟨v0,v1,v2,v3,v4,v5,v6,v7⟩:=cs8 Bv.out;have ltv_3:=lt_of_some Bv.out;obtain ⟨n0,n1,n2,n3,n4,n5,n6⟩:=cs7 Bn.out;have ltn_3:=lt_of_some Bn.out
  go_wp2
  go_ret;exact BoolB.f (fun h => h.1 (HI.out.1 (by first | trivial | rfl))) HB.out
 have HNI : Hid (¬ InL v.zs n.n):=fun h => by have h9:=HI.out.2 h;cases h9
 clear HI
 cases hx : v.x
 rotate_left
 ·rw [hx] at Bv;have HX:=hidK hx;clear hx
  by_cases h0 : 0 < vl
  ·have h1 : (0 : Int) < vl:=by omega
   obtain ⟨k0,k1,k2,k3,k4,k5⟩:=cs6 Bk.out;have ltk_3:=lt_of_some Bk.out;obtain ⟨x0,x1⟩:=cs2 Bx.out;have ltx_3:=lt_of_some Bx.out;obtain ⟨v0,v1,v2,v3,v4,v5,v6,v7⟩:=cs8 Bv.out;have ltv_3:=lt_of_some Bv.out;obtain ⟨n0,n1,n2,n3,n4,n5,n6⟩:=cs7 Bn.out;have ltn_3:=lt_of_some Bn.out
   go_wp2
   go_ret;exact BoolB.f (fun h => h.2.1 ⟨HX.out,by omega⟩) HB.out
  ·have h1 : ¬ (0 : Int) < vl:=by omega
   obtain ⟨k0,k1,k2,k3,k4,k5⟩:=cs6 Bk.out;have ltk_3:=lt_of_some Bk.out;obtain ⟨x0,x1⟩:=cs2 Bx.out;have ltx_3:=lt_of_some Bx.out;obtain ⟨v0,v1,v2,v3,v4,v5,v6,v7⟩:=cs8 Bv.out;have ltv_3:=lt_of_some Bv.out;obtain ⟨n0,n1,n2,n3,n4,n5,n6⟩:=cs7 Bn.out;have ltn_3:=lt_of_some Bn.out;go_wp2_with fail;clear k0 k1 k2 k3 k4 k5 ltk_3 x0 x1 ltx_3 v0 v1 v2 v3 v4 v5 v6 v7 ltv_3 n0 n1 n2 n3 n4 n5 n6 ltn_3;have Gk:=Bk;have Gx:=Bx;have Gv:=Bv;have Gn:=Bn;have HW:=HB;obtain ⟨k0,k1,k2,k3,k4,k5⟩:=sl6 Gk;obtain ⟨x0,x1⟩:=sl2 Gx;obtain ⟨v0,v1,v2,v3,v4,v5,v6,v7⟩:=sl8 Gv;obtain ⟨n0,n1,n2,n3,n4,n5,n6⟩:=sl7 Gn;have hne0:=Wd.ne w3;have HC0:=hidK (fun q : Wd w3 => iusedSlots_any d c.now c.vs n.n q.w (HR.out.v.below (HW.out.trans (q.b.mono HW.out.size))) h8);go_wp2_with fail;refine wp_region_wide (by kernel_rfl) (by kernel_rfl) ?_
   repeat (go_big_quiet_step (first | (go_at_call 147;exact Calls.wide (HC0.out _)) | fail))
   refine wpQuiet_nil ?_;rintro _ ⟨q1,rfl⟩;have HB4:=upB HW q1.b;have Ck:=upK Gk q1.b;have Cx:=upK Gx q1.b;have Cv:=upK Gv q1.b;have Cn:=upK Gn q1.b;clear hne0 HW HB HC0 k0 k1 k2 k3 k4 k5 x0 x1 v0 v1 v2 v3 v4 v5 v6 v7 n0 n1 n2 n3 n4 n5 n6 Gk Gx Gv Gn Bk Bx Bv Bn;have HB:=HB4;clear HB4;have Bk:=Ck;clear Ck;have Bx:=Cx;clear Cx;have Bv:=Cv;clear Cv;have Bn:=Cn;clear Cn
   go_wp2
   go_ret;exact ⟨_,rfl,by simp only [decide_eq_true_eq];exact ⟨fun h => ⟨HNI.out,(fun h => by omega),h⟩,fun h => h.2.2⟩,HB.out⟩
 ·rw [hx] at Bv;have HX:=hidK hx;clear hx;obtain ⟨k0,k1,k2,k3,k4,k5⟩:=cs6 Bk.out;have ltk_3:=lt_of_some Bk.out;obtain ⟨x0,x1⟩:=cs2 Bx.out;have ltx_3:=lt_of_some Bx.out;obtain ⟨v0,v1,v2,v3,v4,v5,v6,v7⟩:=cs8 Bv.out;have ltv_3:=lt_of_some Bv.out;obtain ⟨n0,n1,n2,n3,n4,n5,n6⟩:=cs7 Bn.out;have ltn_3:=lt_of_some Bn.out;go_wp2_with fail;clear k0 k1 k2 k3 k4 k5 ltk_3 x0 x1 ltx_3 v0 v1 v2 v3 v4 v5 v6 v7 ltv_3 n0 n1 n2 n3 n4 n5 n6 ltn_3;have Gk:=Bk;have Gx:=Bx;have Gv:=Bv;have Gn:=Bn;have HW:=HB;obtain ⟨k0,k1,k2,k3,k4,k5⟩:=sl6 Gk;obtain ⟨x0,x1⟩:=sl2 Gx;obtain ⟨v0,v1,v2,v3,v4,v5,v6,v7⟩:=sl8 Gv;obtain ⟨n0,n1,n2,n3,n4,n5,n6⟩:=sl7 Gn;have hne0:=Wd.ne w3;have HC0:=hidK (fun q : Wd w3 => iusedSlots_any d c.now c.vs n.n q.w (HR.out.v.below (HW.out.trans (q.b.mono HW.out.size))) h8);go_wp2_with fail;refine wp_region_wide (by kernel_rfl) (by kernel_rfl) ?_
  repeat (go_big_quiet_step (first | (go_at_call 147;exact Calls.wide (HC0.out _)) | fail))
  refine wpQuiet_nil ?_;rintro _ ⟨q1,rfl⟩;have HB4:=upB HW q1.b;have Ck:=upK Gk q1.b;have Cx:=upK Gx q1.b;have Cv:=upK Gv q1.b;have Cn:=upK Gn q1.b;clear hne0 HW HB HC0 k0 k1 k2 k3 k4 k5 x0 x1 v0 v1 v2 v3 v4 v5 v6 v7 n0 n1 n2 n3 n4 n5 n6 Gk Gx Gv Gn Bk Bx Bv Bn;have HB:=HB4;clear HB4;have Bk:=Ck;clear Ck;have Bx:=Cx;clear Cx;have Bv:=Cv;clear Cv;have Bn:=Cn;clear Cn
  go_wp2
  go_ret;exact ⟨_,rfl,by simp only [decide_eq_true_eq];exact ⟨fun h => ⟨HNI.out,(fun h => by have h9:=h.1;rw [HX.out] at h9;cases h9),h⟩,fun h => h.2.2⟩,HB.out⟩

theorem wo_erase {α : Type} {nm : α → ByteArray} {t : ByteArray} {xs : List α} {k : Nat} {x : α} (hr : RisBy nm xs) (hx : xs[k]? = some x) (hn : nm x = t) : wo nm t xs = xs.take k ++ xs.drop (k + 1):=by
 have hk : k < xs.length:=(List.getElem?_eq_some_iff.1 hx).1
 have e : xs = xs.take k ++ x :: xs.drop (k + 1):=by
  have h1 : xs.drop k = x :: xs.drop (k + 1):=by rw [List.drop_eq_getElem_cons hk];congr 1;exact (List.getElem?_eq_some_iff.1 hx).2
  rw [← h1,List.take_append_drop]
 have hno : ∀ (j : Nat) y,xs[j]? = some y → ¬ j = k → (!((nm y).toList == t.toList)) = true:=fun j y hj hne => by
  have : ¬ nm y = t:=fun q => hne (hr.inj hj hx (q.trans hn.symm)).1
  simp [tl_no this]
 have h1 : (xs.take k).filter (fun x => !((nm x).toList == t.toList)) = xs.take k:=List.filter_eq_self.2 fun y hy => by
  obtain ⟨j,hj⟩:=List.getElem?_of_mem hy;rw [List.getElem?_take] at hj
  split at hj
  ·exact hno j y hj (by omega)
  ·cases hj
 have h2 : (xs.drop (k + 1)).filter (fun x => !((nm x).toList == t.toList)) = xs.drop (k + 1):=List.filter_eq_self.2 fun y hy => by
  obtain ⟨j,hj⟩:=List.getElem?_of_mem hy;rw [List.getElem?_drop] at hj;exact hno _ y hj (by omega)
 unfold wo
 conv => lhs;rw [e]
 rw [List.filter_append,List.filter_cons,h1,h2,tl_yes hn]
 rfl

theorem run_append_typesT (w : World) (t t' ty e e' : TypeId) (i : TypeInfo) (ht : Tryz.prog.underlying t = some (.slice e)) (ht' : Tryz.prog.underlying t' = some (.slice e')) (hi : Tryz.prog.info? e = some i) (a : Option Addr) (l c : Nat) (b : Value) : (Builtin.append_ #[t,t'] ty #[.slice a l c,b]).run Tryz.prog w = (Builtin.append_ #[t,t] ty #[.slice a l c,b]).run Tryz.prog w:=by
 simp [Builtin.append_,run_underlying ht,run_underlying ht',sizeOf,typeInfo,hi]
theorem wpList_append_twoT {w : World} {ops : Array Oper} {rest : List Oper} {o : Oper} {a : Act} {Q : Exit → Act → World → Prop} (hgd : o.guard = none) (s x : Operand) (t t' : TypeId)
  (ho : o.op = .call { callee:=.builtin .append,args:=#[s,x],argTypes:=#[t,t'] })
  (base : Nat) (e e' : TypeId) (i : TypeInfo) (z : Value) (size bytes : Nat) (ht : Tryz.prog.underlying t = some (.slice e)) (ht' : Tryz.prog.underlying t' = some (.slice e')) (hi : Tryz.prog.info? e = some i) (hz : i.zero = some z)
  (hsize : i.size = size) (hby : i.bytes = bytes) (hzs : z.cells.size = size) (hsz : 0 < size)
  (v : Value) (n : Nat) (xs : List Value) (hs : a.eval s = v) (hown : w.ownsRow base e size v n xs)
  (ad : Addr) (m c : Nat) (news : List Value) (hx : a.eval x = .slice (some ad) m c) (hl : news.length = m * size) (hnews : ∀ j u,news[j]? = some u → w.cell? (ad.add j) = some u) (h1 : ∀ u ∈ news,u.oneCell' = true)
  (h63 : n + m ≤ maxLen) (hbytes : (n + m) * bytes ≤ 140737488355328) (hbase : base ≤ w.heap.size)
  (h : ∀ v' w',w'.ownsRow base e size v' (n + m) (xs ++ news) → w.grownBy w' v.ownBlock → wpList Tryz.prog ops Q rest (a.put o.dst v') w') : wpList Tryz.prog ops Q (o :: rest) a w:=by
 refine wpList_plain hgd fun K hK => ?_;obtain ⟨v',w',hr,h2,h3,h4⟩:=run_append_own (P:=Tryz.prog) w base t o.type e i z size bytes ht hi hz hsize hby hzs hsz v n xs hown ad m c news hl hnews h1 h63 hbytes hbase
 obtain ⟨va,vl,vc,rfl⟩ : ∃ a l c,v = .slice a l c:=by
  rcases hown.2 with ⟨rfl,_⟩ | ⟨g,cap,cur,rfl,_⟩
  ·exact ⟨_,_,_,rfl⟩
  ·exact ⟨_,_,_,rfl⟩
 rw [← run_append_typesT w t t' o.type e e' i ht ht' hi] at hr;unfold Oper.wp execOp;simp only [ho,resolve,invoke,builtin,Sem.run_bind,Sem.run_pure,Result.andThen_ok,List.map_toArray,List.map_cons,List.map_nil,hs,hx,hr];exact hK _ _ (h v' w' h2 h3)
theorem run_append_emptyT {w : World} {base : Nat} {t ty e : TypeId} {i : TypeInfo} {size : Nat} (ht : Tryz.prog.underlying t = some (.slice e)) (hi : Tryz.prog.info? e = some i) {v : Value} {n : Nat} {xs : List Value} (hown : w.ownsRow base e size v n xs) (ax : Option Addr) (cx : Nat) :
  (Builtin.append_ #[t,t] ty #[v,.slice ax 0 cx]).run Tryz.prog w = .ok v w:=by
 rcases hown.2 with ⟨rfl,rfl⟩ | ⟨g,cap,cur,rfl,_,_,hnc,_⟩
 ·cases ax <;> simp [Builtin.append_,run_underlying ht,sizeOf,typeInfo,hi,Builtin.lenOf,Builtin.firstCells,loadCells,loadCellsFrom]
 ·cases ax <;> simp [Builtin.append_,run_underlying ht,sizeOf,typeInfo,hi,Builtin.lenOf,Builtin.firstCells,hnc,storeCells,loadCells,loadCellsFrom]
theorem wpList_append_anyT {w : World} {ops : Array Oper} {rest : List Oper} {o : Oper} {a : Act} {Q : Exit → Act → World → Prop} (hgd : o.guard = none) (s x : Operand) (t : TypeId)
  (ho : o.op = .call { callee:=.builtin .append,args:=#[s,x],argTypes:=#[t,t] })
  (base : Nat) (e : TypeId) (i : TypeInfo) (z : Value) (size bytes : Nat) (ht : Tryz.prog.underlying t = some (.slice e)) (hi : Tryz.prog.info? e = some i) (hz : i.zero = some z)
  (hsize : i.size = size) (hby : i.bytes = bytes) (hzs : z.cells.size = size) (hsz : 0 < size)
  (v : Value) (n : Nat) (xs : List Value) (hs : a.eval s = v) (hown : w.ownsRow base e size v n xs)
  (ax : Option Addr) (l c : Nat) (news : List Value) (hx : a.eval x = .slice ax l c) (hl : news.length = l * size) (hnews : ∀ (j : Nat) u,news[j]? = some u → ∃ ad : Addr,ax = some ad ∧ w.cell? (ad.add j) = some u) (h1 : ∀ u ∈ news,u.oneCell' = true)
  (h63 : n + l ≤ maxLen) (hbytes : (n + l) * bytes ≤ 140737488355328) (hbase : base ≤ w.heap.size)
  (h : ∀ v' w',w'.ownsRow base e size v' (n + l) (xs ++ news) → w.grownBy w' v.ownBlock → wpList Tryz.prog ops Q rest (a.put o.dst v') w') : wpList Tryz.prog ops Q (o :: rest) a w:=by
 rcases news with _ | ⟨u,news⟩
 ·have hl0 : l = 0:=by
   rcases Nat.eq_zero_or_pos l with e | e
   ·exact e
   ·have:=Nat.mul_pos e hsz
    simp at hl
    omega
  subst hl0;refine wpList_plain hgd fun K hK => ?_;have hr:=run_append_emptyT (ty:=o.type) ht hi hown ax c;unfold Oper.wp execOp;simp only [ho,resolve,invoke,builtin,Sem.run_bind,Sem.run_pure,Result.andThen_ok,List.map_toArray,List.map_cons,List.map_nil,hs,hx,hr];exact hK _ _ (h v w (by simpa using hown) (World.grownBy.refl _ _))
 ·obtain ⟨ad,rfl,_⟩:=hnews 0 u rfl
  exact wpList_append_twoT hgd s x t t ho base e e i z size bytes ht ht hi hz hsize hby hzs hsz v n xs hs hown ad l c (u :: news) hx hl (fun j y hy => by
   obtain ⟨ad',e,h2⟩:=hnews j y hy
   cases e
   exact h2) h1 h63 hbytes hbase h

def RT (zs : List ByteArray) : Prop:=zs.Pairwise fun a b => Op.bytesLess a.toList b.toList = true
theorem less_not {x t : ByteArray} (h : Op.bytesLess x.toList t.toList = false) (hn : ¬ x = t) : Op.bytesLess t.toList x.toList = true:=by
 have h1:=less_tri x.toList t.toList;rw [h] at h1;have h2 : (t.toList == x.toList) = false:=tl_no (fun e => hn e.symm);rw [h2] at h1
 simpa using h1
def Put (t : ByteArray) (zs zs' : List ByteArray) : Prop:=(t ∈ zs ∧ zs' = zs) ∨ ∃ k,k ≤ zs.length ∧ zs' = zs.take k ++ [t] ++ zs.drop k ∧ (∀ (j : Nat) y,j < k → zs[j]? = some y → Op.bytesLess y.toList t.toList = true) ∧ ∀ y,zs[k]? = some y → Op.bytesLess t.toList y.toList = true
theorem Put.mem {t : ByteArray} {zs zs' : List ByteArray} (h : Put t zs zs') (s : ByteArray) : s ∈ zs' ↔ s ∈ zs ∨ s = t:=by
 rcases h with ⟨h,rfl⟩ | ⟨k,_,rfl,_,_⟩
 ·exact ⟨.inl,fun h1 => h1.elim id (fun e => e ▸ h)⟩
 ·have h1 : s ∈ zs ↔ s ∈ zs.take k ∨ s ∈ zs.drop k:=by rw [← List.mem_append,List.take_append_drop]
  rw [List.mem_append,List.mem_append,List.mem_singleton,h1]
  constructor
  ·rintro ((h | h) | h)
   ·exact .inl (.inl h)
   ·exact .inr h
   ·exact .inl (.inr h)
  ·rintro ((h | h) | h)
   ·exact .inl (.inl h)
   ·exact .inr h
   ·exact .inl (.inr h)
theorem Put.len {t : ByteArray} {zs zs' : List ByteArray} (h : Put t zs zs') : zs'.length ≤ zs.length + 1:=by
 rcases h with ⟨_,rfl⟩ | ⟨k,hk,rfl,_,_⟩
 ·omega
 ·simp only [List.length_append,List.length_take,List.length_drop,List.length_singleton]
  omega
theorem Put.ris {t : ByteArray} {zs zs' : List ByteArray} (h : Put t zs zs') (hr : RT zs) : RT zs':=by
 rcases h with ⟨_,rfl⟩ | ⟨k,hk,rfl,hlt,hgt⟩
 ·exact hr
 ·have h1 : RT (zs.take k ++ zs.drop k):=by rw [List.take_append_drop];exact hr
  obtain ⟨h2,h3,h4⟩:=List.pairwise_append.1 h1
  have h5 : ∀ a ∈ zs.take k,Op.bytesLess a.toList t.toList = true:=fun a ha => by
   obtain ⟨j,hj⟩:=List.getElem?_of_mem ha;rw [List.getElem?_take] at hj
   split at hj
   ·next hjk => exact hlt j a hjk hj
   ·cases hj
  have h6 : ∀ a ∈ zs.drop k,Op.bytesLess t.toList a.toList = true:=fun a ha => by
   cases hd : zs.drop k with
   | nil => rw [hd] at ha;cases ha
   | cons b r =>
    have hb : zs[k]? = some b:=by rw [← Nat.add_zero k,← List.getElem?_drop,hd];rfl
    have h7:=hgt b hb;rw [hd] at ha h3
    rcases List.mem_cons.1 ha with rfl | ha
    ·exact h7
    ·exact less_trans _ _ _ h7 ((List.pairwise_cons.1 h3).1 a ha)
  refine List.pairwise_append.2 ⟨List.pairwise_append.2 ⟨h2,List.pairwise_singleton _ _,fun a ha b hb => ?_⟩,h3,fun a ha b hb => ?_⟩
  ·rw [List.mem_singleton.1 hb];exact h5 a ha
  ·rcases List.mem_append.1 ha with ha | ha
   ·exact less_trans _ _ _ (h5 a ha) (h6 b hb)
   ·rw [List.mem_singleton.1 ha];exact h6 b hb
def PutAns (t : ByteArray) (zs : List ByteArray) (w : World) (e : Ending) (w' : World) : Prop:=∃ a' l' c' zs',e = .returned (.slice a' l' c') ∧ TxRow w' a' l' c' zs' ∧ Put t zs zs' ∧ Below w.heap.size w w'
theorem RT.ext : ∀ {xs ys : List ByteArray},RT xs → RT ys → (∀ s,s ∈ xs ↔ s ∈ ys) → xs = ys
 | [],[],_,_,_ => rfl
 | [],b :: ys,_,_,h => by have:=(h b).2 (List.mem_cons_self ..);cases this
 | a :: xs,[],_,_,h => by have:=(h a).1 (List.mem_cons_self ..);cases this
 | a :: xs,b :: ys,hx,hy,h => by
  obtain ⟨x1,x2⟩:=List.pairwise_cons.1 hx;obtain ⟨y1,y2⟩:=List.pairwise_cons.1 hy
  have hab : a = b:=by
   rcases List.mem_cons.1 ((h a).1 (List.mem_cons_self ..)) with e | ha
   ·exact e
   ·rcases List.mem_cons.1 ((h b).2 (List.mem_cons_self ..)) with e | hb
    ·exact e.symm
    ·have h9:=less_trans _ _ _ (y1 a ha) (x1 b hb);rw [less_irr] at h9
     cases h9
  subst hab
  have ne : ∀ {l : List ByteArray},(∀ s ∈ l,Op.bytesLess a.toList s.toList = true) → ∀ s ∈ l,¬ s = a:=fun hl s hs e => by
   have h9:=hl s hs;rw [e,less_irr] at h9
   cases h9
  rw [RT.ext x2 y2 (fun s => ⟨fun hs => (List.mem_cons.1 ((h s).1 (List.mem_cons_of_mem _ hs))).resolve_left (ne x1 s hs),fun hs => (List.mem_cons.1 ((h s).2 (List.mem_cons_of_mem _ hs))).resolve_left (ne y1 s hs)⟩)]

theorem take_get {α : Type} {l : List α} {k j : Nat} {u : α} (h : (l.take k)[j]? = some u) : l[j]? = some u:=by
 rw [List.getElem?_take] at h
 split at h
 ·exact h
 ·cases h

def CanQ (c : Cl) (q : Qd) : Prop:=∃ (i j : Nat) (v : Vd) (n : Nd),c.vs[i]? = some v ∧ v.n = q.n ∧ c.ns[j]? = some n ∧ n.n = q.d ∧ CanN c v n
open Classical in
noncomputable def lakL (c : Cl) (zs : List Qd) : List Qd:=zs.filter fun q => decide (CanQ c q)
theorem lak_yes {c : Cl} {zs : List Qd} {k : Nat} {q : Qd} (h : zs[k]? = some q) (hq : CanQ c q) : lakL c (zs.take (k + 1)) = lakL c (zs.take k) ++ [q]:=by
 unfold lakL;rw [List.take_add_one,h,List.filter_append]
 simp [hq]
theorem lak_no {c : Cl} {zs : List Qd} {k : Nat} {q : Qd} (h : zs[k]? = some q) (hq : ¬ CanQ c q) : lakL c (zs.take (k + 1)) = lakL c (zs.take k):=by
 unfold lakL;rw [List.take_add_one,h,List.filter_append]
 simp [hq]
theorem lak_le (c : Cl) (zs : List Qd) : (lakL c zs).length ≤ zs.length:=List.length_filter_le _ _
theorem lak_first {c : Cl} {zs : List Qd} {k : Nat} {q : Qd} (h : zs[k]? = some q) (hq : CanQ c q) (h0 : lakL c (zs.take k) = []) : (lakL c zs)[0]? = some q:=by
 have h1:=lak_yes h hq;rw [h0,List.nil_append] at h1
 have h2 : lakL c zs = lakL c (zs.take (k + 1)) ++ lakL c (zs.drop (k + 1)):=by
  unfold lakL;rw [← List.filter_append,List.take_append_drop]
 rw [h2,h1]
 rfl
theorem lak_mem {c : Cl} {zs : List Qd} {q : Qd} (h : q ∈ lakL c zs) : q ∈ zs ∧ CanQ c q:=by
 unfold lakL at h
 simpa using h
theorem CanQ.iff {c : Cl} {q : Qd} {i j : Nat} {v : Vd} {n : Nd} (hT : RightI c) (h1 : c.vs[i]? = some v) (h2 : v.n = q.n) (h3 : c.ns[j]? = some n) (h4 : n.n = q.d) : CanQ c q ↔ CanN c v n:=by
 constructor
 ·rintro ⟨i',j',v',n',k1,k2,k3,k4,k5⟩;obtain ⟨-,rfl⟩:=hT.2.1.2.2.1.2.2.inj h1 k1 (h2.trans k2.symm);obtain ⟨-,rfl⟩:=hT.2.1.1.2.2.inj h3 k3 (h4.trans k4.symm);exact k5
 ·exact fun h => ⟨i,j,v,n,h1,h2,h3,h4,h⟩
theorem wn_has {c : Cl} {q : Qd} (hT : RightI c) (h : Wn c c.ps.length q) : ∃ (i j : Nat) (v : Vd) (n : Nd),c.vs[i]? = some v ∧ v.n = q.n ∧ c.ns[j]? = some n ∧ n.n = q.d:=by
 obtain ⟨j,p,_,hp,hd,i,t,v,hz,⟨i1,jv,x,h1,h2,h3,h4⟩,rfl⟩:=h;obtain ⟨i9,n9,k1,k2,_⟩:=(hT.2.2.2.1.1 j p hp).2.resolve_left hd;exact ⟨jv,i9,v,n9,h3,rfl,k1,k2⟩
theorem rising_by {zs : List ByteArray} (h : Rising zs) : RisBy (fun s : ByteArray => s) zs:=fun j x y hx hy => (h (j + 1) x hx).2 y (by omega) (by simpa using hy)
theorem rising_rt {zs : List ByteArray} (h : Rising zs) : RT zs:=List.pairwise_iff_getElem.2 fun _ _ hi hj hij => (rising_by h).lt hij (List.getElem?_eq_getElem hi) (List.getElem?_eq_getElem hj)
theorem RightI.on {c : Cl} {i : Nat} {v : Vd} (h : RightI c) (hv : c.vs[i]? = some v) : v.zs.length ≤ 6 ∧ Rising v.zs:=by
 have h1:=names_six (h.2.1.2.2.1.2.1 i v hv).2.2.2.2.2.2;exact ⟨by have:=h1.1;omega,h1.2⟩
def onV (v : Vd) (zs : List ByteArray) : Vd:=⟨v.n,v.c,v.z,v.k,v.x,v.m,v.y,zs⟩
def volC (c : Cl) (i : Nat) (y : Vd) : Cl:=⟨c.ns,c.ks,c.vs.set i y,c.xs,c.ps,c.now⟩
def putV (c : Cl) (x : Vd) : Cl:=⟨c.ns,c.ks,inAt (pl Vd.n (wo Vd.n x.n c.vs) x.n) x (wo Vd.n x.n c.vs),c.xs,c.ps,c.now⟩
theorem put_at {α : Type} {nm : α → ByteArray} {ps : List α} {t : ByteArray} {k : Nat} {x y : α} (hr : RisBy nm ps) (hx : ps[k]? = some x) (hn : nm x = t) : inAt (pl nm (wo nm t ps) t) y (wo nm t ps) = ps.set k y:=by
 have hk : k < ps.length:=(List.getElem?_eq_some_iff.1 hx).1;have hw:=wo_erase hr hx hn
 have hpl : pl nm (wo nm t ps) t = k:=by
  rw [hw]
  have hlt : ∀ (j : Nat) z,j < k → (ps.take k ++ ps.drop (k + 1))[j]? = some z → Op.bytesLess (nm z).toList t.toList = true:=fun j z hj hz => by
   have h1 : (ps.take k).length = k:=by rw [List.length_take];omega
   rw [List.getElem?_append_left (by omega),List.getElem?_take,if_pos hj] at hz;have:=hr.lt hj hz hx;rw [hn] at this;exact this
  by_cases he : k + 1 < ps.length
  ·have h1 : (ps.take k).length = k:=by rw [List.length_take];omega
   have h2 : (ps.take k ++ ps.drop (k + 1))[k]? = some ps[k + 1]:=by
    rw [List.getElem?_append_right (by omega),h1,Nat.sub_self,List.getElem?_drop];exact List.getElem?_eq_getElem he
   refine pl_at hlt h2 ?_;have h3:=hr.lt (Nat.lt_succ_self k) hx (List.getElem?_eq_getElem he);rw [hn] at h3
   cases h9 : Op.bytesLess (nm ps[k + 1]).toList t.toList
   ·rfl
   ·have h8:=less_trans _ _ _ h3 h9;rw [less_irr] at h8
    cases h8
  ·have h4 : ps.take k ++ ps.drop (k + 1) = ps.take k:=by rw [List.drop_eq_nil_of_le (by omega),List.append_nil]
   rw [h4];rw [h4] at hlt
   have h1 : (ps.take k).length = k:=by rw [List.length_take];omega
   rw [pl_end (fun j z hz => hlt j z (by have:=(List.getElem?_eq_some_iff.1 hz).1;omega) hz),h1]
 rw [hpl,hw];unfold inAt
 have h1 : (ps.take k).length = k:=by rw [List.length_take];omega
 rw [List.take_left' h1,List.drop_left' h1,List.set_eq_take_append_cons_drop,if_pos hk]
 simp
theorem volC_put {c : Cl} {i : Nat} {v : Vd} {zs : List ByteArray} (hr : RightI c) (hv : c.vs[i]? = some v) : putV c (onV v zs) = volC c i (onV v zs):=by
 unfold putV volC;rw [show (onV v zs).n = v.n from rfl,put_at (y:=onV v zs) hr.2.1.2.2.1.2.2 hv rfl]
def wOff : ByteArray:=⟨#[111,102,102,32]⟩
def wOn : ByteArray:=⟨#[111,110,32]⟩
def AttIs (c : Cl) (o : Co) : Prop :=
 (¬ RightI c ∧ o = co0 1) ∨
 (RightI c ∧ ∃ es q i v,(RQ es ∧ ∀ q,q ∈ es ↔ Xn c c.vs.length q) ∧ es[0]? = some q ∧ c.vs[i]? = some v ∧ v.n = q.n ∧ o = ⟨volC c i (onV v (wo (fun s : ByteArray => s) q.d v.zs)),wOff ++ v.n,0⟩) ∨
 (RightI c ∧ (∀ q,¬ Xn c c.vs.length q) ∧ ∃ zs,(RQ zs ∧ ∀ q,q ∈ zs ↔ Wn c c.ps.length q) ∧ ((∃ q i v ys,(lakL c zs)[0]? = some q ∧ c.vs[i]? = some v ∧ v.n = q.n ∧ Put q.d v.zs ys ∧ o = ⟨volC c i (onV v ys),wOn ++ v.n,0⟩) ∨ (lakL c zs = [] ∧ o = co0 6)))
theorem AttIs.same {c : Cl} {o o' : Co} (h : AttIs c o) (h' : AttIs c o') : o = o':=by
 rcases h with ⟨a,rfl⟩ | ⟨a,es,q,i,v,a1,a2,a3,a4,rfl⟩ | ⟨a,a0,zs,a1,ha⟩ <;> rcases h' with ⟨b,rfl⟩ | ⟨b,es',q',i',v',b1,b2,b3,b4,rfl⟩ | ⟨b,b0,zs',b1,hb⟩
 ·rfl
 ·exact absurd b a
 ·exact absurd b a
 ·exact absurd a b
 ·obtain rfl : es = es':=RQ.ext a1.1 b1.1 fun s => by rw [a1.2,b1.2]
  rw [a2] at b2;obtain rfl:=Option.some.inj b2;obtain ⟨rfl,rfl⟩:=a.2.1.2.2.1.2.2.inj a3 b3 (a4.trans b4.symm)
  rfl
 ·exact absurd ((a1.2 q).1 (List.mem_of_getElem? a2)) (b0 q)
 ·exact absurd a b
 ·exact absurd ((b1.2 q').1 (List.mem_of_getElem? b2)) (a0 q')
 ·obtain rfl : zs = zs':=RQ.ext a1.1 b1.1 fun s => by rw [a1.2,b1.2]
  rcases ha with ⟨q,i,v,ys,a2,a3,a4,a5,rfl⟩ | ⟨a2,rfl⟩ <;> rcases hb with ⟨q',i',v',ys',b2,b3,b4,b5,rfl⟩ | ⟨b2,rfl⟩
  ·rw [a2] at b2;obtain rfl:=Option.some.inj b2;obtain ⟨rfl,rfl⟩:=a.2.1.2.2.1.2.2.inj a3 b3 (a4.trans b4.symm);have hz:=rising_rt (a.on a3).2
   obtain rfl : ys = ys':=RT.ext (a5.ris hz) (b5.ris hz) fun s => by rw [a5.mem,b5.mem]
   rfl
  ·rw [b2] at a2;cases a2
  ·rw [a2] at b2;cases b2
  ·rfl
theorem volC_marks {c : Cl} {i : Nat} {v : Vd} {zs : List ByteArray} (hf : ClFit c) (hv : c.vs[i]? = some v) (hz : zs.length ≤ 1048576) : mkCn 1 (volC c i (onV v zs)).raw ≤ 1152921504606846976:=by
 refine ClFit.marks (c:=volC c i (onV v zs)) ⟨hf.l1,hf.f1,hf.l2,?_,fun j y hy => ?_,hf.l4,hf.l5,hf.f5⟩
 ·show (c.vs.set _ _).length ≤ _
  rw [List.length_set];exact hf.l3
 ·have hy' : (c.vs.set i (onV v zs))[j]? = some y:=hy;rw [get_set (List.getElem?_eq_some_iff.1 hv).1] at hy'
  split at hy'
  ·obtain rfl:=Option.some.inj hy';exact hz
  ·exact hf.f3 j y hy'
theorem AttIs.marks {c : Cl} {o : Co} (h : AttIs c o) (hf : ClFit c) : mkCn 1 o.c.raw ≤ 1152921504606846976:=by
 rcases h with ⟨_,rfl⟩ | ⟨a,es,q,i,v,_,_,a3,_,rfl⟩ | ⟨a,_,zs,_,⟨q,i,v,ys,_,a3,_,a5,rfl⟩ | ⟨_,rfl⟩⟩
 ·exact co0_marks _
 ·exact volC_marks hf a3 (Nat.le_trans (List.length_filter_le _ _) (by have:=(a.on a3).1;omega))
 ·exact volC_marks hf a3 (by have h1:=a5.len;have:=(a.on a3).1;omega)
 ·exact co0_marks _

def qV (q : Qd) : List Value:=[.string q.n,.string q.d]
theorem own_rq {w : World} {base : Nat} {v : Value} {qs : List Qd} (h : w.ownsRow base 63 2 v qs.length (qs.map qV).flatten) (hs : ∀ q ∈ qs,q.n.size ≤ 9223372036854775807 ∧ q.d.size ≤ 9223372036854775807) : ∃ a' c',v = .slice a' qs.length c' ∧ RRow w a' qs.length c' 2 (qs.map qdF):=by
 have hc:=fun (g : Nat) (cap : Nat) (e : v = .slice (some ⟨g,0,none⟩) qs.length cap) => h.cells (g:=g) (by rw [e];rfl)
 rcases h.2 with ⟨rfl,h0⟩ | ⟨g,cap,cur,rfl,hb,hg,hnc,hcm,hcs,htake⟩
 ·rw [h0];exact ⟨none,0,rfl,by simpa using h0,Nat.le_refl _,by omega,.inl (by simpa using List.eq_nil_of_length_eq_zero h0)⟩
 ·refine ⟨_,_,rfl,by simp,hnc,by unfold maxLen at hcm;omega,.inr ⟨g,0,rfl,lt_of_some hg,fun j r hr => ?_⟩⟩;rw [List.getElem?_map,Option.map_eq_some_iff] at hr;obtain ⟨q,hq,rfl⟩:=hr
  have hq2 : (qs.map qV)[j]? = some (qV q):=by rw [List.getElem?_map,hq];rfl
  have hall : ∀ (j : Nat) vs,(qs.map qV)[j]? = some vs → vs.length = 2:=fun j vs hv => by
   rw [List.getElem?_map,Option.map_eq_some_iff] at hv;obtain ⟨q,_,rfl⟩:=hv
   rfl
  have hz:=hs q (List.mem_of_getElem? hq);intro i f hf
  rcases i with _ | _ | i
  ·have h1:=hc g cap rfl _ _ (flat_at hall hq2 (i:=0) (u:=.string q.n) rfl);rw [Addr.add_lit] at h1
   cases hf
   exact ⟨_,h1,rfl,hz.1⟩
  ·have h1:=hc g cap rfl _ _ (flat_at hall hq2 (i:=1) (u:=.string q.d) rfl);rw [Addr.add_lit] at h1
   cases hf
   exact ⟨_,by simpa [Nat.add_assoc] using h1,rfl,hz.2⟩
  ·simp [qdF] at hf
def LakAns (c : Cl) (w : World) (e : Ending) (w' : World) : Prop:=∃ a' l' c' zs,e = .returned (.slice a' l' c') ∧ RRow w' a' l' c' 2 ((lakL c zs).map qdF) ∧ RQ zs ∧ (∀ q,q ∈ zs ↔ Wn c c.ps.length q) ∧ zs.length ≤ 24 ∧ Below w.heap.size w w'

theorem ilak_any (d : Ad) (c : Cl) (w : World) (hr : ClRow w d c.raw) (hT : RightI c) :
  Calls Tryz.prog 62 #[.agg #[.slice d.a1 d.l1 d.c1,.slice d.a2 d.l2 d.c2,.slice d.a3 d.l3 d.c3,.slice d.a4 d.l4 d.c4,.slice d.a5 d.l5 d.c5,.int .i64 c.now]] w (LakAns c w):=by
 obtain ⟨a1,l1,y1,a2,l2,y2,a3,l3,y3,a4,l4,y4,a5,l5,y5⟩:=d;dsimp only;have HR:=hidK hr
 have hl1 : c.ns.length = l1:=by simpa using (show (c.ns.map ndF).length = l1 from hr.n.1)
 have hm1 : l1 ≤ 9223372036854775807:=Nat.le_trans hr.n.2.1 hr.n.2.2.1
 have hl2 : c.ks.length = l2:=by simpa using (show (c.ks.map kdF).length = l2 from hr.k.1)
 have hm2 : l2 ≤ 9223372036854775807:=Nat.le_trans hr.k.2.1 hr.k.2.2.1
 have hl3 : c.vs.length = l3:=by simpa using (show (c.vs.map vdF).length = l3 from hr.v.1)
 have hm3 : l3 ≤ 9223372036854775807:=Nat.le_trans hr.v.2.1 hr.v.2.2.1
 have hl4 : c.xs.length = l4:=by simpa using (show (c.xs.map xdF).length = l4 from hr.x.1)
 have hm4 : l4 ≤ 9223372036854775807:=Nat.le_trans hr.x.2.1 hr.x.2.2.1
 have hl5 : c.ps.length = l5:=by simpa using (show (c.ps.map pdF).length = l5 from hr.p.1)
 have hm5 : l5 ≤ 9223372036854775807:=Nat.le_trans hr.p.2.1 hr.p.2.2.1;clear hr;have HT:=hidK hT;clear hT;have HB:=hidK (Below.refl w.heap.size w);obtain ⟨i0,hi,hz0,hz1,hz2⟩:=info_parts infoqd;have HI0:=hidK (And.intro hi (And.intro hz0 (And.intro hz1 hz2)));clear hi hz0 hz1 hz2
 go_enter Tryz.func62,Tryz.ntmps62
 go_wp2_with fail;refine (iwan_any ⟨a1,l1,y1,a2,l2,y2,a3,l3,y3,a4,l4,y4,a5,l5,y5⟩ c _ (HR.out.below (HB.out.trans ((below1 _ _).mono HB.out.size))) HT.out).mono ?_;rintro e w0 ⟨wa,wl,wc,zs,rfl,how,hrw,hmw,hlw,hb⟩;obtain ⟨HA0,hbx⟩:=slots1 hb;have Bk:=hidK HA0;replace HB:=upB HB hbx;clear hb hbx HA0;have HW:=hidK how.row
 have hzl : zs.length = wl:=by simpa using how.row.1
 have HRQ:=hidK hrw;have HMW:=hidK hmw
 have HZ : Hid (∀ q ∈ lakL c zs,q.n.size ≤ 9223372036854775807 ∧ q.d.size ≤ 9223372036854775807):=fun q hq => by
  obtain ⟨j,hj⟩:=List.getElem?_of_mem (lak_mem hq).1;obtain ⟨b,o,y,-,-,hy,hat⟩:=qd_at how.row (j:=j) (by have:=(List.getElem?_eq_some_iff.1 hj).1;omega);rw [hj] at hy;obtain rfl:=Option.some.inj hy;exact ⟨(qd_cells hat).1,(qd_cells hat).2.1⟩
 clear how hrw hmw;obtain ⟨k0,k1,k2,k3,k4,k5⟩:=cs6 Bk.out;have ltk_1:=lt_of_some Bk.out
 go_wp2
 clear k0 k1 k2 k3 k4 k5 ltk_1;have hs0 : w.heap.size < w0.heap.size:=lt_of_some Bk.out
 go_loopw [3,9] (fun vo vi wr => ∃ k : Nat,k ≤ wl ∧ vi = .int .i64 k ∧ Hid (wr.ownsRow w0.heap.size 63 2 vo (lakL c (zs.take k)).length ((lakL c (zs.take k)).map qV).flatten) ∧ Hid (Below w0.heap.size w0 wr)) (fun _ vi _ => wl - (intOf vi).toNat)
 case atStart => exact ⟨0,by omega,rfl,World.ownsRow_nil _ _ _ _,Below.refl _ _⟩
 case round =>
  obtain ⟨k,hk,rfl,HO,HL⟩:=hrel;replace Bk:=hidK ((HL.out.block w.heap.size hs0).trans Bk.out);replace HB:=hidK (HB.out.trans (HL.out.mono HB.out.size));have hLs:=HL.out.size;have hn8:=lak_le c (zs.take k)
  have hn9 : (lakL c (zs.take k)).length ≤ k:=by rw [List.length_take] at hn8;omega
  by_cases hlt : k < wl
  ·have hk1 : (k : Int) < wl:=by omega
   obtain ⟨b,o,y,rfl,hb,hy,hat⟩:=qd_at (HW.out.below HL.out) hlt;obtain ⟨z0,z1,hc0,hc1⟩:=qd_cells hat;have HY:=hidK hy;obtain ⟨i,j,v,n,g1,g2,g3,g4⟩:=wn_has HT.out ((HMW.out y).1 (List.mem_of_getElem? hy));have HG:=hidK (And.intro g1 (And.intro g2 (And.intro g3 g4)));have HCI:=hidK (CanQ.iff HT.out g1 g2 g3 g4);have HY2 : Hid (Bw wr wr):=Bw.refl _;clear hat hy z0 z1 g1 g2 g3 g4;obtain ⟨k0,k1,k2,k3,k4,k5⟩:=cs6 Bk.out;have ltk_1:=lt_of_some Bk.out;go_wp2_with fail;refine (imcan_any ⟨a1,l1,y1,a2,l2,y2,a3,l3,y3,a4,l4,y4,a5,l5,y5⟩ c y i j v n _ (HR.out.below (HB.out.trans ((below1 _ _).mono HB.out.size))) HT.out HG.out.1 HG.out.2.1 HG.out.2.2.1 HG.out.2.2.2).mono ?_;rintro e w2 ⟨r,rfl,hi,hb3⟩;clear k0 k1 k2 k3 k4 k5 ltk_1;obtain ⟨HA0,hbx⟩:=slots1 hb3;replace Bk:=upK Bk hbx;have By:=hidK HA0;replace HY2:=hidK (HY2.out.below hbx);replace HB:=upB HB hbx;clear hb3 hbx HA0;have HI:=hidK hi;clear hi hb hc0 hc1;have hb2s:=HY2.out.le
   cases r
   ·have HN : Hid (lakL c (zs.take (k + 1)) = lakL c (zs.take k)):=lak_no HY.out (fun h => by have h9:=HI.out.2 (HCI.out.1 h);cases h9);clear HI;obtain ⟨k0,k1,k2,k3,k4,k5⟩:=cs6 Bk.out;have ltk_2:=lt_of_some Bk.out;obtain ⟨y0,y1⟩:=cs2 By.out;have lty_2:=lt_of_some By.out
    go_wp2
    refine ⟨⟨k + 1,by omega,by go_num,?_,HL.out.trans (HY2.out.out.mono hLs)⟩,by simp [intOf];omega⟩;rw [HN.out];exact owns_below HO.out HY2.out.out
   have HN : Hid (lakL c (zs.take (k + 1)) = lakL c (zs.take k) ++ [y]):=lak_yes HY.out (HCI.out.2 (HI.out.1 (by first | trivial | rfl)));clear HI;have HO2:=hidK (owns_below HO.out HY2.out.out);obtain ⟨k0,k1,k2,k3,k4,k5⟩:=cs6 Bk.out;have ltk_2:=lt_of_some Bk.out;obtain ⟨y0,y1⟩:=cs2 By.out;have lty_2:=lt_of_some By.out
   go_wp2_with (first | (at_builtin;refine wpList_append_own _ rfl _ _ 30 rfl w0.heap.size 63 i0 (.agg #[.string ⟨#[]⟩,.string ⟨#[]⟩]) 2 32 Tryz.underlying30 HI0.out.1 HI0.out.2.1 HI0.out.2.2.1 HI0.out.2.2.2 rfl (by decide) _ _ _ rfl (HO2.out.alloc _) ⟨w2.heap.size,0,none⟩ 1 1 [.string y.n,.string y.d] rfl rfl ?c1 ?c2 ?c3 ?c4 ?c5 ?_))
   case c1 => exact news_alloc _ _ _
   case c2 => intro u hu;simp only [List.mem_cons,List.not_mem_nil,or_false] at hu;rcases hu with rfl | rfl <;> rfl
   case c3 => unfold maxLen;omega
   case c4 => omega
   case c5 => simp;omega
   rintro v' w3 hown3 hgrow -
   have HO3 : Hid (w3.ownsRow w0.heap.size 63 2 v' (lakL c (zs.take (k + 1))).length ((lakL c (zs.take (k + 1))).map qV).flatten):=by
    show World.ownsRow _ _ _ _ _ _ _
    rw [HN.out]
    simpa [qV] using hown3
   have hb23 : Below wr.heap.size wr (w2.alloc (.cells #[.string y.n,.string y.d] 63)):=HY2.out.out.trans ((below1 _ _).mono hb2s);have HB3:=hidK ((HL.out.trans (hb23.mono hLs)).grown hgrow (by simp;omega) (fun g hg => (HO2.out.lt g hg).1));clear hown3 hgrow hb23;clear k0 k1 k2 k3 k4 k5 ltk_2 y0 y1 lty_2
   go_wp2
   exact ⟨⟨k + 1,by omega,by go_num,HO3,HB3⟩,by simp [intOf];omega⟩
  obtain rfl : k = wl:=by omega
  have hk1 : ¬ (k : Int) < k:=by omega
  have hO:=HO.out;rw [List.take_of_length_le (by omega)] at hO;obtain ⟨a9,c9,rfl,h9⟩:=own_rq hO HZ.out;have HR9:=hidK h9;clear hO h9 HO;obtain ⟨k0,k1,k2,k3,k4,k5⟩:=cs6 Bk.out;have ltk_1:=lt_of_some Bk.out
  go_wp2
  go_ret;exact ⟨_,_,_,zs,rfl,HR9.out,HRQ.out,HMW.out,hlw,HB.out⟩

theorem insvd_any (a : Option Addr) (n cap i base vb : Nat) (X ys : List Value) (w : World) (ho : w.ownsRow base 81 8 (.slice a n cap) n X) (hn : n ≤ 8) (hin : i ≤ n) (hbs : base ≤ w.heap.size) (hy : w.heap[vb]? = some (.cells ys.toArray 81 (0,0))) (hyl : ys.length = 8) (hy1 : ∀ u ∈ ys,u.oneCell' = true) (hX1 : ∀ u ∈ X,u.oneCell' = true) (hne : ∀ g,a = some ⟨g,0,none⟩ → ¬ vb = g) :
  Calls Tryz.prog 167 #[.slice a n cap,.int .i64 i,.slice (some ⟨vb,0,none⟩) 1 1] w fun e w' => ∃ v',e = .returned v' ∧ w'.ownsRow base 81 8 v' (n + 1) (X.take (i * 8) ++ ys ++ X.drop (i * 8)) ∧ w.grownBy w' ((.slice a n cap : Value).ownBlock):=by
 obtain ⟨i0,hi,hz0,hz1,hz2⟩:=info_parts infovd;have HI0:=hidK (And.intro hi (And.intro hz0 (And.intro hz1 hz2)));clear hi hz0 hz1 hz2;have hXl : X.length = n * 8:=ho.1
 have hnc : n ≤ cap ∧ cap ≤ 9223372036854775807:=by
  rcases ho.2 with ⟨h1,h2⟩ | ⟨g,cp,cur,h1,_,_,h4,h5,_⟩
  ·cases h1;omega
  ·cases h1;unfold maxLen at h5;omega
 have hyn : ∀ (j : Nat) u,ys[j]? = some u → w.cell? ((⟨vb,0,none⟩ : Addr).add j) = some u:=fun j u hu => by
  rw [Addr.add_lit,cellK hy,Nat.zero_add]
  simpa using hu
 have HYN:=hidK hyn;have HO:=hidK ho;have HY:=hidK hy;have hvl : vb < w.heap.size:=lt_of_some hy;have HX1:=hidK hX1;have HY1:=hidK hy1;clear hyn ho hy hX1 hy1
 by_cases hie : i = n
 ·subst hie
  have e1 : X.take (i * 8) ++ ys ++ X.drop (i * 8) = X ++ ys:=by rw [List.take_of_length_le (by omega),List.drop_of_length_le (by omega),List.append_nil]
  rw [e1];clear e1;have hc0 : i ≤ cap:=hnc.1;have hq : cap = i ∨ ¬ cap = i:=Classical.em _
  rcases hq with rfl | hcap
  ·go_enter Tryz.func167,Tryz.ntmps167
   go_wp2_with (first | (at_builtin;refine wpList_append_two rfl _ _ 134 34 rfl base 81 81 i0 (.agg #[.string ⟨#[]⟩,.int .i64 0,.string ⟨#[]⟩,.string ⟨#[]⟩,.bool false,.string ⟨#[]⟩,.bool false,.slice none 0 0]) 8 112 Tryz.underlying134 Tryz.underlying34 HI0.out.1 HI0.out.2.1 HI0.out.2.2.1 HI0.out.2.2.2 rfl (by decide) _ _ _ rfl HO.out ⟨vb,0,none⟩ 1 1 ys rfl (by omega) HYN.out HY1.out (by unfold maxLen;omega) (by omega) hbs ?_))
   intro v' w' h1 h2;have H1:=hidK h1;have H2:=hidK h2;clear h1 h2
   go_wp2
   go_ret;exact ⟨v',rfl,H1.out,H2.out⟩
  ·go_enter Tryz.func167,Tryz.ntmps167
   go_wp2_with (first | (at_builtin;refine wpList_append_two rfl _ _ 134 34 rfl base 81 81 i0 (.agg #[.string ⟨#[]⟩,.int .i64 0,.string ⟨#[]⟩,.string ⟨#[]⟩,.bool false,.string ⟨#[]⟩,.bool false,.slice none 0 0]) 8 112 Tryz.underlying134 Tryz.underlying34 HI0.out.1 HI0.out.2.1 HI0.out.2.2.1 HI0.out.2.2.2 rfl (by decide) _ _ _ rfl HO.out ⟨vb,0,none⟩ 1 1 ys rfl (by omega) HYN.out HY1.out (by unfold maxLen;omega) (by omega) hbs ?_))
   intro v' w' h1 h2;have H1:=hidK h1;have H2:=hidK h2;clear h1 h2
   go_wp2
   go_ret;exact ⟨v',rfl,H1.out,H2.out⟩
 have hil : i < n:=by omega
 obtain ⟨g,cur,rfl,hbg,hg,hcs,htk⟩ : ∃ g cur,a = some ⟨g,0,none⟩ ∧ base ≤ g ∧ w.heap[g]? = some (.cells cur 81 (0,0)) ∧ cur.size = cap * 8 ∧ cur.toList.take (n * 8) = X:=by
  rcases HO.out.2 with ⟨h1,h2⟩ | ⟨g,cp,cur,h1,h2,h3,h4,h5,h6,h7⟩
  ·cases h1;omega
  ·cases h1;exact ⟨g,cur,rfl,h2,h3,h6,h7⟩
 have hvg : ¬ vb = g:=hne g rfl;clear hne
 have hcell : ∀ (j : Nat) u,X[j]? = some u → w.cell? ⟨g,j,none⟩ = some u:=fun j u hj => by
  rw [cellK hg];rw [← htk,List.getElem?_take] at hj
  split at hj
  ·simpa using hj
  ·cases hj
 have hdl : (X.drop (i * 8)).length = (n - i) * 8:=by rw [List.length_drop,hXl,Nat.sub_mul]
 have hgl : g < w.heap.size:=lt_of_some hg
 by_cases hroom : n + 1 ≤ cap
 ·have hcp1 : ∀ ty dc sc,(Builtin.copy_ #[134,134] ty #[.slice (some ⟨g,(i + 1) * 8,none⟩) (n - i) dc,.slice (some ⟨g,i * 8,none⟩) (n + 1 - i) sc]).run Tryz.prog w.drew = .ok (goInt (Nat.min (n + 1 - i) (n - i))) (w.drew.setRow g (cur.toList.take ((i + 1) * 8) ++ X.drop (i * 8) ++ cur.toList.drop ((i + 1) * 8 + (X.drop (i * 8)).length)).toArray):=fun ty dc sc =>
   run_copy_rec w.drew 134 134 ty 81 g ((i + 1) * 8) (n - i) dc ⟨g,i * 8,none⟩ (n + 1 - i) sc 8 cur 81 (X.drop (i * 8)) i0 Tryz.underlying134 HI0.out.1 HI0.out.2.2.1 hg (by rw [hdl];simp only [Nat.min_def];split <;> omega) (fun j u hj => by
    rw [List.getElem?_drop] at hj;rw [Addr.add_lit]
    exact hcell _ u hj) (by rw [hdl,hcs];omega) (fun u hu => HX1.out u (List.mem_of_mem_drop hu))
  obtain ⟨cur1,hcur1⟩ : ∃ c1 : List Value,c1 = cur.toList.take ((i + 1) * 8) ++ X.drop (i * 8) ++ cur.toList.drop ((i + 1) * 8 + (X.drop (i * 8)).length):=⟨_,rfl⟩;rw [← hcur1] at hcp1
  have hc1l : cur1.length = cap * 8:=by rw [hcur1];simp only [List.length_append,List.length_take,List.length_drop,hXl,Array.length_toList,hcs];omega
  obtain ⟨W1,hW1⟩ : ∃ W1,W1 = w.drew.setRow g cur1.toArray:=⟨_,rfl⟩;rw [← hW1] at hcp1
  have hg1 : W1.heap[g]? = some (.cells cur1.toArray 81 (0,0)):=by rw [hW1];exact setRow_heap w.drew g _ _ 81 _ hg
  have hv1 : W1.heap[vb]? = w.heap[vb]?:=by rw [hW1];exact setRow_other w.drew g vb _ hvg
  have hcp2 : ∀ ty dc,(Builtin.copy_ #[134,34] ty #[.slice (some ⟨g,i * 8,none⟩) (n + 1 - i) dc,.slice (some ⟨vb,0,none⟩) 1 1]).run Tryz.prog W1 = .ok (goInt (Nat.min 1 (n + 1 - i))) (W1.setRow g (cur1.take (i * 8) ++ ys ++ cur1.drop (i * 8 + ys.length)).toArray):=fun ty dc => by
   have:=run_copy_rec W1 134 34 ty 81 g (i * 8) (n + 1 - i) dc ⟨vb,0,none⟩ 1 1 8 cur1.toArray 81 ys i0 Tryz.underlying134 HI0.out.1 HI0.out.2.2.1 hg1 (by rw [hyl];simp only [Nat.min_def];split <;> omega) (fun j u hj => by
    rw [Addr.add_lit,cellK (hv1.trans HY.out),Nat.zero_add]
    simpa using hj) (by simp only [List.size_toArray];rw [hc1l,hyl];omega) HY1.out
   simpa using this
  have hov : ∀ lb cb,(callFunc 187 #[.slice (some ⟨vb,0,none⟩) 1 1,.slice (some ⟨g,(i + 1) * 8,none⟩) lb cb]).run Tryz.prog w = .ok (.value (.bool false)) w:=fun lb cb => by
   rw [run_callFunc_extern Tryz.func187 (by kernel_rfl) (by kernel_rfl) (by kernel_rfl) (e:=Extern.SlicesOverlaps.overlaps #[34,34] #[4]) (by kernel_rfl),
    Lib.run_overlaps_apart w 34 4 81 Tryz.underlying34 8 (fun w => by kernel_rfl) ⟨vb,0,none⟩ ⟨g,(i + 1) * 8,none⟩ 1 1 lb cb hvg 81 81 ys.toArray.size cur.size (by simp [World.shape?,HY.out]) (by simp [World.shape?,hg]) (Nat.ne_of_gt (by rw [hcs];omega)) (froK HY.out _) (froK HY.out _)]
   rfl
  have hb2 : ¬ cap = i + 1:=by omega
  have hb4 : ¬ cap = i:=by omega
  have hb5 : ¬ ((i : Int) = (n : Int)):=by omega
  have hb6 : ¬ ((cap : Int) < (n : Int) + 1):=by omega
  have mixed : Tryz.prog.follows .mixedOrders = true:=by kernel_rfl
  have hw1 : IntKind.i64.wrap ((i : Int) + 1) = (i : Int) + 1:=by rw [IntKind.wrap_i64];omega
  have hb1 : (0 : Int) ≤ (i : Int) + 1:=by omega
  have hin : i ≤ n:=by omega
  have htn : ((i : Int) + 1).toNat = i + 1:=by omega
  have hb3 : (i : Int) ≤ (n : Int) + 1:=by omega
  have u0:=run_underlying Tryz.underlying134;have HG:=hidK hg;have HG1:=hidK hg1;have HW1:=hidK hW1;have HC1:=hidK hcur1;have HTK:=hidK htk;clear hg hg1 hW1 hcur1 htk hv1 hcell hdl hie
  go_enter Tryz.func167,Tryz.ntmps167
  go_wp2_with (simp only [hov])
  go_region_law_o (refine step_copy_run rfl _ _ 134 134 rfl _ _ (by simp [Act.eval,Act.put]) (by simp [Act.eval,Act.put]) (hcp1 (3) (cap - (i + 1)) (cap - i)) ?_)
  go_wp2_with (at_builtin;refine wpList_copy_run _ rfl _ _ 134 34 rfl _ _ rfl rfl (hcp2 _ _) ?_)
  go_ret;refine ⟨_,rfl,⟨?_,Or.inr ⟨g,cap,(cur1.take (i * 8) ++ (ys ++ cur1.drop (i * 8 + 8))).toArray,rfl,hbg,setRow_heap W1 g _ _ _ _ HG1.out,hroom,by unfold maxLen;omega,?_,?_⟩⟩,?_⟩
  ·simp only [List.length_append,List.length_take,List.length_drop]
   omega
  ·simp only [List.size_toArray,List.length_append,List.length_take,List.length_drop,hc1l]
   omega
  ·have e:=ins_list (a:=i * 8) (b:=n * 8) (c:=cap * 8) (m:=8) (c1:=cur1) HTK.out (by rw [Array.length_toList,hcs]) (by omega) (by omega) hyl (by rw [HC1.out,show (i + 1) * 8 = i * 8 + 8 by omega]);rw [show (n + 1) * 8 = n * 8 + 8 by omega]
   simpa using e
  ·have h1 : w.grownBy w.drew (some g):=⟨rfl,rfl,rfl,Nat.le_refl _,fun _ _ _ => rfl⟩
   have h2 : w.drew.grownBy W1 (some g):=by rw [HW1.out];exact grown_setRow w.drew g _
   exact (h1.trans h2).trans (grown_setRow W1 g _)
 have hcn : cap = n:=by omega
 subst hcn;obtain ⟨N,hN⟩ : ∃ N,N = w.heap.size:=⟨_,rfl⟩;obtain ⟨G,hG⟩ : ∃ G,G = grownCap w (cap + 1) cap 81:=⟨_,rfl⟩;obtain ⟨ROW,hROW⟩ : ∃ R : Array Value,R = (X.take (i * 8)).toArray ++ Builtin.zeroCells (.agg #[.string ⟨#[]⟩,.int .i64 0,.string ⟨#[]⟩,.string ⟨#[]⟩,.bool false,.string ⟨#[]⟩,.bool false,.slice none 0 0] : Value).cells (cap + 1 - i) ++ Builtin.zeroCells (.agg #[.string ⟨#[]⟩,.int .i64 0,.string ⟨#[]⟩,.string ⟨#[]⟩,.bool false,.string ⟨#[]⟩,.bool false,.slice none 0 0] : Value).cells (G - (cap + 1)):=⟨_,rfl⟩;obtain ⟨W1,hW1⟩ : ∃ W1,W1 = w.drew.alloc (.cells ROW 81):=⟨_,rfl⟩
 have hGn : cap + 1 ≤ G:=by rw [hG];exact grownCap_ge w _ _ _
 have hG63 : G ≤ 9223372036854775807:=by
  have:=grownCap_le_maxLen w (cap + 1) cap 81 (by unfold maxLen;omega);rw [← hG] at this;unfold maxLen at this
  omega
 have hRs : ROW.size = G * 8:=by
  rw [hROW];simp only [Array.size_append,List.size_toArray,List.length_take,size_zeroCells,hXl];rw [show (.agg #[.string ⟨#[]⟩,.int .i64 0,.string ⟨#[]⟩,.string ⟨#[]⟩,.bool false,.string ⟨#[]⟩,.bool false,.slice none 0 0] : Value).cells.size = 8 from rfl]
  omega
 have hRt : ROW.toList.take (i * 8) = X.take (i * 8):=by
  rw [hROW,Array.toList_append,Array.toList_append,List.append_assoc];exact List.take_left' (by rw [List.length_take];omega)
 have hrz : ∀ ty,(Builtin.append_ #[134,3] ty #[.slice (some ⟨g,0,none⟩) i cap,.int .i64 ((cap : Int) + 1 - (i : Int))]).run Tryz.prog w = .ok (.slice (some ⟨N,0,none⟩) (cap + 1) G) W1:=fun ty => by
  have hold : (Builtin.firstCells i0.size i (.slice (some ⟨g,0,none⟩) i cap)).run Tryz.prog w.drew = .ok (X.take (i * 8)).toArray w.drew:=by
   rw [HI0.out.2.2.1]
   exact run_firstCells_some w.drew 8 i ⟨g,0,none⟩ i cap (X.take (i * 8)) (by rw [List.length_take];omega) (fun j v hj => by
    rw [Addr.add_lit,Nat.zero_add];rw [List.getElem?_take] at hj
    split at hj
    ·exact hcell j v hj
    ·cases hj)
  have h:=Lib.run_append_grow_zeros w 134 3 ty 81 i0 _ .i64 .i64 Tryz.underlying134 Tryz.underlying3 HI0.out.1 HI0.out.2.1 (some ⟨g,0,none⟩) i cap (X.take (i * 8)) hold (cap + 1 - i) (by omega) (by rw [HI0.out.2.2.1];decide) (by omega) (by omega) (by rw [HI0.out.2.2.2];omega) (by rw [HI0.out.2.2.2];exact growslice_fits (by omega) (by omega));rw [show i + (cap + 1 - i) = cap + 1 by omega,← hG,← hROW,← hW1,← hN] at h;rw [show (cap : Int) + 1 - (i : Int) = ((cap + 1 - i : Nat) : Int) by omega];exact h
 have hgN : W1.heap[N]? = some (.cells ROW 81 (0,0)):=by rw [hW1,hN];exact Go.heap_alloc_new w.drew _
 have hg1 : W1.heap[g]? = w.heap[g]?:=by rw [hW1];exact Go.heap_alloc_old w.drew _ hgl
 have hv1 : W1.heap[vb]? = w.heap[vb]?:=by rw [hW1];exact Go.heap_alloc_old w.drew _ hvl
 obtain ⟨R2,hR2⟩ : ∃ R2 : List Value,R2 = ROW.toList.take (i * 8) ++ ys ++ ROW.toList.drop (i * 8 + ys.length):=⟨_,rfl⟩;obtain ⟨W2,hW2⟩ : ∃ W2,W2 = W1.setRow N R2.toArray:=⟨_,rfl⟩
 have hcpA : ∀ ty dc,(Builtin.copy_ #[134,34] ty #[.slice (some ⟨N,i * 8,none⟩) (cap + 1 - i) dc,.slice (some ⟨vb,0,none⟩) 1 1]).run Tryz.prog W1 = .ok (goInt (Nat.min 1 (cap + 1 - i))) W2:=fun ty dc => by
  rw [hW2,hR2]
  exact run_copy_rec W1 134 34 ty 81 N (i * 8) (cap + 1 - i) dc ⟨vb,0,none⟩ 1 1 8 ROW 81 ys i0 Tryz.underlying134 HI0.out.1 HI0.out.2.2.1 hgN (by rw [hyl];simp only [Nat.min_def];split <;> omega) (fun j u hj => by
   rw [Addr.add_lit,cellK (hv1.trans HY.out),Nat.zero_add]
   simpa using hj) (by rw [hRs,hyl];omega) HY1.out
 have hR2l : R2.length = G * 8:=by
  rw [hR2];simp only [List.length_append,List.length_take,List.length_drop,Array.length_toList,hRs,hyl]
  omega
 have hgN2 : W2.heap[N]? = some (.cells R2.toArray 81 (0,0)):=by rw [hW2];exact setRow_heap W1 N _ _ 81 _ hgN
 have hgn : ¬ g = N:=by omega
 have hg2 : W2.heap[g]? = w.heap[g]?:=by rw [hW2,setRow_other W1 N g _ hgn];exact hg1
 obtain ⟨R3,hR3⟩ : ∃ R3 : List Value,R3 = R2.take ((i + 1) * 8) ++ X.drop (i * 8) ++ R2.drop ((i + 1) * 8 + (X.drop (i * 8)).length):=⟨_,rfl⟩;obtain ⟨W3,hW3⟩ : ∃ W3,W3 = W2.drew.setRow N R3.toArray:=⟨_,rfl⟩
 have hcpB : ∀ ty dc sc,(Builtin.copy_ #[134,134] ty #[.slice (some ⟨N,(i + 1) * 8,none⟩) (cap - i) dc,.slice (some ⟨g,i * 8,none⟩) (cap - i) sc]).run Tryz.prog W2.drew = .ok (goInt (Nat.min (cap - i) (cap - i))) W3:=fun ty dc sc => by
  have:=run_copy_rec W2.drew 134 134 ty 81 N ((i + 1) * 8) (cap - i) dc ⟨g,i * 8,none⟩ (cap - i) sc 8 R2.toArray 81 (X.drop (i * 8)) i0 Tryz.underlying134 HI0.out.1 HI0.out.2.2.1 hgN2 (by rw [hdl];simp only [Nat.min_def];split <;> omega) (fun j u hj => by
   rw [List.getElem?_drop] at hj;have hc:=hcell _ u hj;rw [Addr.add_lit];rw [← hc]
   exact World.cell?_of_block (w:=w) (w':=W2.drew) hg2) (by rw [hdl,List.size_toArray,hR2l];omega) (fun u hu => HX1.out u (List.mem_of_mem_drop hu))
  rw [hW3,hR3]
  simpa only [List.toList_toArray] using this
 have hW3o : ∀ k,¬ k = N → W3.heap[k]? = W1.heap[k]?:=fun k hk => by rw [hW3,setRow_other W2.drew N k _ hk];exact (congrArg (fun z : World => z.heap[k]?) hW2).trans (setRow_other W1 N k _ hk)
 have hfin : w.grownBy W3 (some g):=by
  have h0 : w.grownBy w.drew (some g):=⟨rfl,rfl,rfl,Nat.le_refl _,fun _ _ _ => rfl⟩
  have h1 : w.grownBy W1 (some g):=by rw [hW1];exact h0.trans (World.grownBy_alloc w.drew _ _)
  refine ⟨?_,?_,?_,?_,fun k hk hkg => (hW3o k (by omega)).trans (h1.block k hk hkg)⟩
  ·rw [hW3,hW2];exact h1.os
  ·rw [hW3,hW2];exact h1.tape
  ·rw [hW3,hW2];exact h1.output
  ·rw [hW3,hW2];exact Nat.le_trans h1.size (by simp [World.setRow])
 have hrow : W3.ownsRow base 81 8 (.slice (some ⟨N,0,none⟩) (cap + 1) G) (cap + 1) (X.take (i * 8) ++ ys ++ X.drop (i * 8)):=by
  refine ⟨?_,Or.inr ⟨N,G,R3.toArray,rfl,by omega,by rw [hW3];exact setRow_heap W2.drew N _ _ 81 _ hgN2,hGn,by unfold maxLen;omega,?_,?_⟩⟩
  ·simp only [List.length_append,List.length_take,List.length_drop]
   omega
  ·rw [hR3];simp only [List.size_toArray,List.length_append,List.length_take,List.length_drop,hR2l]
   omega
  ·have e:=grow_list (a:=i * 8) (b:=cap * 8) (m:=8) (R2:=R2) hRt hXl (by omega) hyl hR2 (R2.drop ((i + 1) * 8 + (X.drop (i * 8)).length));rw [hR3,show (cap + 1) * 8 = cap * 8 + 8 by omega,show (i + 1) * 8 = i * 8 + 8 by omega];rw [show (i + 1) * 8 = i * 8 + 8 by omega] at e
   simpa using e
 have hGi : ¬ G = i:=by omega
 have hGim : ¬ G = i + 1:=by omega
 have hci : ¬ cap = i:=by omega
 have hz2 : ¬ ((i : Int) = (cap : Int)):=by omega
 have hz3 : (cap : Int) < (cap : Int) + 1:=by omega
 have mixed : Tryz.prog.follows .mixedOrders = true:=by kernel_rfl
 have hw1 : IntKind.i64.wrap ((i : Int) + 1) = (i : Int) + 1:=by rw [IntKind.wrap_i64];omega
 have hb1 : (0 : Int) ≤ (i : Int) + 1:=by omega
 have hin : i ≤ cap:=by omega
 have htn : ((i : Int) + 1).toNat = i + 1:=by omega
 have hb3 : (i : Int) ≤ (cap : Int):=by omega
 have u0:=run_underlying Tryz.underlying134;have HF:=hidK (And.intro hrow hfin);clear hN hrow hfin hW3o hW3 hW2 hR3 hg2 hgN2 hR2l hR2 hv1 hg1 hgN hRt hRs hW1 hROW hG hcell hdl hie hg htk hcs HO
 go_enter Tryz.func167,Tryz.ntmps167
 go_wp2_with (first
  | (at_builtin;refine Lib.wpList_append_run _ rfl _ _ _ _ rfl _ _ rfl rfl _ _ (hrz _) ?_)
  | (at_builtin;refine wpList_copy_run _ rfl _ _ 134 34 rfl _ _ rfl rfl (hcpA _ _) ?_))

 go_region_law_o (refine step_copy_run rfl _ _ 134 134 rfl _ _ (by simp [Act.eval,Act.put]) (by simp [Act.eval,Act.put]) (hcpB 3 (G - (i + 1)) (cap - i)) ?_)
 go_wp2
 go_ret;exact ⟨_,rfl,HF.out.1,HF.out.2⟩

theorem clonevd_any (a : Option Addr) (n cap : Nat) (X : List Value) (w : World) (hn : n ≤ 8) (hXl : X.length = n * 8) (hX1 : ∀ u ∈ X,u.oneCell' = true) (hXc : ∀ (j : Nat) u,X[j]? = some u → ∃ g,a = some ⟨g,0,none⟩ ∧ w.cell? ⟨g,j,none⟩ = some u) :
  Calls Tryz.prog 168 #[.slice a n cap] w fun e w' => ∃ a' c',e = .returned (.slice a' n c') ∧ w'.ownsRow w.heap.size 81 8 (.slice a' n c') n X ∧ Below w.heap.size w w':=by
 obtain ⟨i0,hi,hz0,hz1,hz2⟩:=info_parts infovd;have HI0:=hidK (And.intro hi (And.intro hz0 (And.intro hz1 hz2)));clear hi hz0 hz1 hz2;have HX1:=hidK hX1;have HXC:=hidK hXc;have heq : ∀ w : World,(binOp .eql 134 (.slice a n cap) (.slice none 0 0)).run Tryz.prog w = .ok (.bool a.isNone) w:=fun w => Lib.run_eql_slice_nil w 134 81 a n cap 0 0 Tryz.underlying134;clear hX1 hXc
 cases a with
 | none =>
  obtain rfl : X = []:=by
   rcases X with _ | ⟨u,X⟩
   ·rfl
   ·obtain ⟨g,e,_⟩:=HXC.out 0 u rfl
    cases e
  obtain rfl : n = 0:=by simp at hXl;omega
  go_enter Tryz.func168,Tryz.ntmps168
  go_wp2
  go_ret;exact ⟨none,0,rfl,World.ownsRow_nil _ _ _ _,Below.refl _ _⟩
 | some ad =>
  obtain ⟨ab,ao,asp⟩:=ad
  have hnew : ∀ (j : Nat) u,X[j]? = some u → (w.alloc (.cells #[] 81)).cell? ((⟨ab,ao,asp⟩ : Addr).add j) = some u:=fun j u hu => by
   obtain ⟨g,e,hc⟩:=HXC.out j u hu
   cases e
   rw [Addr.add_lit,Nat.zero_add];have hlt:=cell_lt hc;rw [← hc];exact World.cell?_of_block (heap_alloc_old w _ hlt)
  have HN:=hidK hnew;have HO : Hid ((w.alloc (.cells #[] 81)).ownsRow w.heap.size 81 8 (.slice (some ⟨w.heap.size,0,none⟩) 0 0) 0 []):=World.ownsRow_made w #[] 0 (Nat.le_refl _) (Nat.zero_le _) (by simp);clear hnew HXC
  go_enter Tryz.func168,Tryz.ntmps168
  go_wp2_with (at_builtin;refine wpList_append_two rfl _ _ 134 134 rfl w.heap.size 81 81 i0 (.agg #[.string ⟨#[]⟩,.int .i64 0,.string ⟨#[]⟩,.string ⟨#[]⟩,.bool false,.string ⟨#[]⟩,.bool false,.slice none 0 0]) 8 112 Tryz.underlying134 Tryz.underlying134 HI0.out.1 HI0.out.2.1 HI0.out.2.2.1 HI0.out.2.2.2 rfl (by decide) _ _ _ rfl HO.out ⟨ab,ao,asp⟩ n cap X rfl hXl HN.out HX1.out (by unfold maxLen;omega) (by omega) (by simp) ?_)
  intro v' w' h1 h2
  obtain ⟨a',c',rfl⟩ : ∃ a' c',v' = .slice a' n c':=by
   rcases h1.2 with ⟨rfl,h0⟩ | ⟨g,cp,cu,rfl,_⟩
   ·exact ⟨none,0,by rw [h0]⟩
   ·exact ⟨_,_,rfl⟩
  have H1:=hidK h1;have H2:=hidK h2;clear h1 h2
  go_wp2
  go_ret;refine ⟨a',c',rfl,H1.out,((below1 w (.cells #[] 81)).grown H2.out (by simp) (fun g hg => ?_))⟩
  simp [Value.ownBlock] at hg
  omega

theorem withvd_any (a : Option Addr) (n cap : Nat) (xs : List Vd) (x : Vd) (va : Option Addr) (vl vc hh : Nat) (Q Q2 : Nat → Prop) (w : World) (ho : ROwn w a n cap 8 81 (xs.map vdF) Q) (hn : n ≤ 8) (hxf : ∀ (i : Nat) f,(vdF x)[i]? = some f → ∃ v,[.string x.n,.int .i64 x.c,.string x.z,.string x.k,.bool x.x,.string x.m,.bool x.y,.slice va vl vc][i]? = some v ∧ f.Fr w hh Q2 v) (hq : ∀ k,Q k → Q2 k → False) :
  Calls Tryz.prog 110 #[.slice a n cap,.agg #[.string x.n,.int .i64 x.c,.string x.z,.string x.k,.bool x.x,.string x.m,.bool x.y,.slice va vl vc]] w fun e w' => ∃ a' l' c',e = .returned (.slice a' l' c') ∧ ROwn w' a' l' c' 8 81 ((inAt (pl Vd.n xs x.n) x xs).map vdF) (fun k => (Q k ∨ Q2 k) ∨ w.heap.size ≤ k) ∧ Below w.heap.size w w':=by
 have HR:=hidK ho.row
 have hxl : xs.length = n:=by simpa using ho.1
 obtain ⟨vss,H,hV,hcell⟩:=ho.recs
 have hvl : vss.length = n:=by rw [hV.len,List.length_map,hxl]
 have hfl : vss.flatten.length = n * 8:=by rw [flat_len hV.all,hvl]
 have HV:=hidK hV;have HC:=hidK hcell;have HF:=hidK hxf;have HQ:=hidK hq;clear ho hV hcell hxf hq
 have hmcalled : ∀ (v : Value) (w : World),(method 364 81 v "loop.example/g00571/impl.called").run Tryz.prog w = .ok (214,v) w:=fun _ _ => by kernel_rfl
 obtain ⟨j,hj⟩ : ∃ j,j = pl Vd.n xs x.n:=⟨_,rfl⟩
 have hjn : j ≤ n:=by rw [hj,← hxl];exact List.findIdx_le_length
 have HJ:=hidK hj
 have HFIN : Hid (∀ (w4 : World) v4 base,w.heap.size ≤ base → Below w.heap.size w w4 → w4.ownsRow base 81 8 v4 (n + 1) (vss.flatten.take (j * 8) ++ [.string x.n,.int .i64 x.c,.string x.z,.string x.k,.bool x.x,.string x.m,.bool x.y,.slice va vl vc] ++ vss.flatten.drop (j * 8)) → ∃ a' c',v4 = .slice a' (n + 1) c' ∧ ROwn w4 a' (n + 1) c' 8 81 ((inAt (pl Vd.n xs x.n) x xs).map vdF) (fun k => (Q k ∨ Q2 k) ∨ w.heap.size ≤ k)):=fun w4 v4 base hbs hB4 ho4 => by
  rw [← inAt_flat HV.out.all (by omega)] at ho4;have hV4:=(HV.out.below hB4).keep (w':=w4) (S':=fun k => (Q k ∨ Q2 k) ∨ w.heap.size ≤ k) (fun _ _ _ _ => rfl) (fun _ _ s => .inl (.inl s))
  obtain ⟨H4,hV5⟩:=hV4.ins (p:=j) (r:=vdF x) (vs:=[.string x.n,.int .i64 x.c,.string x.z,.string x.k,.bool x.x,.string x.m,.bool x.y,.slice va vl vc]) (hh:=fun _ => hh) rfl rfl (fun i f hf => by
   obtain ⟨v,h1,h2⟩:=HF.out i f hf
   exact ⟨v,h1,h2.keep (fun cu _ q => hB4.block _ (lt_of_some q)) (fun _ s => .inl (.inr s))⟩) (fun i zs h hz k r i2 zs2 hr2 hz2 hne e => by
  obtain ⟨v,_,h2⟩:=HF.out i _ h;obtain ⟨_,_,_,_,_,_,_,_,h3⟩:=h2
  have hkv : k < vss.length:=by rw [HV.out.len];exact (List.getElem?_eq_some_iff.1 hr2).1
  obtain ⟨v',_,h5⟩:=HV.out.cell k r _ hr2 (List.getElem?_eq_getElem hkv) i2 _ hz2;obtain ⟨_,_,_,_,_,_,_,_,h6⟩:=h5
  rcases h3 with h3 | ⟨_,h3,_⟩
  ·exact hz h3
  ·rcases h6 with h6 | ⟨_,h6,_⟩
   ·exact hne h6
   ·rw [e] at h6
    exact HQ.out _ h6 h3) (fun i i2 zs zs2 h _ h2 _ => by
  rcases i with _ | _ | _ | _ | _ | _ | _ | _ | i <;> simp [vdF] at h <;> rcases i2 with _ | _ | _ | _ | _ | _ | _ | _ | i2 <;> simp [vdF] at h2 <;> rfl) (by rw [List.length_map];omega)
  have h45 : VRecs w4 (fun k => (Q k ∨ Q2 k) ∨ w.heap.size ≤ k) 8 ((inAt j x xs).map vdF) (inAt j [.string x.n,.int .i64 x.c,.string x.z,.string x.k,.bool x.x,.string x.m,.bool x.y,.slice va vl vc] vss) H4:=by rw [inAt_map];exact hV5
  have hle : ((inAt j x xs).map vdF).length = n + 1:=by rw [List.length_map,inAt_len (by omega),hxl]
  obtain ⟨a',c',e,hR⟩:=h45.own ho4 hle.symm (by decide) (fun g hg => .inr (by have:=(ho4.lt g hg).1;omega));rw [hle] at e hR;rw [hj] at hR;exact ⟨a',c',e,hR⟩
 have HCL : Hid (∀ W,Below w.heap.size w W → ∀ (k : Nat) u,vss.flatten[k]? = some u → ∃ g,a = some ⟨g,0,none⟩ ∧ W.cell? ⟨g,k,none⟩ = some u):=fun W hW k u hu => by
  obtain ⟨g,h1,_,h3⟩:=HC.out k u hu;exact ⟨g,h1,(cell_below hW (cell_lt h3)).trans h3⟩
 have HV1:=hidK HV.out.one;clear HV HC HF HQ hj
 go_enter Tryz.func110,Tryz.ntmps110
 go_wp2_with fail;refine (calledvd_any x va vl vc _).mono ?_;rintro e w1 ⟨rfl,hb1⟩;obtain ⟨hn1,hbx⟩:=slots1 hb1;have HN1:=hidK hn1;have HB1:=hidK hbx;clear hb1 hn1 hbx;go_wp2_with fail;refine (placevd_any a n cap xs x.n _ (HR.out.below HB1.out)).mono ?_;rintro e w2 ⟨rfl,hb2⟩;have HN2:=hidK ((hb2.block w.heap.size (lt_of_some HN1.out)).trans HN1.out);have HB2:=upB HB1 hb2;clear hb2 HN1 HB1;rw [← HJ.out]
 generalize hit Vd.n xs x.n = bb
 have hs2 : w.heap.size < w2.heap.size:=lt_of_some HN2.out;have HBD : Hid (Below w.heap.size w w2.drew):=Below.drewn HB2.out;obtain ⟨n0,n1,n2,n3,n4,n5,n6,n7⟩:=cs8 (show w2.drew.heap[w.heap.size]? = _ from HN2.out)
 have hcl1 : Calls Tryz.prog 168 #[.slice a n cap] w2.drew fun e w3 => ∃ a3 c3,e = .returned (.slice a3 n c3) ∧ Hid (w3.ownsRow w2.heap.size 81 8 (.slice a3 n c3) n vss.flatten) ∧ Hid (Below w.heap.size w w3) ∧ w2.heap.size ≤ w3.heap.size ∧ w.heap.size < w3.heap.size ∧ w3.heap[w.heap.size]? = some (.cells #[.string x.n,.int .i64 x.c,.string x.z,.string x.k,.bool x.x,.string x.m,.bool x.y,.slice va vl vc] 81 (0,0)):=by
  refine (clonevd_any a n cap vss.flatten w2.drew hn hfl HV1.out (HCL.out _ HBD.out)).mono ?_;rintro e w3 ⟨a3,c3,rfl,ho3,hb3⟩;have hs3 : w2.heap.size ≤ w3.heap.size:=hb3.size;exact ⟨a3,c3,rfl,ho3,HBD.out.trans (hb3.mono HBD.out.size),hs3,by omega,(hb3.block w.heap.size hs2).trans (show w2.drew.heap[w.heap.size]? = _ from HN2.out)⟩
 have hcl2 : Calls Tryz.prog 168 #[.slice a n cap] (w2.alloc (.cells #[.string x.n,.int .i64 x.c,.string x.z,.string x.k,.bool x.x,.string x.m,.bool x.y,.slice va vl vc] 81)).drew fun e w3 => ∃ a3 c3,e = .returned (.slice a3 n c3) ∧ Hid (w3.ownsRow (w2.heap.size + 1) 81 8 (.slice a3 n c3) n vss.flatten) ∧ Hid (Below w.heap.size w w3) ∧ w2.heap.size + 1 ≤ w3.heap.size ∧ Hid (w3.heap[w2.heap.size]? = some (.cells #[.string x.n,.int .i64 x.c,.string x.z,.string x.k,.bool x.x,.string x.m,.bool x.y,.slice va vl vc] 81 (0,0))):=by
  have hbl:=Below.drewn (HB2.out.alloc HB2.out.size (.cells #[.string x.n,.int .i64 x.c,.string x.z,.string x.k,.bool x.x,.string x.m,.bool x.y,.slice va vl vc] 81))
  have hsz : (w2.alloc (.cells #[.string x.n,.int .i64 x.c,.string x.z,.string x.k,.bool x.x,.string x.m,.bool x.y,.slice va vl vc] 81)).drew.heap.size = w2.heap.size + 1:=by simp
  refine (clonevd_any a n cap vss.flatten _ hn hfl HV1.out (HCL.out _ hbl)).mono ?_;rintro e w3 ⟨a3,c3,rfl,ho3,hb3⟩;have hs3:=hb3.size;rw [hsz] at ho3 hs3;exact ⟨a3,c3,rfl,ho3,hbl.trans (hb3.mono hbl.size),hs3,(hb3.block w2.heap.size (by rw [hsz];omega)).trans (show (w2.alloc (.cells #[.string x.n,.int .i64 x.c,.string x.z,.string x.k,.bool x.x,.string x.m,.bool x.y,.slice va vl vc] 81)).drew.heap[w2.heap.size]? = _ from heap_alloc_new w2 _)⟩
 have hin1 : ∀ (w3 : World) a3 c3,w3.ownsRow w2.heap.size 81 8 (.slice a3 n c3) n vss.flatten → Below w.heap.size w w3 → w2.heap.size ≤ w3.heap.size → Calls Tryz.prog 167 #[.slice a3 n c3,.int .i64 j,.slice (some ⟨w3.heap.size,0,none⟩) 1 1] (w3.alloc (.cells #[.string x.n,.int .i64 x.c,.string x.z,.string x.k,.bool x.x,.string x.m,.bool x.y,.slice va vl vc] 81)) fun e w4 => ∃ a' c',e = .returned (.slice a' (n + 1) c') ∧ Hid (ROwn w4 a' (n + 1) c' 8 81 ((inAt (pl Vd.n xs x.n) x xs).map vdF) (fun k => (Q k ∨ Q2 k) ∨ w.heap.size ≤ k)) ∧ Hid (Below w.heap.size w w4):=fun w3 a3 c3 ho3 hB3 hs3 => by
  refine (insvd_any a3 n c3 j w2.heap.size w3.heap.size vss.flatten [.string x.n,.int .i64 x.c,.string x.z,.string x.k,.bool x.x,.string x.m,.bool x.y,.slice va vl vc] (w3.alloc (.cells #[.string x.n,.int .i64 x.c,.string x.z,.string x.k,.bool x.x,.string x.m,.bool x.y,.slice va vl vc] 81)) (ho3.alloc _) hn hjn (by simp;omega) (heap_alloc_new w3 _) rfl (by simp [Value.oneCell']) HV1.out (fun g hg e => by
   have h9:=(ho3.lt g (by rw [hg];rfl)).2
   omega)).mono ?_
  rintro e w4 ⟨v4,rfl,ho4,hg4⟩
  have hB5:=(hB3.alloc hB3.size (.cells #[.string x.n,.int .i64 x.c,.string x.z,.string x.k,.bool x.x,.string x.m,.bool x.y,.slice va vl vc] 81)).grown hg4 (by simp;omega) (fun g hg => by
   have h9:=(ho3.lt g hg).1
   omega)
  obtain ⟨a',c',rfl,hR⟩:=HFIN.out w4 v4 _ (by omega) hB5 ho4;exact ⟨a',c',rfl,hR,hB5⟩
 have hin2 : ∀ (w3 : World) a3 c3,w3.ownsRow (w2.heap.size + 1) 81 8 (.slice a3 n c3) n vss.flatten → Below w.heap.size w w3 → w2.heap.size + 1 ≤ w3.heap.size → w3.heap[w2.heap.size]? = some (.cells #[.string x.n,.int .i64 x.c,.string x.z,.string x.k,.bool x.x,.string x.m,.bool x.y,.slice va vl vc] 81 (0,0)) → Calls Tryz.prog 167 #[.slice a3 n c3,.int .i64 j,.slice (some ⟨w2.heap.size,0,none⟩) 1 1] w3 fun e w4 => ∃ a' c',e = .returned (.slice a' (n + 1) c') ∧ Hid (ROwn w4 a' (n + 1) c' 8 81 ((inAt (pl Vd.n xs x.n) x xs).map vdF) (fun k => (Q k ∨ Q2 k) ∨ w.heap.size ≤ k)) ∧ Hid (Below w.heap.size w w4):=fun w3 a3 c3 ho3 hB3 hs3 hy3 => by
  refine (insvd_any a3 n c3 j (w2.heap.size + 1) w2.heap.size vss.flatten [.string x.n,.int .i64 x.c,.string x.z,.string x.k,.bool x.x,.string x.m,.bool x.y,.slice va vl vc] w3 ho3 hn hjn hs3 hy3 rfl (by simp [Value.oneCell']) HV1.out (fun g hg e => by
   have h9:=(ho3.lt g (by rw [hg];rfl)).1
   omega)).mono ?_
  rintro e w4 ⟨v4,rfl,ho4,hg4⟩
  have hB5:=hB3.grown hg4 (by omega) (fun g hg => by
   have h9:=(ho3.lt g hg).1
   omega)
  obtain ⟨a',c',rfl,hR⟩:=HFIN.out w4 v4 _ (by omega) hB5 ho4;exact ⟨a',c',rfl,hR,hB5⟩
 have C1:=hidK hcl1;have C2:=hidK hcl2;have I1:=hidK hin1;have I2:=hidK hin2;clear hcl1 hcl2 hin1 hin2 HFIN HCL HR HJ HBD HB2
 have mixed : Tryz.prog.follows .mixedOrders = true:=by kernel_rfl
 go_wp2
 go_region_with (first
  | (go_at_call 168;refine C1.out.mono ?_;rintro e w3 ⟨a3,c3,rfl,HO3,HB3,hs3,hw3l,hx3⟩;obtain ⟨m0,m1,m2,m3,m4,m5,m6,m7⟩:=cs8 hx3;clear hx3)
  | (go_at_call 168;refine C2.out.mono ?_;rintro e w3 ⟨a3,c3,rfl,HO3,HB3,hs3,HY3⟩)
  | (go_at_call 167;refine (I1.out w3 a3 c3 HO3.out HB3.out hs3).mono ?_;rintro e w4 ⟨a',c',rfl,HR5,HB5⟩)
  | (go_at_call 167;refine (I2.out w3 a3 c3 HO3.out HB3.out hs3 HY3.out).mono ?_;rintro e w4 ⟨a',c',rfl,HR5,HB5⟩))
 all_goals (
  go_wp2
  go_ret
  exact ⟨a',_,c',rfl,HR5.out,HB5.out⟩)

theorem iwon_any (d : Ad) (c : Cl) (x : Vd) (ta : Option Addr) (tl tc : Nat) (va : Option Addr) (vl vc : Nat) (w : World) (hr : ClRow w d c.raw) (hs : Sm c) (hx : TxRow w va vl vc x.zs) (hvl : vl ≤ 8001) (z0 : x.n.size ≤ 9223372036854775807) (z2 : x.z.size ≤ 9223372036854775807) (z3 : x.k.size ≤ 9223372036854775807) (z5 : x.m.size ≤ 9223372036854775807) :
  Calls Tryz.prog 58 #[.agg #[.slice d.a1 d.l1 d.c1,.slice d.a2 d.l2 d.c2,.slice d.a3 d.l3 d.c3,.slice d.a4 d.l4 d.c4,.slice d.a5 d.l5 d.c5,.int .i64 c.now],.agg #[.string x.n,.int .i64 x.c,.string x.z,.string x.k,.bool x.x,.string x.m,.bool x.y,.slice ta tl tc],.slice va vl vc] w fun e w' => ∃ d',e = .returned (.agg #[.slice d'.a1 d'.l1 d'.c1,.slice d'.a2 d'.l2 d'.c2,.slice d'.a3 d'.l3 d'.c3,.slice d'.a4 d'.l4 d'.c4,.slice d'.a5 d'.l5 d'.c5,.int .i64 c.now]) ∧ ClOwn w' d' (putV c x).raw (fun k => w.heap.size ≤ k) ∧ Below w.heap.size w w':=by
 have HR:=hidK hr;have HS:=hidK hs;have HX:=hidK hx;have HB:=hidK (Below.refl w.heap.size w);clear hr hs hx
 go_enter Tryz.func58,Tryz.ntmps58
 go_wp2_with fail;refine (iownC_any d c _ (HR.out.below (HB.out.trans ((below3 _ _ _ _).mono HB.out.size))) HS.out).mono ?_;rintro e w1 ⟨d',rfl,ho,hb⟩;have HQ2:=hidK hb.size;simp only [size1] at HQ2 ho;obtain ⟨HA0,HA1,HA2,hbx⟩:=slots3 hb;have Bk:=hidK HA0;have Bp:=hidK HA1;have Br:=hidK HA2;replace HB:=upB HB hbx;clear hb hbx HA0 HA1 HA2;obtain ⟨P,hP⟩:=ho;have HP:=hidK hP;have hq2 : w.heap.size + 1 + 1 + 1 ≤ w1.heap.size:=HQ2.out;clear hP;obtain ⟨p0,p1,p2,p3,p4,p5,p6,p7⟩:=cs8 Bp.out;have ltp_1:=lt_of_some Bp.out;have h5:=(HP.out.v.into (S':=(fun k => (w.heap.size + 1 + 1 + 1 ≤ k ∧ P k = 3) ∧ k < w1.heap.size)) (fun k hk s => ⟨s,hk⟩)).below (below1 w1 (.cells #[.slice d'.a1 d'.l1 d'.c1,.slice d'.a2 d'.l2 d'.c2,.slice d'.a3 d'.l3 d'.c3,.slice d'.a4 d'.l4 d'.c4,.slice d'.a5 d'.l5 d'.c5,.int .i64 c.now] 38))
 have hlen : d'.l3 ≤ 8:=by have h6:=HP.out.v.1;have h7 : (c.vs.map vdF).length = d'.l3:=h6;rw [List.length_map] at h7;have:=HS.out.v;omega
 have hbo : Below w1.heap.size w1 (w1.alloc (.cells #[.slice d'.a1 d'.l1 d'.c1,.slice d'.a2 d'.l2 d'.c2,.slice d'.a3 d'.l3 d'.c3,.slice d'.a4 d'.l4 d'.c4,.slice d'.a5 d'.l5 d'.c5,.int .i64 c.now] 38)):=below1 w1 (.cells #[.slice d'.a1 d'.l1 d'.c1,.slice d'.a2 d'.l2 d'.c2,.slice d'.a3 d'.l3 d'.c3,.slice d'.a4 d'.l4 d'.c4,.slice d'.a5 d'.l5 d'.c5,.int .i64 c.now] 38);have hpk:=lt_of_some Bp.out
 have hc1 : Calls Tryz.prog 109 #[.slice d'.a3 d'.l3 d'.c3,.string x.n] (w1.alloc (.cells #[.slice d'.a1 d'.l1 d'.c1,.slice d'.a2 d'.l2 d'.c2,.slice d'.a3 d'.l3 d'.c3,.slice d'.a4 d'.l4 d'.c4,.slice d'.a5 d'.l5 d'.c5,.int .i64 c.now] 38)).drew fun e W => ∃ a2 l2 c2,e = .returned (.slice a2 l2 c2) ∧ Hid (ROwn W a2 l2 c2 8 81 ((wo Vd.n x.n c.vs).map vdF) (fun k => (fun k => (w.heap.size + 1 + 1 + 1 ≤ k ∧ P k = 3) ∧ k < w1.heap.size) k ∨ w1.heap.size + 1 ≤ k)) ∧ Hid (Below (w1.alloc (.cells #[.slice d'.a1 d'.l1 d'.c1,.slice d'.a2 d'.l2 d'.c2,.slice d'.a3 d'.l3 d'.c3,.slice d'.a4 d'.l4 d'.c4,.slice d'.a5 d'.l5 d'.c5,.int .i64 c.now] 38)).heap.size (w1.alloc (.cells #[.slice d'.a1 d'.l1 d'.c1,.slice d'.a2 d'.l2 d'.c2,.slice d'.a3 d'.l3 d'.c3,.slice d'.a4 d'.l4 d'.c4,.slice d'.a5 d'.l5 d'.c5,.int .i64 c.now] 38)) W) ∧ Hid (W.heap[w.heap.size + 1]? = some (.cells #[.string x.n,.int .i64 x.c,.string x.z,.string x.k,.bool x.x,.string x.m,.bool x.y,.slice va vl vc] 81 (0,0))) ∧ Hid (W.heap[w1.heap.size]? = some (.cells #[.slice d'.a1 d'.l1 d'.c1,.slice d'.a2 d'.l2 d'.c2,.slice d'.a3 d'.l3 d'.c3,.slice d'.a4 d'.l4 d'.c4,.slice d'.a5 d'.l5 d'.c5,.int .i64 c.now] 38 (0,0))) ∧ Hid (W.heap[w.heap.size + 1 + 1]? = some (.cells #[.slice none 0 0,.slice none 0 0,.slice none 0 0,.slice none 0 0,.slice none 0 0,.int .i64 0] 38 (0,0))):=by
  refine (iwovd_any d'.a3 d'.l3 d'.c3 c.vs x.n (fun k => (w.heap.size + 1 + 1 + 1 ≤ k ∧ P k = 3) ∧ k < w1.heap.size) (w1.alloc (.cells #[.slice d'.a1 d'.l1 d'.c1,.slice d'.a2 d'.l2 d'.c2,.slice d'.a3 d'.l3 d'.c3,.slice d'.a4 d'.l4 d'.c4,.slice d'.a5 d'.l5 d'.c5,.int .i64 c.now] 38)).drew (h5.keep (fun _ _ _ => rfl) (fun _ _ s => s)) hlen).mono ?_;rintro e W ⟨a2,l2,c2,rfl,hN,hb⟩;have hb' : Below (w1.alloc (.cells #[.slice d'.a1 d'.l1 d'.c1,.slice d'.a2 d'.l2 d'.c2,.slice d'.a3 d'.l3 d'.c3,.slice d'.a4 d'.l4 d'.c4,.slice d'.a5 d'.l5 d'.c5,.int .i64 c.now] 38)).heap.size (w1.alloc (.cells #[.slice d'.a1 d'.l1 d'.c1,.slice d'.a2 d'.l2 d'.c2,.slice d'.a3 d'.l3 d'.c3,.slice d'.a4 d'.l4 d'.c4,.slice d'.a5 d'.l5 d'.c5,.int .i64 c.now] 38)) W:=⟨hb.os,hb.tape,hb.output,hb.size,hb.block⟩;have hN':=hN.into (S':=fun k => (fun k => (w.heap.size + 1 + 1 + 1 ≤ k ∧ P k = 3) ∧ k < w1.heap.size) k ∨ w1.heap.size + 1 ≤ k) (fun k _ s => s.imp id (fun q => by have q1 : (w1.alloc (.cells #[.slice d'.a1 d'.l1 d'.c1,.slice d'.a2 d'.l2 d'.c2,.slice d'.a3 d'.l3 d'.c3,.slice d'.a4 d'.l4 d'.c4,.slice d'.a5 d'.l5 d'.c5,.int .i64 c.now] 38)).drew.heap.size ≤ k:=q;simpa using q1));exact ⟨a2,l2,c2,rfl,hN',hb',(hb'.block _ (by simp;omega)).trans ((hbo.block _ hpk).trans Bp.out),(hb'.block _ (by simp)).trans (heap_alloc_new w1 (.cells #[.slice d'.a1 d'.l1 d'.c1,.slice d'.a2 d'.l2 d'.c2,.slice d'.a3 d'.l3 d'.c3,.slice d'.a4 d'.l4 d'.c4,.slice d'.a5 d'.l5 d'.c5,.int .i64 c.now] 38)),(hb'.block _ (by simp;omega)).trans ((hbo.block _ (by omega)).trans Br.out)⟩
 have hc2 : ∀ W,Below (w1.alloc (.cells #[.slice d'.a1 d'.l1 d'.c1,.slice d'.a2 d'.l2 d'.c2,.slice d'.a3 d'.l3 d'.c3,.slice d'.a4 d'.l4 d'.c4,.slice d'.a5 d'.l5 d'.c5,.int .i64 c.now] 38)).heap.size (w1.alloc (.cells #[.slice d'.a1 d'.l1 d'.c1,.slice d'.a2 d'.l2 d'.c2,.slice d'.a3 d'.l3 d'.c3,.slice d'.a4 d'.l4 d'.c4,.slice d'.a5 d'.l5 d'.c5,.int .i64 c.now] 38)) W → Hid (W.heap[w.heap.size + 1]? = some (.cells #[.string x.n,.int .i64 x.c,.string x.z,.string x.k,.bool x.x,.string x.m,.bool x.y,.slice va vl vc] 81 (0,0))) ∧ Hid (W.heap[w1.heap.size]? = some (.cells #[.slice d'.a1 d'.l1 d'.c1,.slice d'.a2 d'.l2 d'.c2,.slice d'.a3 d'.l3 d'.c3,.slice d'.a4 d'.l4 d'.c4,.slice d'.a5 d'.l5 d'.c5,.int .i64 c.now] 38 (0,0))) ∧ Hid (W.heap[w.heap.size + 1 + 1]? = some (.cells #[.slice none 0 0,.slice none 0 0,.slice none 0 0,.slice none 0 0,.slice none 0 0,.int .i64 0] 38 (0,0))) → Calls Tryz.prog 111 #[.agg #[.string x.n,.int .i64 x.c,.string x.z,.string x.k,.bool x.x,.string x.m,.bool x.y,.slice va vl vc]] W fun e W3 => ∃ a3 l3 c3,e = .returned (.agg #[.string x.n,.int .i64 x.c,.string x.z,.string x.k,.bool x.x,.string x.m,.bool x.y,.slice a3 l3 c3]) ∧ Hid (TOwn W3 a3 l3 c3 x.zs (fun k => W.heap.size ≤ k)) ∧ Hid (Below W.heap.size W W3) ∧ Hid (W3.heap[w.heap.size + 1]? = some (.cells #[.string x.n,.int .i64 x.c,.string x.z,.string x.k,.bool x.x,.string x.m,.bool x.y,.slice va vl vc] 81 (0,0))) ∧ Hid (W3.heap[w1.heap.size]? = some (.cells #[.slice d'.a1 d'.l1 d'.c1,.slice d'.a2 d'.l2 d'.c2,.slice d'.a3 d'.l3 d'.c3,.slice d'.a4 d'.l4 d'.c4,.slice d'.a5 d'.l5 d'.c5,.int .i64 c.now] 38 (0,0))) ∧ Hid (W3.heap[w.heap.size + 1 + 1]? = some (.cells #[.slice none 0 0,.slice none 0 0,.slice none 0 0,.slice none 0 0,.slice none 0 0,.int .i64 0] 38 (0,0))):=fun W hb hkp => by
  refine (iownvd_any x va vl vc W (HX.out.below (HB.out.trans ((hbo.trans (hb.mono (by simp))).mono HB.out.size))) hvl).mono ?_;rintro e W3 ⟨a3,l3,c3,rfl,hO,hb3⟩;exact ⟨a3,l3,c3,rfl,hO,hb3,(hb3.block _ (lt_of_some hkp.1.out)).trans hkp.1.out,(hb3.block _ (lt_of_some hkp.2.1.out)).trans hkp.2.1.out,(hb3.block _ (lt_of_some hkp.2.2.out)).trans hkp.2.2.out⟩
 have hc3 : ∀ (W W3 : World) a2 l2 c2 a3 l3 c3,Below (w1.alloc (.cells #[.slice d'.a1 d'.l1 d'.c1,.slice d'.a2 d'.l2 d'.c2,.slice d'.a3 d'.l3 d'.c3,.slice d'.a4 d'.l4 d'.c4,.slice d'.a5 d'.l5 d'.c5,.int .i64 c.now] 38)).heap.size (w1.alloc (.cells #[.slice d'.a1 d'.l1 d'.c1,.slice d'.a2 d'.l2 d'.c2,.slice d'.a3 d'.l3 d'.c3,.slice d'.a4 d'.l4 d'.c4,.slice d'.a5 d'.l5 d'.c5,.int .i64 c.now] 38)) W → ROwn W a2 l2 c2 8 81 ((wo Vd.n x.n c.vs).map vdF) (fun k => (fun k => (w.heap.size + 1 + 1 + 1 ≤ k ∧ P k = 3) ∧ k < w1.heap.size) k ∨ w1.heap.size + 1 ≤ k) → Below W.heap.size W W3 → TOwn W3 a3 l3 c3 x.zs (fun k => W.heap.size ≤ k) → Hid (W3.heap[w.heap.size + 1]? = some (.cells #[.string x.n,.int .i64 x.c,.string x.z,.string x.k,.bool x.x,.string x.m,.bool x.y,.slice va vl vc] 81 (0,0))) ∧ Hid (W3.heap[w1.heap.size]? = some (.cells #[.slice d'.a1 d'.l1 d'.c1,.slice d'.a2 d'.l2 d'.c2,.slice d'.a3 d'.l3 d'.c3,.slice d'.a4 d'.l4 d'.c4,.slice d'.a5 d'.l5 d'.c5,.int .i64 c.now] 38 (0,0))) ∧ Hid (W3.heap[w.heap.size + 1 + 1]? = some (.cells #[.slice none 0 0,.slice none 0 0,.slice none 0 0,.slice none 0 0,.slice none 0 0,.int .i64 0] 38 (0,0))) → Calls Tryz.prog 110 #[.slice a2 l2 c2,.agg #[.string x.n,.int .i64 x.c,.string x.z,.string x.k,.bool x.x,.string x.m,.bool x.y,.slice a3 l3 c3]] W3 fun e W4 => ∃ a4 l4 c4,e = .returned (.slice a4 l4 c4) ∧ Hid (ROwn W4 a4 l4 c4 8 81 ((putV c x).vs.map vdF) (fun k => (fun k => (w.heap.size + 1 + 1 + 1 ≤ k ∧ P k = 3) ∧ k < w1.heap.size) k ∨ w1.heap.size + 1 ≤ k)) ∧ Hid (Below w1.heap.size w1 W4) ∧ Hid (W4.heap[w.heap.size + 1]? = some (.cells #[.string x.n,.int .i64 x.c,.string x.z,.string x.k,.bool x.x,.string x.m,.bool x.y,.slice va vl vc] 81 (0,0))) ∧ Hid (W4.heap[w1.heap.size]? = some (.cells #[.slice d'.a1 d'.l1 d'.c1,.slice d'.a2 d'.l2 d'.c2,.slice d'.a3 d'.l3 d'.c3,.slice d'.a4 d'.l4 d'.c4,.slice d'.a5 d'.l5 d'.c5,.int .i64 c.now] 38 (0,0))) ∧ Hid (W4.heap[w.heap.size + 1 + 1]? = some (.cells #[.slice none 0 0,.slice none 0 0,.slice none 0 0,.slice none 0 0,.slice none 0 0,.int .i64 0] 38 (0,0))):=fun W W3 a2 l2 c2 a3 l3 c3 hb hO2 hb3 hO3 hkp => by
  obtain ⟨g,hg⟩:=hO3.fr;have hr2:=(hO2.into (S':=fun k => ((fun k => (w.heap.size + 1 + 1 + 1 ≤ k ∧ P k = 3) ∧ k < w1.heap.size) k ∨ w1.heap.size + 1 ≤ k) ∧ k < W.heap.size) (fun k hk s => ⟨s,hk⟩)).below hb3
  have hl2 : l2 ≤ 8:=by have h6:=hO2.1;rw [List.length_map] at h6;have h7:=wo_le Vd.n x.n c.vs;have:=HS.out.v;omega
  have hs1:=hb.size;simp only [size1] at hs1;refine (withvd_any a2 l2 c2 (wo Vd.n x.n c.vs) x a3 l3 c3 g _ (fun k => W.heap.size ≤ k) W3 hr2 hl2 (vd_fr z0 z2 z3 z5 hg) (fun k q1 q2 => by have q3:=q1.2;have q4 : W.heap.size ≤ k:=q2;omega)).mono ?_;rintro e W4 ⟨a4,l4,c4,rfl,hN,hb4⟩;have hs3:=hb3.size;have hb14 : Below w1.heap.size w1 W4:=(hbo.trans (hb.mono (by simp))).trans ((hb3.mono (by omega)).trans (hb4.mono (by omega)))
  have hN':=hN.into (S':=fun k => (fun k => (w.heap.size + 1 + 1 + 1 ≤ k ∧ P k = 3) ∧ k < w1.heap.size) k ∨ w1.heap.size + 1 ≤ k) (fun k _ s => by
   rcases s with (s | s) | s
   ·exact s.1
   ·have s1 : W.heap.size ≤ k:=s;exact .inr (by omega)
   ·have s1 : W3.heap.size ≤ k:=s;exact .inr (by omega))
  exact ⟨a4,l4,c4,rfl,hN',hb14,(hb4.block _ (lt_of_some hkp.1.out)).trans hkp.1.out,(hb4.block _ (lt_of_some hkp.2.1.out)).trans hkp.2.1.out,(hb4.block _ (lt_of_some hkp.2.2.out)).trans hkp.2.2.out⟩
 have C1:=hidK hc1;have C2:=hidK hc2;have C3:=hidK hc3;clear hc1 hc2 hc3 h5 HX
 have mixed : Tryz.prog.follows .mixedOrders = true:=by kernel_rfl
 go_wp2
 go_region_with (first
  | (go_at_call 109;refine C1.out.mono ?_;rintro e w2 ⟨a2,l2,c2,rfl,HO2,HB2,HKP2⟩;obtain ⟨p0,p1,p2,p3,p4,p5,p6,p7⟩:=cs8 HKP2.1.out)
  | (go_at_call 111;refine (C2.out w2 HB2.out HKP2).mono ?_;rintro e w3 ⟨a3,l3,c3,rfl,HO3,HB3,HKP3⟩)
  | (go_at_call 110;refine (C3.out w2 w3 a2 l2 c2 a3 l3 c3 HB2.out HO2.out HB3.out HO3.out HKP3).mono ?_;rintro e w4 ⟨a4,l4,c4,rfl,HO4,HB4,HKP4⟩;obtain ⟨o0,o1,o2,o3,o4,o5⟩:=cs6 HKP4.2.1.out;have hol:=lt_of_some HKP4.2.1.out;have fo2:=froK HKP4.2.1.out 2))
 all_goals (
  obtain ⟨r0,r1,r2,r3,r4,r5⟩:=cs6 HKP4.2.2.out;have fr0:=froK HKP4.2.2.out 0;have fr1:=froK HKP4.2.2.out 1;have fr2:=froK HKP4.2.2.out 2;have fr3:=froK HKP4.2.2.out 3;have fr4:=froK HKP4.2.2.out 4;have fr5:=froK HKP4.2.2.out 5;have hrl:=lt_of_some HKP4.2.2.out
  have hne : ¬ w.heap.size + 1 + 1 = w1.heap.size:=by omega
  have hne2 : ¬ w1.heap.size = w.heap.size + 1 + 1:=by omega
  go_wp2
  refine bodyPost_ret (v:=.agg #[.slice d'.a1 d'.l1 d'.c1,.slice d'.a2 d'.l2 d'.c2,.slice a4 l4 c4,.slice d'.a4 d'.l4 d'.c4,.slice d'.a5 d'.l5 d'.c5,.int .i64 c.now]) (by simp [results,Tryz.results58,go_sem, *]) rfl ⟨⟨d'.a1,d'.l1,d'.c1,d'.a2,d'.l2,d'.c2,a4,l4,c4,d'.a4,d'.l4,d'.c4,d'.a5,d'.l5,d'.c5⟩,rfl,?_,set_below (show w.heap.size ≤ w.heap.size + 1 + 1 by omega) (set_below (show w.heap.size ≤ w.heap.size + 1 + 1 by omega) (set_below (show w.heap.size ≤ w.heap.size + 1 + 1 by omega) (set_below (show w.heap.size ≤ w.heap.size + 1 + 1 by omega) (set_below (show w.heap.size ≤ w.heap.size + 1 + 1 by omega) (set_below (show w.heap.size ≤ w.heap.size + 1 + 1 by omega) (set_below (show w.heap.size ≤ w1.heap.size by omega) (HB.out.trans (HB4.out.mono HB.out.size))))))))⟩;have h9:=HP.out.put3 hq2 HO4.out HB4.out (w4:=(((((((w4.setCell ⟨w1.heap.size,2,none⟩ (.slice a4 l4 c4)).setCell ⟨w.heap.size + 1 + 1,0,none⟩ (.slice d'.a1 d'.l1 d'.c1)).setCell ⟨w.heap.size + 1 + 1,1,none⟩ (.slice d'.a2 d'.l2 d'.c2)).setCell ⟨w.heap.size + 1 + 1,2,none⟩ (.slice a4 l4 c4)).setCell ⟨w.heap.size + 1 + 1,3,none⟩ (.slice d'.a4 d'.l4 d'.c4)).setCell ⟨w.heap.size + 1 + 1,4,none⟩ (.slice d'.a5 d'.l5 d'.c5)).setCell ⟨w.heap.size + 1 + 1,5,none⟩ (.int .i64 c.now))) (fun k h1 h2 => by rw [Below.heap_setCell _ _ _ _ (show k ≠ w.heap.size + 1 + 1 by omega),Below.heap_setCell _ _ _ _ (show k ≠ w.heap.size + 1 + 1 by omega),Below.heap_setCell _ _ _ _ (show k ≠ w.heap.size + 1 + 1 by omega),Below.heap_setCell _ _ _ _ (show k ≠ w.heap.size + 1 + 1 by omega),Below.heap_setCell _ _ _ _ (show k ≠ w.heap.size + 1 + 1 by omega),Below.heap_setCell _ _ _ _ (show k ≠ w.heap.size + 1 + 1 by omega),Below.heap_setCell _ _ _ _ (show k ≠ w1.heap.size by omega)])
  exact h9.into (fun k _ s => by have s1 : w.heap.size + 1 + 1 + 1 ≤ k:=s;show w.heap.size ≤ k;omega))

theorem icmpS_is (a b : ByteArray) (w : World) (r : Int) (h : r = cb a b) : Calls Tryz.prog 60 #[.string a,.string b] w fun e w' => e = .returned (.int .i64 r) ∧ Below w.heap.size w w':=by
 rw [h];refine (icmpS_any a b w).mono ?_;rintro e w' ⟨rfl,rfl⟩;exact ⟨rfl,Below.refl _ _⟩
def BsT (zs : List ByteArray) (x : ByteArray) (w : World) (e : Ending) (w' : World) : Prop:=∃ (k : Nat) (f : Bool),e = .returned (.tuple #[.int .i64 k,.bool f]) ∧ k ≤ zs.length ∧ (∀ (j : Nat) y,j < k → zs[j]? = some y → Op.bytesLess y.toList x.toList = true) ∧ ((f = true ∧ zs[k]? = some x) ∨ (f = false ∧ ∀ y,zs[k]? = some y → Op.bytesLess x.toList y.toList = true)) ∧ Below w.heap.size w w'
theorem RT.le {zs : List ByteArray} {x y z : ByteArray} {i j : Nat} (h : RT zs) (hij : i ≤ j) (hi : zs[i]? = some y) (hj : zs[j]? = some z) (hl : Op.bytesLess z.toList x.toList = true) : Op.bytesLess y.toList x.toList = true:=by
 rcases Nat.lt_or_ge i j with hlt | hge
 ·have h1:=List.getElem?_eq_some_iff.1 hi;have h2:=List.getElem?_eq_some_iff.1 hj;obtain ⟨i1,rfl⟩:=h1;obtain ⟨j1,rfl⟩:=h2;exact less_trans _ _ _ (List.pairwise_iff_getElem.1 h i j i1 j1 hlt) hl
 ·obtain rfl : i = j:=by omega
  rw [hi] at hj;obtain rfl:=Option.some.inj hj;exact hl

theorem ibsT_any (a : Option Addr) (len cap : Nat) (zs : List ByteArray) (x : ByteArray) (w : World) (hr : TxRow w a len cap zs) (hri : RT zs) (hl : len ≤ 64) :
  Calls Tryz.prog 112 #[.slice a len cap,.string x,.func (.func 60) #[] #[]] w (BsT zs x w):=by
 have HR:=hidK hr;have hzl : zs.length = len:=hr.1;have hlc : len ≤ cap:=hr.2.1;have hcm : cap ≤ 9223372036854775807:=hr.2.2.1;have HRI:=hidK hri;clear hr hri
 go_enter Tryz.func112,Tryz.ntmps112
 go_wp2
 go_loopw [9,10] (fun vi vj wr => ∃ (i j : Nat),i ≤ j ∧ j ≤ len ∧ vi = .int .i64 i ∧ vj = .int .i64 j ∧ Hid (∀ (q : Nat) y,q < i → zs[q]? = some y → Op.bytesLess y.toList x.toList = true) ∧ Hid (∀ (q : Nat) y,j ≤ q → zs[q]? = some y → Op.bytesLess y.toList x.toList = false) ∧ Hid (Below w.heap.size w wr)) (fun vi vj _ => (intOf vj).toNat - (intOf vi).toNat)
 case atStart => exact ⟨0,len,by omega,by omega,rfl,rfl,fun q y h => by omega,fun q y h hy => by have:=(List.getElem?_eq_some_iff.1 hy).1;omega,Below.refl _ _⟩
 case round =>
  obtain ⟨i,j,hij,hj,rfl,rfl,HI,HJ,HB⟩:=hrel;have hLs:=HB.out.size;have HL:=HB
  by_cases hlt : i < j
  ·have hk1 : (i : Int) < j:=by omega
   obtain ⟨m,hm⟩ : ∃ m,m = (i + j) / 2:=⟨_,rfl⟩
   have hm1 : m < j:=by omega
   have hm2 : i ≤ m:=by omega
   have hml : m < len:=by omega
   obtain ⟨b,o,y,rfl,hb,hy,hc0,-⟩:=(HR.out.below HB.out).at hml;have HY:=hidK hy;clear hy
   have hmi : ((i : Int) + j) / 2 = (m : Int):=by omega
   have hm0 : ¬ (m : Int) < 0:=by omega
   have hm3 : (m : Int) < len:=by omega
   obtain ⟨r,hr⟩ : ∃ r,r = cb y x:=⟨_,rfl⟩;have HRR:=hidK hr;clear hr hm
   by_cases hr0 : r < 0
   ·have hr1 : decide (r < 0) = true:=by simpa using hr0
    go_wp2_with fail;clear hb hc0;refine (icmpS_is y x _ r HRR.out).mono ?_;rintro e w2 ⟨rfl,hb3⟩;replace HB:=upB HB hb3;clear hb3;have HLS : Hid (Op.bytesLess y.toList x.toList = true):=(cb_less _ _).1 (by rw [← HRR.out];exact hr0)
    go_wp2
    refine ⟨⟨m + 1,j,by omega,by omega,by go_num,rfl,fun q z hq hz => HRI.out.le (by omega) hz HY.out HLS.out,HJ.out,HB.out⟩,by simp [intOf];omega⟩
   ·have hr1 : decide (r < 0) = false:=by simpa using hr0
    go_wp2_with fail;clear hb hc0;refine (icmpS_is y x _ r HRR.out).mono ?_;rintro e w2 ⟨rfl,hb3⟩;replace HB:=upB HB hb3;clear hb3
    have HLS : Hid (Op.bytesLess y.toList x.toList = false):=by
     show Op.bytesLess y.toList x.toList = false
     cases h9 : Op.bytesLess y.toList x.toList
     ·rfl
     ·have h8:=(cb_less y x).2 h9;rw [← HRR.out] at h8
      omega
    go_wp2
    refine ⟨⟨i,m,by omega,by omega,rfl,rfl,HI.out,fun q z hq hz => ?_,HB.out⟩,by simp [intOf];omega⟩
    cases h9 : Op.bytesLess z.toList x.toList
    ·rfl
    ·have h8:=HRI.out.le hq HY.out hz h9;rw [HLS.out] at h8
     cases h8
  have HIJ : Hid (i = j):=by show i = j;omega
  have hk1 : ¬ (i : Int) < j:=by omega
  by_cases hil : i < len
  ·have hk2 : (i : Int) < len:=by omega
   have hk3 : decide ((i : Int) < len) = true:=by simp;omega
   obtain ⟨b,o,y,rfl,hb,hy,hc0,-⟩:=(HR.out.below HB.out).at hil;have HY:=hidK hy;clear hy;obtain ⟨r,hr⟩ : ∃ r,r = cb y x:=⟨_,rfl⟩;have HRR:=hidK hr;clear hr
   by_cases hr0 : r = 0
   ·have hr1 : (r == 0) = true:=by simpa using hr0
    go_wp2_with fail;clear hb hc0;refine (icmpS_is y x _ r HRR.out).mono ?_;rintro e w2 ⟨rfl,hb3⟩;replace HB:=upB HB hb3;clear hb3
    have HEQ : Hid (zs[i]? = some x):=by
     have h9 : y = x:=(cb_zero _ _).1 (by rw [← HRR.out];exact hr0);rw [← h9];exact HY.out
    go_wp2
    exact bodyPost_ret (v:=.tuple #[.int .i64 i,.bool true]) (by simp [results,Tryz.results112,go_sem]) rfl ⟨i,true,rfl,by omega,HI.out,.inl ⟨rfl,HEQ.out⟩,HB.out⟩
   ·have hr1 : (r == 0) = false:=by simpa using hr0
    go_wp2_with fail;clear hb hc0;refine (icmpS_is y x _ r HRR.out).mono ?_;rintro e w2 ⟨rfl,hb3⟩;replace HB:=upB HB hb3;clear hb3
    have HGT : Hid (∀ z,zs[i]? = some z → Op.bytesLess x.toList z.toList = true):=fun z hz => by
     rw [HY.out] at hz;obtain rfl:=Option.some.inj hz;exact less_tot (HJ.out i y (by have:=HIJ.out;omega) HY.out) (fun e => hr0 (by rw [HRR.out];exact (cb_zero _ _).2 e))
    go_wp2
    exact bodyPost_ret (v:=.tuple #[.int .i64 i,.bool false]) (by simp [results,Tryz.results112,go_sem]) rfl ⟨i,false,rfl,by omega,HI.out,.inr ⟨rfl,HGT.out⟩,HB.out⟩
  have hk2 : ¬ (i : Int) < len:=by omega
  have hk3 : decide ((i : Int) < len) = false:=by simp;omega
  go_wp2
  exact bodyPost_ret (v:=.tuple #[.int .i64 i,.bool false]) (by simp [results,Tryz.results112,go_sem]) rfl ⟨i,false,rfl,by omega,HI.out,.inr ⟨rfl,fun z hz => by have:=(List.getElem?_eq_some_iff.1 hz).1;omega⟩,HB.out⟩

structure Lt (B : Nat) (w w' : World) : Prop where
 os : w'.os = w.os
 tape : w'.tape = w.tape
 output : w'.output = w.output
 size : w.heap.size ≤ w'.heap.size
 block : ∀ k,k < w.heap.size → (k < B ∨ ∃ (cs : Array Value) (T : TypeId),w.heap[k]? = some (.cells cs T (0,0)) ∧ cs.size = 1) → w'.heap[k]? = w.heap[k]?
theorem Lt.of_below {B : Nat} {w w' : World} (h : Below w.heap.size w w') : Lt B w w':=⟨h.os,h.tape,h.output,h.size,fun k hk _ => h.block k hk⟩
theorem Lt.trans {B : Nat} {a b c : World} (h : Lt B a b) (k : Lt B b c) : Lt B a c:=⟨k.os.trans h.os,k.tape.trans h.tape,k.output.trans h.output,Nat.le_trans h.size k.size,fun i hi hp => by
 have h1:=h.block i hi hp
 exact (k.block i (Nat.lt_of_lt_of_le hi h.size) (hp.imp id (fun ⟨cs,T,h2,h3⟩ => ⟨cs,T,h1.trans h2,h3⟩))).trans h1⟩
theorem Lt.low {w w' : World} (h : Lt w.heap.size w w') : Below w.heap.size w w':=⟨h.os,h.tape,h.output,h.size,fun k hk => h.block k hk (.inl hk)⟩
def Rt (B : Nat) (sp : Tmp) : Gi.Rs:=fun s w w' => match s with
 | none => Lt B w w'
 | some t => if t = sp then Lt B w w' else Below w.heap.size w w'
theorem Rt.below {B : Nat} {sp : Tmp} {s : Option Tmp} {w w' : World} (h : Rt B sp s w w') (h1 : ¬ s = none) (h2 : ¬ s = some sp) : Below w.heap.size w w':=by
 cases s with
 | none => exact absurd rfl h1
 | some t =>
  simp only [Rt] at h;rw [if_neg (fun e => h2 (by rw [e]))] at h;exact h
theorem Rt.rel (B : Nat) (sp : Tmp) : Gi.Rel (Rt B sp) sp:=by
 refine ⟨fun w => Lt.of_below (Below.refl _ _),fun {a b c} h k => Lt.trans h k,fun h => Lt.size h,fun w => Lt.of_below (Below.refl _ _).drew,fun s {a b} h => ?_,fun s {a b} h1 h2 h => Rt.below h h1 h2⟩
 cases s with
 | none => exact h
 | some t =>
  show Lt B a b
  simp only [Rt] at h
  split at h
  ·exact h
  ·exact Lt.of_below h
theorem Rt.other {B : Nat} {sp t : Tmp} {w w' : World} (ht : ¬ t = sp) (h : Below w.heap.size w w') : Rt B sp (some t) w w':=by
 show (if t = sp then Lt B w w' else Below w.heap.size w w')
 rw [if_neg ht];exact h
theorem Rt.this {B : Nat} {sp : Tmp} {w w' : World} (h : Lt B w w') : Rt B sp (some sp) w w':=by
 show (if sp = sp then Lt B w w' else Below w.heap.size w w')
 rw [if_pos rfl];exact h
def B1T (x : ByteArray) : Gi.Fact:=fun u w _ _ => ∃ b,u = .slice (some ⟨b,0,none⟩) 1 1 ∧ w.heap[b]? = some (.cells #[.string x] 9 (0,0))
theorem B1T.mono {B : Nat} {sp : Tmp} {ex : Gi.Ex} {d : Option Tmp} {x : ByteArray} : Gi.Fact.Mono (Rt B sp) ex d (B1T x):=by
 rintro s _ _ _ v w w' l h ⟨b,h1,h2⟩ hb;have hb : Lt B w w':=(Rt.rel B sp).sub s hb;exact ⟨b,h1,(hb.block b (lt_of_some h2) (.inr ⟨_,_,h2,rfl⟩)).trans h2⟩
def OwT (B n : Nat) (xs : List Value) : Gi.Fact:=fun u w _ _ => w.ownsRow B 9 1 u n xs
theorem OwT.mono {B B' n : Nat} {sp t : Tmp} {ex : Gi.Ex} {xs : List Value} (hx : t = sp ∨ ex t = some sp) : Gi.Fact.Mono (Rt B sp) ex (some t) (OwT B' n xs):=by
 rintro s h1 h2 h3 v w w' l h ho hb;refine owns_below ho (Rt.below hb h1 (fun e => ?_))
 rcases hx with rfl | hx
 ·exact h2 e
 ·exact h3 t sp rfl hx e
theorem run_append_lt (w : World) (B : Nat) (t ty e : TypeId) (i : TypeInfo) (z : Value) (bytes : Nat) (ht : Tryz.prog.underlying t = some (.slice e)) (hi : Tryz.prog.info? e = some i) (hz : i.zero = some z)
  (hsize : i.size = 1) (hby : i.bytes = bytes) (hzs : z.cells.size = 1) (v : Value) (n : Nat) (xs : List Value) (hn : 0 < n) (hown : w.ownsRow B e 1 v n xs)
  (ax : Option Addr) (m c : Nat) (news : List Value) (hl : news.length = m * 1) (hnews : ∀ (j : Nat) u,news[j]? = some u → ∃ ad : Addr,ax = some ad ∧ w.cell? (ad.add j) = some u) (h1 : ∀ u ∈ news,u.oneCell' = true)
  (h63 : n + m ≤ maxLen) (hbytes : (n + m) * bytes ≤ 140737488355328) (hbase : B ≤ w.heap.size) :
  ∃ v' w',(Builtin.append_ #[t,t] ty #[v,.slice ax m c]).run Tryz.prog w = .ok v' w' ∧ w'.ownsRow B e 1 v' (n + m) (xs ++ news) ∧ Lt B w w':=by
 rcases Nat.eq_zero_or_pos m with rfl | hm
 ·have h0 : news = []:=List.eq_nil_of_length_eq_zero (by simpa using hl);subst h0;exact ⟨v,w,run_append_empty ht hi hown ax c,by simpa using hown,Lt.of_below (Below.refl _ _)⟩
 ·obtain ⟨ad,rfl,_⟩:=hnews 0 (news[0]'(by omega)) (List.getElem?_eq_getElem _)
  have hnw : ∀ (j : Nat) u,news[j]? = some u → w.cell? (ad.add j) = some u:=fun j u hu => by
   obtain ⟨ad',e',h3⟩:=hnews j u hu
   cases e'
   exact h3
  obtain ⟨v',w',hr,h2,h3,h4⟩:=run_append_own (P:=Tryz.prog) w B t ty e i z 1 bytes ht hi hz hsize hby hzs (by decide) v n xs hown ad m c news hl hnw h1 h63 hbytes hbase;refine ⟨v',w',hr,h2,⟨h3.os,h3.tape,h3.output,h3.size,fun k hk hp => ?_⟩⟩
  by_cases hkg : some k = v.ownBlock
  ·rcases hown.2 with ⟨rfl,h5⟩ | ⟨g,cap,cur,rfl,hbg,hg,hnc,hcm,hcs,htake⟩
   ·omega
   ·obtain rfl : k = g:=by simpa [Value.ownBlock] using hkg
    have hc1 : cap < n + m:=by
     rcases hp with hp | ⟨cs,T,h6,h7⟩
     ·omega
     ·rw [hg] at h6
      cases h6
      omega
    have hsm : n + m ≤ 9223372036854775807:=by simp only [maxLen] at h63;omega
    have holds : ∀ (j : Nat) u,xs[j]? = some u → w.cell? ((⟨k,0,none⟩ : Addr).add j) = some u:=hown.cells (g:=k) rfl;subst hby;have hr2:=run_append_grow (P:=Tryz.prog) w t ty e i z ht hi hz ⟨k,0,none⟩ n cap xs (by rw [hsize];exact hown.1) holds ad m c news (by rw [hsize];exact hl) hnw (by omega) (by omega) (growslice_fits (by omega) hbytes);rw [hr] at hr2
    cases hr2
    exact Below.heap_alloc w.drew _ k hk
  ·exact h3.block k hk hkg

theorem run_append_cut0 (w : World) (t ty e : TypeId) (i : TypeInfo) (ht : Tryz.prog.underlying t = some (.slice e)) (hi : Tryz.prog.info? e = some i) (bs ax : Option Addr) (n c : Nat) : (Builtin.append_ #[t,t] ty #[.slice bs n n,.slice ax 0 c]).run Tryz.prog w = .ok (.slice bs n n) w:=by
 cases bs <;> cases ax <;> simp [Builtin.append_,run_underlying ht,sizeOf,typeInfo,hi,Builtin.lenOf,Builtin.firstCells,storeCells,loadCells,loadCellsFrom]
theorem own_tx {w : World} {base : Nat} {v : Value} {n : Nat} {zs : List ByteArray} (h : w.ownsRow base 9 1 v n (zs.map Value.string)) (hs : ∀ (j : Nat) z,zs[j]? = some z → z.size ≤ 9223372036854775807) : ∃ a' c',v = .slice a' n c' ∧ TxRow w a' n c' zs:=by
 have hn : zs.length = n:=by have h1:=h.1;simpa using h1
 have hc:=fun (g : Nat) (cap : Nat) (e : v = .slice (some ⟨g,0,none⟩) n cap) => h.cells (g:=g) (by rw [e];rfl)
 rcases h.2 with ⟨rfl,h0⟩ | ⟨g,cap,cur,rfl,hb,hg,hnc,hcm,hcs,htake⟩
 ·subst h0;exact ⟨none,0,rfl,hn,Nat.le_refl _,by omega,hs,.inl (List.eq_nil_of_length_eq_zero hn)⟩
 ·refine ⟨_,_,rfl,hn,hnc,by unfold maxLen at hcm;omega,hs,.inr ⟨g,0,rfl,lt_of_some hg,fun j z hz => ?_⟩⟩;have h1:=hc g cap rfl j (.string z) (by rw [List.getElem?_map,hz];rfl);rw [Addr.add_lit] at h1;exact h1
theorem append_cut_tx (w : World) (ty : TypeId) (i : TypeInfo) (hi : Tryz.prog.info? 9 = some i) (hz : i.zero = some (.string ⟨#[]⟩)) (hsize : i.size = 1) (hby : i.bytes = 16) (bs ax : Option Addr) (n m c : Nat) (xs ys : List ByteArray) (hn : n ≤ 64) (hm : m ≤ 64) (hx : TxRow w bs n n xs) (hy : TxRow w ax m c ys) :
  ∃ v' w' a' c',(Builtin.append_ #[78,78] ty #[.slice bs n n,.slice ax m c]).run Tryz.prog w = .ok v' w' ∧ v' = .slice a' (n + m) c' ∧ TxRow w' a' (n + m) c' (xs ++ ys) ∧ Below w.heap.size w w':=by
 rcases Nat.eq_zero_or_pos m with rfl | hm0
 ·have h0 : ys = []:=List.eq_nil_of_length_eq_zero hy.1;subst h0;exact ⟨_,_,bs,n,run_append_cut0 w _ ty _ i Tryz.underlying78 hi bs ax n c,rfl,by simpa using hx,Below.refl _ _⟩
 ·have hyc : ∀ (j : Nat) u,(ys.map Value.string)[j]? = some u → ∃ ad : Addr,ax = some ad ∧ w.cell? (ad.add j) = some u:=fun j u hu => by
   rw [List.getElem?_map,Option.map_eq_some_iff] at hu;obtain ⟨z,hz,rfl⟩:=hu;obtain ⟨b,o,x,rfl,hb,hx,hc,-⟩:=hy.at (k:=j) (by have:=(List.getElem?_eq_some_iff.1 hz).1;have:=hy.1;omega);rw [hz] at hx
   cases hx
   exact ⟨_,rfl,by rw [Addr.add_lit];exact hc⟩
  have hxc : ∀ (j : Nat) u,(xs.map Value.string)[j]? = some u → ∃ ad : Addr,bs = some ad ∧ w.cell? (ad.add j) = some u:=fun j u hu => by
   rw [List.getElem?_map,Option.map_eq_some_iff] at hu;obtain ⟨z,hz,rfl⟩:=hu;obtain ⟨b,o,x,rfl,hb,hx,hc,-⟩:=hx.at (k:=j) (by have:=(List.getElem?_eq_some_iff.1 hz).1;have:=hx.1;omega);rw [hz] at hx
   cases hx
   exact ⟨_,rfl,by rw [Addr.add_lit];exact hc⟩
  obtain ⟨ad,rfl,-⟩:=hyc 0 _ (by rw [List.getElem?_map,List.getElem?_eq_getElem (by have:=hy.1;omega)];rfl)
  obtain ⟨v',w',hr,h2,h3⟩:=run_append_cut w 78 ty 9 i (.string ⟨#[]⟩) 1 16 Tryz.underlying78 hi hz hsize hby rfl bs n (xs.map Value.string) (by simpa using hx.1) (fun e => by
   subst e
   rcases hx.2.2.2.2 with h9 | ⟨b,o,h9,_⟩
   ·subst h9;exact hx.1.symm
   ·cases h9) hxc ad m c (ys.map Value.string) hm0 (by simpa using hy.1) (fun j u hu => by
   obtain ⟨ad',e',h5⟩:=hyc j u hu
   cases e'
   exact h5) (by unfold maxLen;omega) (by omega)
  rw [← List.map_append] at h2
  obtain ⟨a',c',e,h4⟩:=own_tx h2 (fun j z hz => by
   have h1:=List.mem_of_getElem? hz
   rcases List.mem_append.1 h1 with h1 | h1
   ·obtain ⟨i,hi⟩:=List.getElem?_of_mem h1;exact hx.2.2.2.1 i z hi
   ·obtain ⟨i,hi⟩:=List.getElem?_of_mem h1;exact hy.2.2.2.1 i z hi)
  exact ⟨_,_,a',c',hr,e,h4,h3⟩
theorem tx_head {w : World} {a : Option Addr} {len cap k : Nat} {zs : List ByteArray} (h : TxRow w a len cap zs) (hk : k ≤ len) : TxRow w a k k (zs.take k):=by
 obtain ⟨h1,h2,h3,h4,h5⟩:=h;refine ⟨by rw [List.length_take];omega,Nat.le_refl _,by omega,fun j x hx => ?_,?_⟩
 ·rw [List.getElem?_take] at hx
  split at hx
  ·exact h4 j x hx
  ·cases hx
 ·rcases h5 with rfl | ⟨b,o,e,hb,hc⟩
  ·exact .inl (by simp)
  ·refine .inr ⟨b,o,e,hb,fun j x hx => ?_⟩;rw [List.getElem?_take] at hx
   split at hx
   ·exact hc j x hx
   ·cases hx

theorem RT.risBy {zs : List ByteArray} (h : RT zs) : RisBy (fun s : ByteArray => s) zs:=fun j x y hx hy => by
 obtain ⟨i1,rfl⟩:=List.getElem?_eq_some_iff.1 hx;obtain ⟨j1,rfl⟩:=List.getElem?_eq_some_iff.1 hy;exact List.pairwise_iff_getElem.1 h j (j + 1) j1 i1 (by omega)
theorem bs_not {zs : List ByteArray} {x : ByteArray} {k : Nat} (h : RT zs) (hlt : ∀ (j : Nat) y,j < k → zs[j]? = some y → Op.bytesLess y.toList x.toList = true) (hgt : ∀ y,zs[k]? = some y → Op.bytesLess x.toList y.toList = true) : ¬ x ∈ zs:=fun hx => by
 obtain ⟨j,hj⟩:=List.getElem?_of_mem hx
 rcases Nat.lt_trichotomy j k with h1 | rfl | h1
 ·have h2:=hlt j x h1 hj;rw [less_irr] at h2
  cases h2
 ·have h2:=hgt x hj;rw [less_irr] at h2
  cases h2
 ·have hl:=(List.getElem?_eq_some_iff.1 hj).1;have hk : zs[k]? = some (zs[k]'(by omega)):=List.getElem?_eq_getElem _;have h2:=less_trans _ _ _ (h.risBy.lt h1 hk hj) (hgt _ hk);rw [less_irr] at h2
  cases h2
def TakeAns (x : ByteArray) (zs : List ByteArray) (w : World) (e : Ending) (w' : World) : Prop:=∃ a' l' c',e = .returned (.slice a' l' c') ∧ TxRow w' a' l' c' (wo (fun s : ByteArray => s) x zs) ∧ Below w.heap.size w w'
def TxF (n : Nat) (zs : List ByteArray) : Fact:=fun v w => ∃ a' c',v = .slice a' n c' ∧ TxRow w a' n c' zs
theorem TxF.mono (n : Nat) (zs : List ByteArray) : Fact.Mono (TxF n zs):=by
 rintro v w w' ⟨a',c',h1,h2⟩ hb;exact ⟨a',c',h1,h2.below hb⟩
theorem tx_rest {w : World} {b o len cap k : Nat} {zs : List ByteArray} (h : TxRow w (some ⟨b,o,none⟩) len cap zs) (hk : k ≤ len) (p : Nat) (hp : k < len → p = o + k) : TxRow w (some ⟨b,p,none⟩) (len - k) (cap - k) (zs.drop k):=by
 obtain ⟨h1,h2,h3,h4,h5⟩:=h;refine ⟨by rw [List.length_drop];omega,by omega,by omega,fun j x hx => ?_,?_⟩
 ·rw [List.getElem?_drop] at hx;exact h4 _ x hx
 ·by_cases hd : zs.drop k = []
  ·exact .inl hd
  ·have hkl : k < len:=Classical.byContradiction fun q => hd (List.drop_eq_nil_of_le (by omega))
   rcases h5 with rfl | ⟨b',o',e,hb,hc⟩
   ·exact absurd (by simp) hd
   ·cases e
    refine .inr ⟨b,p,rfl,hb,fun j x hx => ?_⟩;rw [List.getElem?_drop] at hx;rw [hp hkl,Nat.add_assoc];exact hc _ x hx

theorem itakeT_any (a : Option Addr) (len cap : Nat) (zs : List ByteArray) (x : ByteArray) (w : World) (hr : TxRow w a len cap zs) (hri : RT zs) (hl : len ≤ 64) (hx : x ∈ zs) :
  Calls Tryz.prog 59 #[.slice a len cap,.string x,.func (.func 60) #[] #[]] w (TakeAns x zs w):=by
 have HR:=hidK hr;have hzl : zs.length = len:=hr.1;have hlc : len ≤ cap:=hr.2.1;have hcm : cap ≤ 9223372036854775807:=hr.2.2.1;have HRI:=hidK hri;have HX:=hidK hx;obtain ⟨i0,hi,hz0,hz1,hz2⟩:=info_parts infoStr;have HI0:=hidK (And.intro hi (And.intro hz0 (And.intro hz1 hz2)));clear hi hz0 hz1 hz2;have HB:=hidK (Below.refl w.heap.size w);clear hr hri hx
 go_enter Tryz.func59,Tryz.ntmps59
 go_wp2_with fail;refine (ibsT_any a len cap zs x _ HR.out HRI.out hl).mono ?_;rintro e w1 ⟨k,f,rfl,hk,hlt,hfd,hb⟩;replace HB:=upB HB hb;clear hb
 rcases hfd with ⟨rfl,hxk⟩ | ⟨rfl,hgt⟩
 rotate_left
 ·exact absurd HX.out (bs_not HRI.out hlt hgt)
 have HWO : Hid (wo (fun s : ByteArray => s) x zs = zs.take k ++ zs.drop (k + 1)):=wo_erase HRI.out.risBy hxk rfl
 have hkl : k < len:=by have:=(List.getElem?_eq_some_iff.1 hxk).1;omega
 obtain ⟨b,o,t,rfl,-,-,-,-⟩:=HR.out.at hkl
 have hkc : k ≤ cap:=by omega
 have hkc2 : k + 1 ≤ cap:=by omega
 have hic : (k : Int) ≤ cap:=by omega
 have hil : (k : Int) + 1 ≤ len:=by omega
 have hi0 : (0 : Int) ≤ (k : Int) + 1:=by omega
 have hn1 : ((k : Int) + 1).toNat = k + 1:=by omega
 have hkk : (k : Int) ≤ (k : Int) + 1:=by omega
 have hwr : IntKind.i64.wrap ((k : Int) + 1) = (k : Int) + 1:=by simp only [IntKind.wrap,IntKind.bits,IntKind.signed];simp;omega
 clear hxk hlt hk
 by_cases hcap : cap = k + 1
 all_goals (
  go_wp2_with fail;rename_i K0 hK0;refine wp_region_grow_last (by kernel_rfl) rfl rfl (by kernel_rfl) ?_;refine' Grow.stepC _ rfl ?_ ?_;rotate_left 1
  ·refine Obl.plain rfl ?_;intro ac wg K hsz hW hf hK;clear hsz;have e0:=hf 0 (by decide)
   simp [slotFact,List.lookup] at e0
   clear hf;go_simp;refine hK _ _ (Below.refl _ _) ?_;with_reducible rfl
  refine' Grow.stepC _ rfl ?_ ?_;rotate_left 1
  ·refine Obl.plain rfl ?_;intro ac wg K hsz hW hf hK;clear hsz;have e7:=hf 7 (by decide)
   simp [slotFact,List.lookup] at e7
   clear hf;go_simp;refine hK _ _ (Below.refl _ _) ?_;with_reducible rfl
  refine' Grow.stepC _ rfl ?_ ?_;rotate_left 1
  ·refine Obl.plain rfl ?_;intro ac wg K hsz hW hf hK;clear hsz;have e7:=hf 7 (by decide)
   simp [slotFact,List.lookup] at e7
   clear hf;go_simp;refine hK _ _ (Below.refl _ _) ?_;with_reducible rfl
  refine' Grow.stepC _ rfl ?_ ?_;rotate_left 1
  ·refine Obl.plain rfl ?_;intro ac wg K hsz hW hf hK;clear hsz;have e19:=hf 19 (by decide)
   simp [slotFact,List.lookup] at e19
   have e20:=hf 20 (by decide)
   simp [slotFact,List.lookup] at e20
   have e21:=hf 21 (by decide)
   simp [slotFact,List.lookup] at e21
   clear hf;go_simp;refine hK _ _ (Below.refl _ _) ?_;with_reducible rfl
  refine' Grow.stepC _ rfl ?_ ?_;rotate_left 1
  ·refine Obl.plain rfl ?_;intro ac wg K hsz hW hf hK;clear hsz;have e0:=hf 0 (by decide)
   simp [slotFact,List.lookup] at e0
   clear hf;go_simp;refine hK _ _ (Below.refl _ _) ?_;with_reducible rfl
  refine' Grow.stepC _ rfl ?_ ?_;rotate_left 1
  ·refine Obl.plain rfl ?_;intro ac wg K hsz hW hf hK;clear hsz;have e7:=hf 7 (by decide)
   simp [slotFact,List.lookup] at e7
   clear hf;go_simp;refine hK _ _ (Below.refl _ _) ?_;with_reducible rfl
  refine' Grow.stepC _ rfl ?_ ?_;rotate_left 1
  ·refine Obl.plain rfl ?_;intro ac wg K hsz hW hf hK;clear hsz;have e24:=hf 24 (by decide)
   simp [slotFact,List.lookup] at e24
   clear hf;go_simp;refine hK _ _ (Below.refl _ _) ?_;with_reducible rfl
  refine' Grow.stepC _ rfl ?_ ?_;rotate_left 1
  ·refine Obl.plain rfl ?_;intro ac wg K hsz hW hf hK;clear hsz;have e23:=hf 23 (by decide)
   simp [slotFact,List.lookup] at e23
   have e25:=hf 25 (by decide)
   simp [slotFact,List.lookup] at e25
   clear hf;go_simp;refine hK _ _ (Below.refl _ _) ?_;with_reducible rfl
  refine Grow.step (TxF (k + (len - (k + 1))) (zs.take k ++ zs.drop (k + 1))) rfl (TxF.mono _ _) ?_ ?_
  ·refine Obl.plain rfl ?_;intro ac wg K hsz hW hf hK;clear hsz;have e22:=hf 22 (by decide)
   simp [slotFact,List.lookup] at e22
   have e26:=hf 26 (by decide)
   simp [slotFact,List.lookup] at e26
   clear hf;obtain ⟨p9,c9,e26',hc9,hp9⟩ : ∃ (p9 c9 : Nat),ac.tmps[26]?.getD undef = .slice (some ⟨b,p9,none⟩) (len - (k + 1)) c9 ∧ c9 = cap - (k + 1) ∧ (k + 1 < len → p9 = o + (k + 1)):=⟨_,_,e26,by omega,fun _ => by omega⟩;subst hc9;obtain ⟨v',w',a',c',hr,rfl,h2,h3⟩:=append_cut_tx wg 78 i0 HI0.out.1 HI0.out.2.1 HI0.out.2.2.1 HI0.out.2.2.2 _ _ k (len - (k + 1)) _ (zs.take k) (zs.drop (k + 1)) (by omega) (by omega) (tx_head (HR.out.below (HB.out.trans (hW.mono HB.out.size))) (Nat.le_of_lt hkl)) (tx_rest (HR.out.below (HB.out.trans (hW.mono HB.out.size))) (k:=k + 1) hkl p9 hp9);refine wp_append_run (.tmp 22) (.tmp 26) 78 rfl (by simpa [Act.eval] using e22) (by simpa [Act.eval] using e26') hr ?_;exact hK _ _ h3 ⟨a',c',rfl,h2⟩
  refine Grow.done ?_;intro q wz hW hf;simp only [List.forall_mem_cons] at hf;obtain ⟨h27,-⟩:=hf;have h27' : TxF (k + (len - (k + 1))) (zs.take k ++ zs.drop (k + 1)) (q 27) wz:=h27;obtain ⟨a',c',hv27,ht⟩:=h27';rw [← HWO.out] at ht;have HTX:=hidK ht;have HB7:=upB HB hW;clear ht h27 hW;intro K hK;rw [if_pos (by rfl)];simp only [putsAll,List.foldr,Act.put,List.setIfInBounds_toArray,List.set_cons_zero,List.set_cons_succ,hv27];simp only [List.getLast];go_simp;refine hK _ _ ?_;refine hK0 _ _ ?_;clear hK hK0 K K0
  go_wp2
  go_ret
  exact ⟨a',_,c',rfl,HTX.out,HB7.out⟩)

theorem iputT_any (a : Option Addr) (len cap : Nat) (zs : List ByteArray) (x : ByteArray) (w : World) (hr : TxRow w a len cap zs) (hri : RT zs) (hl : len ≤ 64) (hx : x.size ≤ 9223372036854775807) :
  Calls Tryz.prog 63 #[.slice a len cap,.string x,.func (.func 60) #[] #[]] w (PutAns x zs w):=by
 have HR:=hidK hr;have hzl : zs.length = len:=hr.1;have hlc : len ≤ cap:=hr.2.1;have hcm : cap ≤ 9223372036854775807:=hr.2.2.1;have HRI:=hidK hri;obtain ⟨i0,hi,hz0,hz1,hz2⟩:=info_parts infoStr;have HI0:=hidK (And.intro hi (And.intro hz0 (And.intro hz1 hz2)));clear hi hz0 hz1 hz2
 have HC : Hid (∀ (j : Nat) u,(zs.map Value.string)[j]? = some u → ∃ b o,a = some ⟨b,o,none⟩ ∧ w.cell? ⟨b,o + j,none⟩ = some u):=fun j u hu => by
  rw [List.getElem?_map,Option.map_eq_some_iff] at hu;obtain ⟨z,hz,rfl⟩:=hu;obtain ⟨b,o,y,rfl,hb,hy,hc,hsz⟩:=hr.at (k:=j) (by have:=(List.getElem?_eq_some_iff.1 hz).1;omega);rw [hz] at hy
  cases hy
  exact ⟨b,o,rfl,hc⟩
 have HZS : Hid (∀ (k j : Nat) z,(zs.take k ++ [x] ++ zs.drop k)[j]? = some z → z.size ≤ 9223372036854775807):=fun k j z hz => by
  have h1:=List.mem_of_getElem? hz;simp only [List.mem_append,List.mem_singleton] at h1
  rcases h1 with (h1 | rfl) | h1
  ·obtain ⟨i,hi⟩:=List.getElem?_of_mem (List.mem_of_mem_take h1);exact hr.2.2.2.1 i z hi
  ·exact hx
  ·obtain ⟨i,hi⟩:=List.getElem?_of_mem (List.mem_of_mem_drop h1);exact hr.2.2.2.1 i z hi
 have HB:=hidK (Below.refl w.heap.size w);clear hr hri hx
 go_enter Tryz.func63,Tryz.ntmps63
 go_wp2_with fail;refine (ibsT_any a len cap zs x _ HR.out HRI.out hl).mono ?_;rintro e w1 ⟨k,f,rfl,hk,hlt,hfd,hb⟩;replace HB:=upB HB hb;clear hb;have HLT:=hidK hlt;clear hlt
 rcases hfd with ⟨rfl,hxk⟩ | ⟨rfl,hgt⟩
 ·have HP : Hid (Put x zs zs):=.inl ⟨List.mem_of_getElem? hxk,rfl⟩;clear hxk
  go_wp2
  go_ret;exact ⟨_,_,_,_,rfl,HR.out.below HB.out,HP.out,HB.out⟩
 have HP : Hid (Put x zs (zs.take k ++ [x] ++ zs.drop k)):=.inr ⟨k,hk,rfl,HLT.out,hgt⟩
 have hkl : k ≤ len:=by omega
 have hkc : k ≤ cap:=by omega
 have hik : (k : Int) ≤ len:=by omega
 have hic : (k : Int) ≤ cap:=by omega
 clear hgt hk HLT
 rcases a with _ | ⟨b2,f2,sp⟩
 ·have hl0 : len = 0:=Classical.byContradiction fun hne0 => by
   have h1 : (zs.map Value.string)[0]? = some (.string (zs[0]'(by omega))):=by rw [List.getElem?_map,List.getElem?_eq_getElem (by omega)];rfl
   obtain ⟨g,o,e,_⟩:=HC.out _ _ h1
   cases e
  obtain rfl : k = 0:=by omega
  subst hl0
  by_cases hcap : cap = 0
  all_goals (
   go_wp2_with fail;rename_i K0 hK0;refine Gi.wp_region_grow_last (R:=Rt w1.heap.size 28) (ex:=fun q => if q = 24 then some 28 else none) (Rt.rel _ _) (by kernel_rfl) rfl rfl (by kernel_rfl) (by kernel_rfl) ?_;refine' Gi.Grow.stepC _ rfl ?_ ?_;rotate_left 1
   ·refine Gi.Obl.plain rfl ?_;intro ac wg K lo hi hsz hW hpr hf hap hK;clear hsz hap hpr;have hW : Lt w1.heap.size w1 wg:=hW;have e0:=hf 0 (by decide)
    simp [Gi.slotFact,List.lookup] at e0
    clear hf;go_simp;refine hK _ _ (Rt.other (by decide) (Below.refl _ _)) ?_;with_reducible rfl
   refine' Gi.Grow.stepC _ rfl ?_ ?_;rotate_left 1
   ·refine Gi.Obl.plain rfl ?_;intro ac wg K lo hi hsz hW hpr hf hap hK;clear hsz hap hpr;have hW : Lt w1.heap.size w1 wg:=hW;have e7:=hf 7 (by decide)
    simp [Gi.slotFact,List.lookup] at e7
    clear hf;go_simp;refine hK _ _ (Rt.other (by decide) (Below.refl _ _)) ?_;with_reducible rfl
   refine' Gi.Grow.stepC _ rfl ?_ ?_;rotate_left 1
   ·refine Gi.Obl.plain rfl ?_;intro ac wg K lo hi hsz hW hpr hf hap hK;clear hsz hap hpr;have hW : Lt w1.heap.size w1 wg:=hW;have e7:=hf 7 (by decide)
    simp [Gi.slotFact,List.lookup] at e7
    clear hf;go_simp;refine hK _ _ (Rt.other (by decide) (Below.refl _ _)) ?_;with_reducible rfl
   refine' Gi.Grow.stepC _ rfl ?_ ?_;rotate_left 1
   ·refine Gi.Obl.plain rfl ?_;intro ac wg K lo hi hsz hW hpr hf hap hK;clear hsz hap hpr;have hW : Lt w1.heap.size w1 wg:=hW;have e18:=hf 18 (by decide)
    simp [Gi.slotFact,List.lookup] at e18
    have e19:=hf 19 (by decide)
    simp [Gi.slotFact,List.lookup] at e19
    have e20:=hf 20 (by decide)
    simp [Gi.slotFact,List.lookup] at e20
    clear hf;go_simp;refine hK _ _ (Rt.other (by decide) (Below.refl _ _)) ?_;with_reducible rfl
   refine' Gi.Grow.stepC _ rfl ?_ ?_;rotate_left 1
   ·refine Gi.Obl.plain rfl ?_;intro ac wg K lo hi hsz hW hpr hf hap hK;clear hsz hap hpr;have hW : Lt w1.heap.size w1 wg:=hW;have e1:=hf 1 (by decide)
    simp [Gi.slotFact,List.lookup] at e1
    clear hf;go_simp;refine hK _ _ (Rt.other (by decide) (Below.refl _ _)) ?_;with_reducible rfl
   refine Gi.Grow.step (B1T x) rfl (B1T.mono) ?_ ?_
   ·refine Gi.Obl.plain rfl ?_;intro ac wg K lo hi hsz hW hpr hf hap hK;clear hsz hap hpr;have hW : Lt w1.heap.size w1 wg:=hW;have e22:=hf 22 (by decide)
    simp [Gi.slotFact,List.lookup] at e22
    clear hf;go_simp;exact hK _ _ (Rt.other (by decide) (below1 _ _)) ⟨_,rfl,Array.getElem?_push_size⟩
   refine Gi.Grow.step (OwT w1.heap.size (0 + 1) ((zs.take 0).map Value.string ++ [.string x])) rfl (OwT.mono (.inr rfl)) ?_ ?_
   ·refine Gi.Obl.plain rfl ?_;intro ac wg K lo hi hsz hW hpr hf hap hK;clear hsz hap hpr;have hW : Lt w1.heap.size w1 wg:=hW;have e21:=hf 21 (by decide)
    simp [Gi.slotFact,List.lookup] at e21
    have e23:=hf 23 (by decide)
    simp [Gi.slotFact,List.lookup] at e23
    clear hf
    have HCG : Hid (∀ (j : Nat) u,(zs.map Value.string)[j]? = some u → ∃ b o,(none : Option Addr) = some ⟨b,o,none⟩ ∧ wg.cell? ⟨b,o + j,none⟩ = some u):=fun j u hj => by
     obtain ⟨b,o,e,h3⟩:=HC.out j u hj;exact ⟨b,o,e,(cell_below (HB.out.trans (hW.low.mono HB.out.size)) (World.block_lt_of_cell? _ _ h3)).trans h3⟩
    obtain ⟨b5,e23,hg5⟩:=e23
    obtain ⟨v',w',hr,h2,h3⟩:=run_append_cut wg 78 78 9 i0 (.string ⟨#[]⟩) 1 16 Tryz.underlying78 HI0.out.1 HI0.out.2.1 HI0.out.2.2.1 HI0.out.2.2.2 rfl none 0 ((zs.take 0).map Value.string) (by rw [List.length_map,List.length_take];omega) (fun e => Classical.byContradiction fun hne => by
     have h1 : (zs.map Value.string)[0]? = some (.string (zs[0]'(by omega))):=by rw [List.getElem?_map,List.getElem?_eq_getElem (by omega)];rfl
     obtain ⟨g,o,e',_⟩:=HC.out _ _ h1;rw [e] at e'
     cases e') (fun j u hu => by
     rw [List.map_take,List.getElem?_take] at hu
     split at hu
     ·obtain ⟨g,o,e',h3⟩:=HCG.out _ _ hu;exact ⟨_,e',by rw [Addr.add_lit];exact h3⟩
     ·cases hu) ⟨b5,0,none⟩ 1 1 [.string x] (by decide) rfl (news_blk hg5) (by unfold maxLen;omega) (by omega)
    refine wp_append_run (.tmp 21) (.tmp 23) 78 rfl (by simpa [Act.eval] using e21) (by simpa [Act.eval] using e23) hr ?_;refine hK _ _ (Rt.other (by decide) h3) ?_;obtain ⟨h4,h5⟩:=h2;refine ⟨h4,h5.imp id ?_⟩;rintro ⟨g,cap',cur,h6,h7,h8⟩;exact ⟨g,cap',cur,h6,Nat.le_trans hW.size h7,h8⟩
   refine' Gi.Grow.stepC _ rfl ?_ ?_;rotate_left 1
   ·refine Gi.Obl.plain rfl ?_;intro ac wg K lo hi hsz hW hpr hf hap hK;clear hsz hap hpr;have hW : Lt w1.heap.size w1 wg:=hW;have e0:=hf 0 (by decide)
    simp [Gi.slotFact,List.lookup] at e0
    clear hf;go_simp;refine hK _ _ (Rt.other (by decide) (Below.refl _ _)) ?_;with_reducible rfl
   refine' Gi.Grow.stepC _ rfl ?_ ?_;rotate_left 1
   ·refine Gi.Obl.plain rfl ?_;intro ac wg K lo hi hsz hW hpr hf hap hK;clear hsz hap hpr;have hW : Lt w1.heap.size w1 wg:=hW;have e7:=hf 7 (by decide)
    simp [Gi.slotFact,List.lookup] at e7
    clear hf;go_simp;refine hK _ _ (Rt.other (by decide) (Below.refl _ _)) ?_;with_reducible rfl
   refine' Gi.Grow.stepC _ rfl ?_ ?_;rotate_left 1
   ·refine Gi.Obl.plain rfl ?_;intro ac wg K lo hi hsz hW hpr hf hap hK;clear hsz hap hpr;have hW : Lt w1.heap.size w1 wg:=hW;have e25:=hf 25 (by decide)
    simp [Gi.slotFact,List.lookup] at e25
    have e26:=hf 26 (by decide)
    simp [Gi.slotFact,List.lookup] at e26
    clear hf;go_simp;refine hK _ _ (Rt.other (by decide) (Below.refl _ _)) ?_;with_reducible rfl
   refine Gi.Grow.step (OwT w1.heap.size (0 + 1) ((zs.take 0 ++ [x] ++ zs.drop 0).map Value.string)) rfl (OwT.mono (.inl rfl)) ?_ ?_
   ·refine Gi.Obl.plain rfl ?_;intro ac wg K lo hi hsz hW hpr hf hap hK;clear hsz hap;have hW : Lt w1.heap.size w1 wg:=hW;have e24:=hf 24 (by decide)
    simp [Gi.slotFact,List.lookup] at e24
    have e27:=hf 27 (by decide)
    simp [Gi.slotFact,List.lookup] at e27
    clear hf
    have HCG : Hid (∀ (j : Nat) u,(zs.map Value.string)[j]? = some u → ∃ b o,(none : Option Addr) = some ⟨b,o,none⟩ ∧ wg.cell? ⟨b,o + j,none⟩ = some u):=fun j u hj => by
     obtain ⟨b,o,e,h3⟩:=HC.out j u hj;exact ⟨b,o,e,(cell_below (HB.out.trans (hW.low.mono HB.out.size)) (World.block_lt_of_cell? _ _ h3)).trans h3⟩
    have hbW : Below w1.heap.size w1 wg:=hpr rfl;clear hpr
    have e24' : wg.ownsRow w1.heap.size 9 1 (ac.tmps.getD 24 undef) (0 + 1) ((zs.take 0).map Value.string ++ [.string x]):=by simpa [OwT] using e24
    obtain ⟨u4,hu4⟩ : ∃ u4,u4 = ac.tmps.getD 24 undef:=⟨_,rfl⟩;obtain ⟨ax,c9,e27',hax⟩ : ∃ (ax : Option Addr) (c9 : Nat),ac.tmps[27]?.getD undef = .slice ax (0 - 0) c9 ∧ (∀ (j : Nat) u,((zs.drop 0).map Value.string)[j]? = some u → ∃ ad : Addr,ax = some ad ∧ wg.cell? (ad.add j) = some u):=⟨_,_,e27,fun j u hu => by first | (rw [List.drop_eq_nil_of_le (by omega)] at hu;simp at hu;done) | (rw [List.map_drop,List.getElem?_drop] at hu;obtain ⟨g,o,e',h3⟩:=HCG.out _ _ hu;cases e' <;> exact ⟨_,rfl,by simp only [Addr.add_lit];rw [Nat.add_assoc];exact h3⟩)⟩;rw [← hu4] at e24';obtain ⟨v',w',hr,h2,h3⟩:=run_append_lt wg w1.heap.size 78 78 9 i0 (.string ⟨#[]⟩) 16 Tryz.underlying78 HI0.out.1 HI0.out.2.1 HI0.out.2.2.1 HI0.out.2.2.2 rfl u4 (0 + 1) ((zs.take 0).map Value.string ++ [.string x]) (by omega) e24' ax (0 - 0) c9 ((zs.drop 0).map Value.string) (by rw [List.length_map,List.length_drop];omega) hax (fun u hu => by obtain ⟨z,_,rfl⟩:=List.mem_map.1 hu;rfl) (by unfold maxLen;omega) (by omega) (by have:=hW.size;omega);refine wp_append_run (.tmp 24) (.tmp 27) 78 rfl (by simpa [Act.eval] using hu4.symm) (by simpa [Act.eval] using e27') hr ?_;refine hK _ _ (Rt.this h3) ?_
    show w'.ownsRow _ _ _ _ _ _
    have e9 : 0 + 1 + (0 - 0) = 0 + 1:=by omega
    rw [e9] at h2
    simpa using h2
   refine Gi.Grow.done ?_;intro q wz lo hi hW hf hap;clear hap;have hW : Lt w1.heap.size w1 wz:=hW;simp only [List.forall_mem_cons] at hf;obtain ⟨h28,-⟩:=hf;have h28 : wz.ownsRow w1.heap.size 9 1 (q 28) (0 + 1) ((zs.take 0 ++ [x] ++ zs.drop 0).map Value.string):=h28 (by first | trivial | rfl);obtain ⟨v8,hv8⟩ : ∃ v8,q 28 = v8:=⟨_,rfl⟩;rw [hv8] at h28;have HB7:=hidK (HB.out.trans (hW.low.mono HB.out.size));obtain ⟨a',c',rfl,hR⟩:=own_tx h28 (HZS.out 0);have HR7:=hidK hR;clear h28 hR hW;intro K hK;rw [if_pos (by rfl)];simp only [Gi.putsAll,List.foldr,Act.put,List.setIfInBounds_toArray,List.set_cons_zero,List.set_cons_succ,hv8];simp only [List.getLast];go_simp;refine hK _ _ ?_;refine hK0 _ _ ?_;clear hK hK0 K K0
   go_wp2
   go_ret
   exact ⟨a',_,c',_,rfl,HR7.out,HP.out,HB7.out⟩)
 by_cases hcap : cap = k
 all_goals (
  go_wp2_with fail;rename_i K0 hK0;refine Gi.wp_region_grow_last (R:=Rt w1.heap.size 28) (ex:=fun q => if q = 24 then some 28 else none) (Rt.rel _ _) (by kernel_rfl) rfl rfl (by kernel_rfl) (by kernel_rfl) ?_;refine' Gi.Grow.stepC _ rfl ?_ ?_;rotate_left 1
  ·refine Gi.Obl.plain rfl ?_;intro ac wg K lo hi hsz hW hpr hf hap hK;clear hsz hap hpr;have hW : Lt w1.heap.size w1 wg:=hW;have e0:=hf 0 (by decide)
   simp [Gi.slotFact,List.lookup] at e0
   clear hf;go_simp;refine hK _ _ (Rt.other (by decide) (Below.refl _ _)) ?_;with_reducible rfl
  refine' Gi.Grow.stepC _ rfl ?_ ?_;rotate_left 1
  ·refine Gi.Obl.plain rfl ?_;intro ac wg K lo hi hsz hW hpr hf hap hK;clear hsz hap hpr;have hW : Lt w1.heap.size w1 wg:=hW;have e7:=hf 7 (by decide)
   simp [Gi.slotFact,List.lookup] at e7
   clear hf;go_simp;refine hK _ _ (Rt.other (by decide) (Below.refl _ _)) ?_;with_reducible rfl
  refine' Gi.Grow.stepC _ rfl ?_ ?_;rotate_left 1
  ·refine Gi.Obl.plain rfl ?_;intro ac wg K lo hi hsz hW hpr hf hap hK;clear hsz hap hpr;have hW : Lt w1.heap.size w1 wg:=hW;have e7:=hf 7 (by decide)
   simp [Gi.slotFact,List.lookup] at e7
   clear hf;go_simp;refine hK _ _ (Rt.other (by decide) (Below.refl _ _)) ?_;with_reducible rfl
  refine' Gi.Grow.stepC _ rfl ?_ ?_;rotate_left 1
  ·refine Gi.Obl.plain rfl ?_;intro ac wg K lo hi hsz hW hpr hf hap hK;clear hsz hap hpr;have hW : Lt w1.heap.size w1 wg:=hW;have e18:=hf 18 (by decide)
   simp [Gi.slotFact,List.lookup] at e18
   have e19:=hf 19 (by decide)
   simp [Gi.slotFact,List.lookup] at e19
   have e20:=hf 20 (by decide)
   simp [Gi.slotFact,List.lookup] at e20
   clear hf;go_simp;refine hK _ _ (Rt.other (by decide) (Below.refl _ _)) ?_;with_reducible rfl
  refine' Gi.Grow.stepC _ rfl ?_ ?_;rotate_left 1
  ·refine Gi.Obl.plain rfl ?_;intro ac wg K lo hi hsz hW hpr hf hap hK;clear hsz hap hpr;have hW : Lt w1.heap.size w1 wg:=hW;have e1:=hf 1 (by decide)
   simp [Gi.slotFact,List.lookup] at e1
   clear hf;go_simp;refine hK _ _ (Rt.other (by decide) (Below.refl _ _)) ?_;with_reducible rfl
  refine Gi.Grow.step (B1T x) rfl (B1T.mono) ?_ ?_
  ·refine Gi.Obl.plain rfl ?_;intro ac wg K lo hi hsz hW hpr hf hap hK;clear hsz hap hpr;have hW : Lt w1.heap.size w1 wg:=hW;have e22:=hf 22 (by decide)
   simp [Gi.slotFact,List.lookup] at e22
   clear hf;go_simp;exact hK _ _ (Rt.other (by decide) (below1 _ _)) ⟨_,rfl,Array.getElem?_push_size⟩
  refine Gi.Grow.step (OwT w1.heap.size (k + 1) ((zs.take k).map Value.string ++ [.string x])) rfl (OwT.mono (.inr rfl)) ?_ ?_
  ·refine Gi.Obl.plain rfl ?_;intro ac wg K lo hi hsz hW hpr hf hap hK;clear hsz hap hpr;have hW : Lt w1.heap.size w1 wg:=hW;have e21:=hf 21 (by decide)
   simp [Gi.slotFact,List.lookup] at e21
   have e23:=hf 23 (by decide)
   simp [Gi.slotFact,List.lookup] at e23
   clear hf
   have HCG : Hid (∀ (j : Nat) u,(zs.map Value.string)[j]? = some u → ∃ b o,(some ⟨b2,f2,sp⟩ : Option Addr) = some ⟨b,o,none⟩ ∧ wg.cell? ⟨b,o + j,none⟩ = some u):=fun j u hj => by
    obtain ⟨b,o,e,h3⟩:=HC.out j u hj;exact ⟨b,o,e,(cell_below (HB.out.trans (hW.low.mono HB.out.size)) (World.block_lt_of_cell? _ _ h3)).trans h3⟩
   obtain ⟨b5,e23,hg5⟩:=e23
   obtain ⟨v',w',hr,h2,h3⟩:=run_append_cut wg 78 78 9 i0 (.string ⟨#[]⟩) 1 16 Tryz.underlying78 HI0.out.1 HI0.out.2.1 HI0.out.2.2.1 HI0.out.2.2.2 rfl (some ⟨b2,f2,sp⟩ : Option Addr) k ((zs.take k).map Value.string) (by rw [List.length_map,List.length_take];omega) (fun e => Classical.byContradiction fun hne => by
    have h1 : (zs.map Value.string)[0]? = some (.string (zs[0]'(by omega))):=by rw [List.getElem?_map,List.getElem?_eq_getElem (by omega)];rfl
    obtain ⟨g,o,e',_⟩:=HC.out _ _ h1;rw [e] at e'
    cases e') (fun j u hu => by
    rw [List.map_take,List.getElem?_take] at hu
    split at hu
    ·obtain ⟨g,o,e',h3⟩:=HCG.out _ _ hu;exact ⟨_,e',by rw [Addr.add_lit];exact h3⟩
    ·cases hu) ⟨b5,0,none⟩ 1 1 [.string x] (by decide) rfl (news_blk hg5) (by unfold maxLen;omega) (by omega)
   refine wp_append_run (.tmp 21) (.tmp 23) 78 rfl (by simpa [Act.eval] using e21) (by simpa [Act.eval] using e23) hr ?_;refine hK _ _ (Rt.other (by decide) h3) ?_;obtain ⟨h4,h5⟩:=h2;refine ⟨h4,h5.imp id ?_⟩;rintro ⟨g,cap',cur,h6,h7,h8⟩;exact ⟨g,cap',cur,h6,Nat.le_trans hW.size h7,h8⟩
  refine' Gi.Grow.stepC _ rfl ?_ ?_;rotate_left 1
  ·refine Gi.Obl.plain rfl ?_;intro ac wg K lo hi hsz hW hpr hf hap hK;clear hsz hap hpr;have hW : Lt w1.heap.size w1 wg:=hW;have e0:=hf 0 (by decide)
   simp [Gi.slotFact,List.lookup] at e0
   clear hf;go_simp;refine hK _ _ (Rt.other (by decide) (Below.refl _ _)) ?_;with_reducible rfl
  refine' Gi.Grow.stepC _ rfl ?_ ?_;rotate_left 1
  ·refine Gi.Obl.plain rfl ?_;intro ac wg K lo hi hsz hW hpr hf hap hK;clear hsz hap hpr;have hW : Lt w1.heap.size w1 wg:=hW;have e7:=hf 7 (by decide)
   simp [Gi.slotFact,List.lookup] at e7
   clear hf;go_simp;refine hK _ _ (Rt.other (by decide) (Below.refl _ _)) ?_;with_reducible rfl
  refine' Gi.Grow.stepC _ rfl ?_ ?_;rotate_left 1
  ·refine Gi.Obl.plain rfl ?_;intro ac wg K lo hi hsz hW hpr hf hap hK;clear hsz hap hpr;have hW : Lt w1.heap.size w1 wg:=hW;have e25:=hf 25 (by decide)
   simp [Gi.slotFact,List.lookup] at e25
   have e26:=hf 26 (by decide)
   simp [Gi.slotFact,List.lookup] at e26
   clear hf;go_simp;refine hK _ _ (Rt.other (by decide) (Below.refl _ _)) ?_;with_reducible rfl
  refine Gi.Grow.step (OwT w1.heap.size (len + 1) ((zs.take k ++ [x] ++ zs.drop k).map Value.string)) rfl (OwT.mono (.inl rfl)) ?_ ?_
  ·refine Gi.Obl.plain rfl ?_;intro ac wg K lo hi hsz hW hpr hf hap hK;clear hsz hap;have hW : Lt w1.heap.size w1 wg:=hW;have e24:=hf 24 (by decide)
   simp [Gi.slotFact,List.lookup] at e24
   have e27:=hf 27 (by decide)
   simp [Gi.slotFact,List.lookup] at e27
   clear hf
   have HCG : Hid (∀ (j : Nat) u,(zs.map Value.string)[j]? = some u → ∃ b o,(some ⟨b2,f2,sp⟩ : Option Addr) = some ⟨b,o,none⟩ ∧ wg.cell? ⟨b,o + j,none⟩ = some u):=fun j u hj => by
    obtain ⟨b,o,e,h3⟩:=HC.out j u hj;exact ⟨b,o,e,(cell_below (HB.out.trans (hW.low.mono HB.out.size)) (World.block_lt_of_cell? _ _ h3)).trans h3⟩
   have hbW : Below w1.heap.size w1 wg:=hpr rfl;clear hpr
   have e24' : wg.ownsRow w1.heap.size 9 1 (ac.tmps.getD 24 undef) (k + 1) ((zs.take k).map Value.string ++ [.string x]):=by simpa [OwT] using e24
   obtain ⟨u4,hu4⟩ : ∃ u4,u4 = ac.tmps.getD 24 undef:=⟨_,rfl⟩;obtain ⟨ax,c9,e27',hax⟩ : ∃ (ax : Option Addr) (c9 : Nat),ac.tmps[27]?.getD undef = .slice ax (len - k) c9 ∧ (∀ (j : Nat) u,((zs.drop k).map Value.string)[j]? = some u → ∃ ad : Addr,ax = some ad ∧ wg.cell? (ad.add j) = some u):=⟨_,_,e27,fun j u hu => by first | (rw [List.drop_eq_nil_of_le (by omega)] at hu;simp at hu;done) | (rw [List.map_drop,List.getElem?_drop] at hu;obtain ⟨g,o,e',h3⟩:=HCG.out _ _ hu;cases e' <;> exact ⟨_,rfl,by simp only [Addr.add_lit];rw [Nat.add_assoc];exact h3⟩)⟩;rw [← hu4] at e24';obtain ⟨v',w',hr,h2,h3⟩:=run_append_lt wg w1.heap.size 78 78 9 i0 (.string ⟨#[]⟩) 16 Tryz.underlying78 HI0.out.1 HI0.out.2.1 HI0.out.2.2.1 HI0.out.2.2.2 rfl u4 (k + 1) ((zs.take k).map Value.string ++ [.string x]) (by omega) e24' ax (len - k) c9 ((zs.drop k).map Value.string) (by rw [List.length_map,List.length_drop];omega) hax (fun u hu => by obtain ⟨z,_,rfl⟩:=List.mem_map.1 hu;rfl) (by unfold maxLen;omega) (by omega) (by have:=hW.size;omega);refine wp_append_run (.tmp 24) (.tmp 27) 78 rfl (by simpa [Act.eval] using hu4.symm) (by simpa [Act.eval] using e27') hr ?_;refine hK _ _ (Rt.this h3) ?_
   show w'.ownsRow _ _ _ _ _ _
   have e9 : k + 1 + (len - k) = len + 1:=by omega
   rw [e9] at h2
   simpa using h2
  refine Gi.Grow.done ?_;intro q wz lo hi hW hf hap;clear hap;have hW : Lt w1.heap.size w1 wz:=hW;simp only [List.forall_mem_cons] at hf;obtain ⟨h28,-⟩:=hf;have h28 : wz.ownsRow w1.heap.size 9 1 (q 28) (len + 1) ((zs.take k ++ [x] ++ zs.drop k).map Value.string):=h28 (by first | trivial | rfl);obtain ⟨v8,hv8⟩ : ∃ v8,q 28 = v8:=⟨_,rfl⟩;rw [hv8] at h28;have HB7:=hidK (HB.out.trans (hW.low.mono HB.out.size));obtain ⟨a',c',rfl,hR⟩:=own_tx h28 (HZS.out k);have HR7:=hidK hR;clear h28 hR hW;intro K hK;rw [if_pos (by rfl)];simp only [Gi.putsAll,List.foldr,Act.put,List.setIfInBounds_toArray,List.set_cons_zero,List.set_cons_succ,hv8];simp only [List.getLast];go_simp;refine hK _ _ ?_;refine hK0 _ _ ?_;clear hK hK0 K K0
  go_wp2
  go_ret
  exact ⟨a',_,c',_,rfl,HR7.out,HP.out,HB7.out⟩)

end Rc
end Go.Proofs.YtkljbgdikmpjfaaGreatDoor

namespace Go.Proofs.YtkljbgdikmpjfaaGreatDoor
open Go.RowKit

def lays156_ren : Go.Shelf.Ren:=⟨fun | 156 => 114 | 165 => 171 | 166 => 172 | 169 => 173 | 240 => 189 | 241 => 190 | 276 => 195 | 277 => 196 | n => n,fun | 31 => 78 | 9 => 9 | 3 => 3 | 4 => 4 | 0 => 0 | 20 => 20 | 72 => 183 | 76 => 185 | 70 => 181 | 37 => 126 | 75 => 85 | 127 => 201 | 164 => 214 | 5 => 5 | 80 => 177 | n => n,fun | n => n⟩

theorem lays156 : Go.Proofs.Lays.n156 Tryz.prog lays156_ren:={
 mixed:=by kernel_rfl
 f156:=Tryz.func114.trans (congrArg some (by kernel_rfl))
 f165:=Tryz.func171.trans (congrArg some (by kernel_rfl))
 f166:=Tryz.func172.trans (congrArg some (by kernel_rfl))
 f169:=Tryz.func173.trans (congrArg some (by kernel_rfl))
 f240:=Tryz.func189.trans (congrArg some (by kernel_rfl))
 f241:=Tryz.func190.trans (congrArg some (by kernel_rfl))
 f276:=Tryz.func195.trans (congrArg some (by kernel_rfl))
 f277:=Tryz.func196.trans (congrArg some (by kernel_rfl))
 t0:=Tryz.underlying0
 a0:=Tryz.isAgg0
 z0:=Tryz.sizeOf0
 v0:=Tryz.zeroValue0
 t3:=Tryz.underlying3
 a3:=Tryz.isAgg3
 z3:=Tryz.sizeOf3
 v3:=Tryz.zeroValue3
 t4:=Tryz.underlying4
 a4:=Tryz.isAgg4
 z4:=Tryz.sizeOf4
 v4:=Tryz.zeroValue4
 t9:=Tryz.underlying9
 a9:=Tryz.isAgg9
 z9:=Tryz.sizeOf9
 v9:=Tryz.zeroValue9
 t20:=Tryz.underlying20
 a20:=Tryz.isAgg20
 z20:=Tryz.sizeOf20
 v20:=Tryz.zeroValue20
 t31:=Tryz.underlying78
 a31:=Tryz.isAgg78
 z31:=Tryz.sizeOf78
 v31:=Tryz.zeroValue78
 t37:=Tryz.underlying126
 a37:=Tryz.isAgg126
 z37:=Tryz.sizeOf126
 v37:=Tryz.zeroValue126
 t70:=Tryz.underlying181
 a70:=Tryz.isAgg181
 z70:=Tryz.sizeOf181
 v70:=Tryz.zeroValue181
 t72:=Tryz.underlying183
 a72:=Tryz.isAgg183
 z72:=Tryz.sizeOf183
 v72:=Tryz.zeroValue183
 t75:=Tryz.underlying85
 a75:=Tryz.isAgg85
 z75:=Tryz.sizeOf85
 v75:=Tryz.zeroValue85
 t76:=Tryz.underlying185
 a76:=Tryz.isAgg185
 z76:=Tryz.sizeOf185
 v76:=Tryz.zeroValue185
 t127:=Tryz.underlying201
 a127:=Tryz.isAgg201
 z127:=Tryz.sizeOf201
 v127:=Tryz.zeroValue201
 t164:=Tryz.underlying214
 a164:=Tryz.isAgg214
 z164:=Tryz.sizeOf214
 v164:=Tryz.zeroValue214 }

theorem join_extra : Builder.Extra Tryz.prog lays156_ren:={
 sizeBuilder:=by kernel_rfl
 liesBuilder:=by kernel_rfl
 t5:=Tryz.underlying5
 a5:=Tryz.isAgg5
 z5:=Tryz.sizeOf5
 v5:=Tryz.zeroValue5
 infoByte:=by kernel_rfl
 cellsByte:=by kernel_rfl
 sizeByte:=by kernel_rfl
 neB5:=by decide }

def wordsOf (xs : List ByteArray) : ByteArray:=⟨(Lib.join (xs.map (·.data.toList)) [32]).toArray⟩

theorem worded_any (bk o c : Nat) (xs : List ByteArray) (n : Nat) (w : World) (hcells : ∀ (j : Nat) x,xs[j]? = some x → w.cell? ⟨bk,o + j,none⟩ = some (.string x)) (hbk : bk < w.heap.size) (hn : xs.length = n) (hN : n ≤ 1000) (hcap : n ≤ c)
  (hlen : (Lib.join (xs.map (·.data.toList)) [32]).length ≤ 140737488355328) :
  Calls Tryz.prog 61 #[.slice (some ⟨bk,o,none⟩) n c] w fun e w' => e = .returned (.string (wordsOf xs)) ∧ Below w.heap.size w w':=by
 subst hn;have HJ : Hid (Calls Tryz.prog 114 #[.slice (some ⟨bk,o,none⟩) xs.length c,.string ⟨#[32]⟩] w fun e w' => e = .returned (.string (wordsOf xs)) ∧ Below w.heap.size w w'):=Any.strings_Join lays156 join_extra bk o c xs ⟨#[32]⟩ w hcells hbk (by omega) hcap hlen;clear hcells hbk hN hcap hlen
 go_enter Tryz.func61,Tryz.ntmps61
 go_wp2_with fail;refine HJ.out.mono ?_;rintro e w1 ⟨rfl,hb⟩;go_wp2_with fail;go_ret;exact ⟨rfl,hb⟩

namespace Gs

def FMono (SR : World → World → Prop) (φ : Fact) : Prop:=φ.Mono ∧ ∀ v w w',φ v w → SR w w' → φ v w'
theorem fmono_eq (SR : World → World → Prop) (c : Value) : FMono SR (fun v _ => v = c):=⟨Fact.mono_eq c,fun _ _ _ h _ => h⟩
def StObl (SR : World → World → Prop) (t4 : Tmp) (Ψ : Fact) (P : Program) (ops : Array Oper) (Q : Exit → Act → World → Prop) (W : World) (a0 : Act) (known : List (Tmp × Fact)) (o : Oper) : Prop :=
 ∀ (a : Act) (w : World) (K : Act → World → Prop),a.tmps.size = a0.tmps.size → Below W.heap.size W w → (∀ t ∈ o.looksAt ops,slotFact a0 known a w t) →
  (∀ v w',SR w w' → Ψ (a.tmps.getD t4 undef) w' → K (a.put o.dst v) w') → if Region.wanted o (yielded ops a.tmps) = true then o.wp P a w K Q else K (a.put o.dst undef) w
theorem StObl.plain {SR : World → World → Prop} {t4 : Tmp} {Ψ : Fact} {P : Program} {ops : Array Oper} {Q : Exit → Act → World → Prop} {W : World} {a0 : Act} {known : List (Tmp × Fact)} {o : Oper} (hg : o.guard = none)
  (h : ∀ (a : Act) (w : World) (K : Act → World → Prop),a.tmps.size = a0.tmps.size → Below W.heap.size W w → (∀ t ∈ looksOf o,slotFact a0 known a w t) → (∀ v w',SR w w' → Ψ (a.tmps.getD t4 undef) w' → K (a.put o.dst v) w') → o.wp P a w K Q) : StObl SR t4 Ψ P ops Q W a0 known o:=by
 intro a w K h1 h2 h3 h4
 have hw : Region.wanted o (yielded ops a.tmps) = true:=by simp [Region.wanted,hg]
 rw [if_pos hw];exact h a w K h1 h2 (fun t ht => h3 t (by unfold Oper.looksAt;exact List.mem_append_left _ ht)) h4
def Fin (t4 : Tmp) (Ψ : Fact) (P : Program) (ops : Array Oper) (Q : Exit → Act → World → Prop) (W : World) (a0 : Act) (back : Option Oper) (known : List (Tmp × Fact)) : Prop :=
 ∀ (x : Tmp → Value) (w : World),Below W.heap.size W w → (∀ p ∈ known,p.2 (x p.1) w) → Ψ ((putsAll a0 known x).tmps.getD t4 undef) w → lastStep P ops Q back (putsAll a0 known x) w
def Grow (SR : World → World → Prop) (t4 : Tmp) (Ψ : Fact) (P : Program) (ops : Array Oper) (Q : Exit → Act → World → Prop) (W : World) (a0 : Act) (back : Option Oper) : List Oper → List (Tmp × Fact) → Prop
 | [],known => Fin t4 Ψ P ops Q W a0 back known
 | o :: rest,known => ∃ φ : Fact,FMono SR φ ∧ (¬ o.dst = none → Obl P ops Q W a0 known o φ) ∧ (o.dst = none → StObl SR t4 Ψ P ops Q W a0 known o) ∧ Grow SR t4 Ψ P ops Q W a0 back rest (kn o.dst φ known)
section
variable {SR : World → World → Prop} {t4 : Tmp} {Ψ : Fact} {P : Program} {ops : Array Oper} {Q : Exit → Act → World → Prop} {W : World} {a0 : Act} {back : Option Oper}
theorem Grow.step {o : Oper} {rest : List Oper} {known : List (Tmp × Fact)} {t : Tmp} (φ : Fact) (hd : o.dst = some t) (hφ : FMono SR φ) (ho : Obl P ops Q W a0 known o φ)
  (h : Grow SR t4 Ψ P ops Q W a0 back rest ((t,φ) :: known)) : Grow SR t4 Ψ P ops Q W a0 back (o :: rest) known:=⟨φ,hφ,fun _ => ho,fun e => (by rw [hd] at e;cases e),(by rw [hd];exact h)⟩
theorem Grow.stepC {o : Oper} {rest : List Oper} {known : List (Tmp × Fact)} {t : Tmp} (c : Value) (hd : o.dst = some t) (ho : Obl P ops Q W a0 known o (fun v _ => v = c))
  (h : Grow SR t4 Ψ P ops Q W a0 back rest ((t,fun v _ => v = c) :: known)) : Grow SR t4 Ψ P ops Q W a0 back (o :: rest) known:=Grow.step _ hd (fmono_eq SR c) ho h
theorem Grow.store {o : Oper} {rest : List Oper} {known : List (Tmp × Fact)} (hd : o.dst = none) (ho : StObl SR t4 Ψ P ops Q W a0 known o)
  (h : Grow SR t4 Ψ P ops Q W a0 back rest known) : Grow SR t4 Ψ P ops Q W a0 back (o :: rest) known:=⟨fun v _ => v = undef,fmono_eq SR undef,fun e => absurd hd e,fun _ => ho,(by rw [hd];exact h)⟩
theorem Grow.done {known : List (Tmp × Fact)} (h : Fin t4 Ψ P ops Q W a0 back known) : Grow SR t4 Ψ P ops Q W a0 back [] known:=h
def growB (t4 : Tmp) (n : Nat) (front : List Oper) (back : Option Oper) : Bool :=
 let ops:=(front ++ back.toList).toArray
 decide ((front.filterMap (·.dst)).Nodup) && front.all (fun o => match o.dst with | some t => decide (t < n) | none => decide (t4 ∈ looksOf o)) &&
 (List.range front.length).all (fun j => match front[j]? with
  | some o => (o.looksAt ops).all (fun t => (List.range front.length).all fun i => match front[i]? with
    | some p => p.dst != some t || (decide (i < j) && o.after.any fun e => e.on == i && Region.binds .any e)
    | none => true)
  | none => true) &&
 (List.range ops.size).all (fun j => match ops[j]? with | some o => o.after.all (fun e => !Region.binds .any e || decide (e.on < j)) | none => true) &&
 (match back with | some o => (List.range front.length).all (fun i => o.after.any fun e => e.on == i && Region.binds .any e) | none => true) && front.any (fun o => o.dst.isNone)
theorem growB_spec {n : Nat} {front : List Oper} {back : Option Oper} (h : growB t4 n front back = true) :
  (front.filterMap (·.dst)).Nodup ∧ (∀ o ∈ front,∀ t,o.dst = some t → t < n) ∧ (∀ o ∈ front,o.dst = none → t4 ∈ looksOf o) ∧
  (∀ (j : Nat) (o : Oper),front[j]? = some o → ∀ t ∈ o.looksAt (front ++ back.toList).toArray,∀ (i : Nat) (p : Oper),front[i]? = some p → p.dst = some t → i < j ∧ ∃ e ∈ o.after,e.on = i ∧ Region.binds .any e = true) ∧
  (∀ (j : Nat) o,(front ++ back.toList).toArray[j]? = some o → ∀ e ∈ o.after,Region.binds .any e = true → e.on < j) ∧
  (∀ o,back = some o → ∀ i,i < front.length → ∃ e ∈ o.after,e.on = i ∧ Region.binds .any e = true) ∧ ∃ (i : Nat) (o : Oper),front[i]? = some o ∧ o.dst = none:=by
 unfold growB at h;simp only [Bool.and_eq_true,decide_eq_true_eq] at h;obtain ⟨⟨⟨⟨⟨h1,h2⟩,h3⟩,h4⟩,h5⟩,h6⟩:=h;refine ⟨h1,?_,?_,?_,?_,?_,?_⟩
 ·intro o ho t ht;have:=List.all_eq_true.1 h2 o ho;rw [ht] at this
  simpa using this
 ·intro o ho ht;have:=List.all_eq_true.1 h2 o ho;rw [ht] at this
  simpa using this
 ·intro j o ho t ht i p hp hd;have hj : j < front.length:=(List.getElem?_eq_some_iff.1 ho).1;have hi : i < front.length:=(List.getElem?_eq_some_iff.1 hp).1;have:=List.all_eq_true.1 h3 j (List.mem_range.2 hj);rw [ho] at this;have:=List.all_eq_true.1 this t ht;have:=List.all_eq_true.1 this i (List.mem_range.2 hi);rw [hp] at this;simp only [hd,bne_self_eq_false,Bool.false_or,Bool.and_eq_true,decide_eq_true_eq] at this;obtain ⟨h6,h7⟩:=this;obtain ⟨k,hk,hx⟩:=Array.any_eq_true.1 h7;simp only [Bool.and_eq_true,beq_iff_eq] at hx;exact ⟨h6,_,Array.getElem_mem hk,hx.1,hx.2⟩
 ·intro j o ho e he hbe;have hj : j < (front ++ back.toList).toArray.size:=(Array.getElem?_eq_some_iff.1 ho).1;have:=List.all_eq_true.1 h4 j (List.mem_range.2 hj);rw [ho] at this;have:=Array.all_eq_true.1 this;obtain ⟨k,hk,rfl⟩:=Array.mem_iff_getElem.1 he;have h9:=this k hk;rw [hbe] at h9
  simpa using h9
 ·intro o ho i hi;subst ho;have:=List.all_eq_true.1 h5 i (List.mem_range.2 hi);obtain ⟨k,hk,hx⟩:=Array.any_eq_true.1 this;simp only [Bool.and_eq_true,beq_iff_eq] at hx;exact ⟨_,Array.getElem_mem hk,hx.1,hx.2⟩
 ·obtain ⟨o,ho,hx⟩:=List.any_eq_true.1 h6;obtain ⟨i,hi⟩:=List.getElem?_of_mem ho;exact ⟨i,o,hi,by simpa using hx⟩

theorem Grow.spec : ∀ (l : List Oper) (known : List (Tmp × Fact)),Grow SR t4 Ψ P ops Q W a0 back l known → ∃ φs : List Fact,φs.length = l.length ∧
  (∀ (i : Nat) (o : Oper) (φ : Fact),l[i]? = some o → φs[i]? = some φ → FMono SR φ ∧ (¬ o.dst = none → Obl P ops Q W a0 (knAll known (l.take i) (φs.take i)) o φ) ∧ (o.dst = none → StObl SR t4 Ψ P ops Q W a0 (knAll known (l.take i) (φs.take i)) o)) ∧ Fin t4 Ψ P ops Q W a0 back (knAll known l φs)
 | [],known,h => ⟨[],rfl,fun i o φ h => by simp at h,by rw [knAll_nil];exact h⟩
 | o :: l,known,h => by
  obtain ⟨φ,hφ,ho,ho2,hr⟩:=h;obtain ⟨φs,hl,hs,hf⟩:=Grow.spec l _ hr;refine ⟨φ :: φs,by simp [hl],?_,hf⟩;intro i o' φ' h1 h2
  cases i with
  | zero =>
   simp only [List.getElem?_cons_zero,Option.some.injEq] at h1 h2;subst h1;subst h2;exact ⟨hφ,ho,ho2⟩
  | succ i =>
   simp only [List.getElem?_cons_succ] at h1 h2
   simpa [knAll] using hs i o' φ' h1 h2

theorem all_listed {listed : Array Bool} (hs : listed.size = ops.size) (hlt : ∀ (j : Nat) o,ops[j]? = some o → ∀ e ∈ o.after,Region.binds .any e = true → e.on < j) (hr : Region.ready .any ops listed = []) : ∀ i,i < ops.size → listed.getD i false = true:=by
 intro i
 induction i using Nat.strongRecOn with
 | _ i ih =>
  intro hi
  cases hb : listed.getD i false with
  | true => rfl
  | false =>
   have ho : ops[i]? = some ops[i]:=Array.getElem?_eq_getElem hi;have hm : i ∈ Region.ready .any ops listed:=mem_ready.2 ⟨by rw [← getD_ft (by omega)];exact hb,_,ho,fun e he hbe => ih e.on (hlt i _ ho e he hbe) (Nat.lt_trans (hlt i _ ho e he hbe) hi)⟩;rw [hr] at hm
   cases hm

structure At (t4 : Tmp) (Ψ : Fact) (front : List Oper) (φs : List Fact) (W : World) (a0 : Act) (listed : Array Bool) (a : Act) (w : World) : Prop where
 old : Go.Proofs.YtkljbgdikmpjfaaGreatDoor.At front φs W a0 listed a w
 sto : ∀ (i : Nat) (o : Oper),front[i]? = some o → o.dst = none → listed.getD i false = true → Ψ (a.tmps.getD t4 undef) w ∧ ∀ (i' : Nat) (p : Oper),front[i']? = some p → p.dst = some t4 → listed.getD i' false = true

theorem set_true {listed : Array Bool} {i j : Nat} (h : listed.getD i false = true) : (listed.setIfInBounds j true).getD i false = true:=by
 by_cases e : j = i
 ·subst e;simp only [Array.getD_eq_getD_getElem?,Array.getElem?_setIfInBounds]
  split
  ·split
   ·rfl
   ·simp [Array.getD_eq_getD_getElem?] at h
    next hx =>
     have : listed[j]? = none:=Array.getElem?_eq_none_iff.2 (by omega);rw [this] at h
     cases h
  ·contradiction
 ·simpa [Array.getD_eq_getD_getElem?,Array.getElem?_setIfInBounds,e] using h
theorem set_of_ne {listed : Array Bool} {i j : Nat} (e : ¬ j = i) (h : (listed.setIfInBounds j true).getD i false = true) : listed.getD i false = true:=by
 simpa [Array.getD_eq_getD_getElem?,Array.getElem?_setIfInBounds,e] using h

theorem At.step {front : List Oper} {φs : List Fact} {listed : Array Bool} {a : Act} {w w' : World} {j : Nat} {o : Oper} {φ : Fact} {v : Value} (hΨ : Ψ.Mono) (h : At t4 Ψ front φs W a0 listed a w)
  (hn : (front.filterMap (·.dst)).Nodup) (hin : ∀ o ∈ front,∀ t,o.dst = some t → t < a0.tmps.size) (hmono : ∀ (i : Nat) (o : Oper) (φ : Fact),front[i]? = some o → φs[i]? = some φ → FMono SR φ)
  (ho : front[j]? = some o) (hφ : φs[j]? = some φ) (hj : j < listed.size) (hun : listed.getD j false = false) (hd : ¬ o.dst = none) (hb : Below w.heap.size w w') (hv : φ v w') : At t4 Ψ front φs W a0 (listed.setIfInBounds j true) (a.put o.dst v) w':=by
 refine ⟨h.old.step hn hin (fun i o φ h1 h2 => (hmono i o φ h1 h2).1) ho hφ hj hb hv,fun i p hp hpd hl => ?_⟩
 have hij : ¬ j = i:=fun e => by subst e;obtain rfl:=Option.some.inj (ho.symm.trans hp);exact hd hpd
 obtain ⟨h1,h2⟩:=h.sto i p hp hpd (set_of_ne hij hl);refine ⟨?_,fun i' p' hp' hd' => set_true (h2 i' p' hp' hd')⟩
 cases ht : o.dst with
 | none => exact absurd ht hd
 | some d =>
  rw [getD_put,if_neg (fun hx => ?_)]
  ·exact hΨ _ _ _ h1 hb
  ·have h3:=h2 j o ho (ht.trans (by rw [hx.1]));rw [hun] at h3
   cases h3
theorem At.store {front : List Oper} {φs : List Fact} {listed : Array Bool} {a : Act} {w w' : World} {j : Nat} {o : Oper} {v : Value} (hSR : ∀ {a b},SR a b → Below W.heap.size a b) (h : At t4 Ψ front φs W a0 listed a w)
  (hmono : ∀ (i : Nat) (o : Oper) (φ : Fact),front[i]? = some o → φs[i]? = some φ → FMono SR φ) (hone : ∀ (i : Nat) (p : Oper),front[i]? = some p → p.dst = some t4 → listed.getD i false = true)
  (ho : front[j]? = some o) (hd : o.dst = none) (hb : SR w w') (hv : Ψ (a.tmps.getD t4 undef) w') : At t4 Ψ front φs W a0 (listed.setIfInBounds j true) (a.put o.dst v) w':=by
 have e : a.put o.dst v = a:=by rw [hd];rfl
 rw [e]
 have hne : ∀ (i : Nat) (p : Oper) t,front[i]? = some p → p.dst = some t → ¬ j = i:=fun i p t hp ht e => by
  subst e;obtain rfl:=Option.some.inj (ho.symm.trans hp);rw [hd] at ht
  cases ht
 refine ⟨⟨h.old.size,h.old.defers,h.old.below.trans (hSR hb),fun i p ψ hp hψ t ht hl => ?_,fun t ht => ?_⟩,fun i p hp hpd hl => ⟨hv,fun i' p' hp' hd' => set_true (hone i' p' hp' hd')⟩⟩
 ·exact (hmono i p ψ hp hψ).2 _ _ _ (h.old.known i p ψ hp hψ t ht (set_of_ne (hne i p t hp ht) hl)) hb
 ·refine h.old.other t (fun i p hp hpd => ?_);have h1:=ht i p hp hpd;have e9:=hne i p t hp hpd
  simpa [Array.getD_eq_getD_getElem?,Array.getElem?_setIfInBounds,e9] using h1

theorem Fin.last {front : List Oper} {φs : List Fact} {listed : Array Bool} {a : Act} {w : World} (hf : Fin t4 Ψ P ops Q W a0 back (knAll [] front φs)) (hlen : φs.length = front.length) (hin : ∀ o ∈ front,∀ t,o.dst = some t → t < a0.tmps.size) (hst : ∃ (i : Nat) (o : Oper),front[i]? = some o ∧ o.dst = none)
  (h : At t4 Ψ front φs W a0 listed a w) (hall : ∀ i,i < front.length → listed.getD i false = true) : lastStep P ops Q back a w:=by
 obtain ⟨i,o,hi,hd⟩:=hst;have hΨ:=(h.sto i o hi hd (hall i (List.getElem?_eq_some_iff.1 hi).1)).1;have h9 : ∃ x,a = putsAll a0 (knAll [] front φs) x ∧ ∀ p ∈ knAll [] front φs,p.2 (x p.1) w:=Go.Proofs.YtkljbgdikmpjfaaGreatDoor.Fin.last (P:=P) (ops:=ops) (Q:=fun _ a' w' => ∃ x,a' = putsAll a0 (knAll [] front φs) x ∧ ∀ p ∈ knAll [] front φs,p.2 (x p.1) w') (back:=none) (fun x _ _ h2 => ⟨x,rfl,h2⟩) hlen hin h.old hall;obtain ⟨x,e,h2⟩:=h9;have h3:=hf x w h.old.below h2 (by rw [← e];exact hΨ);rw [← e] at h3;exact h3
theorem wpAny_grow {front : List Oper} {φs : List Fact} (hΨ : Ψ.Mono) (hSR : ∀ {a b},SR a b → Below W.heap.size a b) (hops : ops = (front ++ back.toList).toArray) (hB : growB t4 a0.tmps.size front back = true) (hlen : φs.length = front.length)
  (hs : ∀ (i : Nat) (o : Oper) (φ : Fact),front[i]? = some o → φs[i]? = some φ → FMono SR φ ∧ (¬ o.dst = none → Obl P ops Q W a0 (knAll [] (front.take i) (φs.take i)) o φ) ∧ (o.dst = none → StObl SR t4 Ψ P ops Q W a0 (knAll [] (front.take i) (φs.take i)) o)) (hf : Fin t4 Ψ P ops Q W a0 back (knAll [] front φs)) :
  ∀ (fuel : Nat) (listed : Array Bool) (a : Act) (w : World),listed.size = ops.size → listed.toList.count false ≤ fuel → (∀ o,back = some o → listed.getD front.length false = false) → At t4 Ψ front φs W a0 listed a w → wpAny P .any ops Q fuel listed a w:=by
 obtain ⟨hn,hin,hlk,hdep,hlt,hback,hst⟩:=growB_spec hB;rw [← hops] at hdep hlt
 have hsz : ops.size = front.length + back.toList.length:=by rw [hops];simp
 -- all have come up
 have hend : ∀ (listed : Array Bool) (a : Act) (w : World),listed.size = ops.size → (∀ i,i < ops.size → listed.getD i false = true) → (∀ o,back = some o → listed.getD front.length false = false) → At t4 Ψ front φs W a0 listed a w → Q .normal a w:=by
  intro listed a w hz hall hb h;have h1:=hf.last hlen hin hst h (fun i hi => hall i (by omega))
  cases hk : back with
  | none => rw [hk] at h1;exact h1
  | some o =>
   have h2:=hb o hk;rw [hall _ (by rw [hsz,hk];simp)] at h2
   cases h2
 intro fuel
 induction fuel with
 | zero =>
  intro listed a w hz hc hb h;have hall : ∀ i,i < ops.size → listed.getD i false = true:=fun i hi => no_false (by omega) i (by omega);refine ⟨?_,hend listed a w hz hall hb h⟩
  cases hr : Region.ready .any ops listed with
  | nil => rfl
  | cons j js =>
   have hm : j ∈ Region.ready .any ops listed:=by rw [hr];simp
   obtain ⟨h1,o,ho,-⟩:=mem_ready.1 hm;have hj:=(Array.getElem?_eq_some_iff.1 ho).1;rw [← getD_ft (by omega),hall j hj] at h1
   cases h1
 | succ fuel ih =>
  intro listed a w hz hc hb h;refine ⟨fun hr => hend listed a w hz (all_listed hz hlt hr) hb h,fun j hj => ?_⟩;obtain ⟨hun,o,ho,hall⟩:=mem_ready.1 hj;have hjs : j < ops.size:=(Array.getElem?_eq_some_iff.1 ho).1;have hcs:=count_set (listed:=listed) (i:=j) (by omega) hun
  by_cases hjf : j < front.length
  ·have hof : front[j]? = some o:=by rw [hops] at ho;simpa [List.getElem?_append_left hjf] using ho
   have hφ : φs[j]? = some (φs[j]'(by omega)):=List.getElem?_eq_getElem _;obtain ⟨hm,hob,hob2⟩:=hs j o _ hof hφ
   have hfacts : ∀ t ∈ o.looksAt ops,slotFact a0 (knAll [] (front.take j) (φs.take j)) a w t:=by
    intro t ht;unfold slotFact
    cases hk : (knAll [] (front.take j) (φs.take j)).lookup t with
    | some φ =>
     rcases lookup_some _ _ _ hk with ⟨i,p,h1,h2,h3⟩ | h1
     ·have hij : i < j:=by have:=(List.getElem?_eq_some_iff.1 h1).1;simp at this;omega
      rw [List.getElem?_take,if_pos hij] at h1 h3;obtain ⟨-,e,he,hon,hbi⟩:=hdep j o hof t ht i p h1 h2;have hl:=hall e he hbi;rw [hon] at hl;exact h.old.known i p φ h1 h3 t h2 hl
     ·simp at h1
    | none =>
     refine h.old.other t (fun i p hp hd => ?_)
     exfalso
     obtain ⟨hij,-⟩:=hdep j o hof t ht i p hp hd;have hi:=(List.getElem?_eq_some_iff.1 hp).1;exact (lookup_none _ _ _ hk).2 i p (φs[i]'(by omega)) (by rw [List.getElem?_take,if_pos hij];exact hp) (by rw [List.getElem?_take,if_pos hij];exact List.getElem?_eq_getElem _) hd
   have hnext : ∀ o',back = some o' → (listed.setIfInBounds j true).getD front.length false = false:=fun o' ho' => by
    have h2:=hb o' ho'
    have e : ¬ j = front.length:=by omega
    simpa [Array.getD_eq_getD_getElem?,Array.getElem?_setIfInBounds,e] using h2
   have h1 : if Region.wanted o (yielded ops a.tmps) = true then o.wp P a w (wpAny P .any ops Q fuel (listed.setIfInBounds j true)) Q else wpAny P .any ops Q fuel (listed.setIfInBounds j true) (a.put o.dst undef) w:=by
    by_cases hd : o.dst = none
    ·refine hob2 hd a w _ h.old.size h.old.below hfacts (fun v w' hsr hv => ?_);refine ih _ _ _ (by simpa using hz) (by omega) hnext (h.store hSR (fun i o φ h1 h2 => (hs i o φ h1 h2).1) (fun i p hp hpd => ?_) hof hd hsr hv)
     have hlook : t4 ∈ o.looksAt ops:=by unfold Oper.looksAt;exact List.mem_append_left _ (hlk o (List.mem_of_getElem? hof) hd)
     obtain ⟨-,e,he,hon,hbi⟩:=hdep j o hof t4 hlook i p hp hpd;have hl:=hall e he hbi;rw [hon] at hl;exact hl
    ·exact hob hd a w _ h.old.size h.old.below hfacts (fun v w' hbw hv => ih _ _ _ (by simpa using hz) (by omega) hnext (h.step hΨ hn hin (fun i o φ h1 h2 => (hs i o φ h1 h2).1) hof hφ (by omega) (by rw [getD_ft (by omega)];exact hun) hd hbw hv))
   unfold wpOp;rw [ho]
   simp only
   split
   ·rename_i hw;rw [if_pos hw] at h1;exact .inl h1
   ·rename_i hw;rw [if_neg hw] at h1;exact h1
  ·cases hk : back with
   | none => rw [hk] at hsz;simp at hsz;omega
   | some b =>
    have hjn : j = front.length:=by rw [hk] at hsz;simp at hsz;omega
    subst hjn
    have hob : o = b:=by
     rw [hops,hk] at ho
     simp at ho
     exact ho.symm
    subst hob
    have hfl : ∀ i,i < front.length → listed.getD i false = true:=fun i hi => by
     obtain ⟨e,he,hon,hbi⟩:=hback o hk i hi;have:=hall e he hbi
     rwa [hon] at this
    have h1:=hf.last hlen hin hst h hfl;rw [hk] at h1
    have h2:=h1 (wpAny P .any ops Q fuel (listed.setIfInBounds front.length true)) (fun a' w' hq => by
     have hr : Region.ready .any ops (listed.setIfInBounds front.length true) = []:=by
      cases hr : Region.ready .any ops (listed.setIfInBounds front.length true) with
      | nil => rfl
      | cons i is =>
       have hm : i ∈ Region.ready .any ops (listed.setIfInBounds front.length true):=by rw [hr];simp
       obtain ⟨h3,o',ho',-⟩:=mem_ready.1 hm;have hi:=(Array.getElem?_eq_some_iff.1 ho').1
       exfalso
       by_cases e : front.length = i
       ·subst e
        simp [Array.getD_eq_getD_getElem?,show front.length < listed.size from by omega] at h3
       ·have h4:=hfl i (by rw [hk] at hsz;simp at hsz;omega);rw [getD_ft (by omega)] at h4
        simp [Array.getD_eq_getD_getElem?,e] at h3 h4
        rw [h3] at h4
        cases h4
     cases fuel with
     | zero => exact ⟨hr,hq⟩
     | succ fuel => exact ⟨fun _ => hq,fun i hi => by rw [hr] at hi;cases hi⟩)
    unfold wpOp;rw [ho]
    simp only
    split
    ·rename_i hw;rw [if_pos hw] at h2;exact .inl h2
    ·rename_i hw;rw [if_neg hw] at h2;exact h2
end
theorem wp_region_grow_last {SR : World → World → Prop} (t4 : Tmp) (Ψ : Fact) {P : Program} {id : Nat} {Q : Exit → Act → World → Prop} {a0 : Act} {W : World} {l : List Oper} {front : List Oper} {last : Oper} (hΨ : Ψ.Mono) (hSR : ∀ {a b},SR a b → Below W.heap.size a b) (hm : P.follows .mixedOrders = true) (hf : l.dropLast = front) (hb : l.getLast? = some last) (hB : growB t4 a0.tmps.size front (some last) = true)
  (h : Grow SR t4 Ψ P l.toArray Q W a0 (some last) front []) : (Code.region id l.toArray true).wp P Q a0 W:=by
 obtain ⟨φs,hlen,hs,hfi⟩:=Grow.spec _ _ h
 have hl : l = front ++ (some last).toList:=by
  obtain ⟨l',rfl⟩:=List.getLast?_eq_some_iff.1 hb;rw [← hf]
  simp
 refine wp_region_any hm (wpAny_grow hΨ hSR (by rw [hl]) hB hlen hs hfi _ _ _ _ (by simp) ?_ (fun o ho => ?_) ⟨⟨rfl,rfl,(Below.refl _ _).drew,fun i o φ h1 h2 t ht hx => ?_,fun t _ => rfl⟩,fun i o h1 h2 hx => ?_⟩)
 ·have:=List.count_le_length (a:=false) (l:=(Array.replicate l.toArray.size false).toList)
  simp at this ⊢
 ·exact repl_false _ _
 ·rw [repl_false] at hx;cases hx
 ·rw [repl_false] at hx;cases hx
structure Form (W w w' : World) : Prop where
 low : Below W.heap.size w w'
 form : ∀ (k : Nat) (cs : Array Value) (T : TypeId),w.heap[k]? = some (.cells cs T (0,0)) → ∃ cs',cs'.size = cs.size ∧ w'.heap[k]? = some (.cells cs' T (0,0))
end Gs
namespace Gt

def growB (n : Nat) (front : List Oper) (back : Option Oper) : Bool :=
 let ops:=(front ++ back.toList).toArray
 decide ((front.filterMap (·.dst)).Nodup) && front.all (fun o => match o.dst with | some t => decide (t < n) | none => true) &&
 (List.range front.length).all (fun j => match front[j]? with
  | some o => (o.looksAt ops).all (fun t => (List.range front.length).all fun i => match front[i]? with
    | some p => p.dst != some t || (decide (i < j) && o.after.any fun e => e.on == i && Region.binds .any e)
    | none => true)
  | none => true) &&
 (List.range ops.size).all (fun j => match ops[j]? with | some o => o.after.all (fun e => decide (e.on < j)) | none => true) &&
 (match back with | some o => (List.range front.length).all (fun i => o.after.any fun e => Region.binds .any e && (e.on == i || match front[e.on]? with | some p => p.after.any (fun e' => e'.on == i && Region.binds .any e') | none => false)) | none => true)

section
variable {P : Program} {ops : Array Oper} {Q : Exit → Act → World → Prop} {W : World} {a0 : Act} {back : Option Oper}
theorem growB_spec {n : Nat} {front : List Oper} {back : Option Oper} (h : growB n front back = true) :
  (front.filterMap (·.dst)).Nodup ∧ (∀ o ∈ front,∀ t,o.dst = some t → t < n) ∧
  (∀ (j : Nat) (o : Oper),front[j]? = some o → ∀ t ∈ o.looksAt (front ++ back.toList).toArray,∀ (i : Nat) (p : Oper),front[i]? = some p → p.dst = some t → i < j ∧ ∃ e ∈ o.after,e.on = i ∧ Region.binds .any e = true) ∧
  (∀ (j : Nat) o,(front ++ back.toList).toArray[j]? = some o → ∀ e ∈ o.after,e.on < j) ∧
  (∀ o,back = some o → ∀ i,i < front.length → ∃ e ∈ o.after,Region.binds .any e = true ∧ (e.on = i ∨ ∃ p,front[e.on]? = some p ∧ ∃ e' ∈ p.after,e'.on = i ∧ Region.binds .any e' = true)):=by
 unfold growB at h;simp only [Bool.and_eq_true,decide_eq_true_eq] at h;obtain ⟨⟨⟨⟨h1,h2⟩,h3⟩,h4⟩,h5⟩:=h;refine ⟨h1,?_,?_,?_,?_⟩
 ·intro o ho t ht;have:=List.all_eq_true.1 h2 o ho;rw [ht] at this
  simpa using this
 ·intro j o ho t ht i p hp hd;have hj : j < front.length:=(List.getElem?_eq_some_iff.1 ho).1;have hi : i < front.length:=(List.getElem?_eq_some_iff.1 hp).1;have:=List.all_eq_true.1 h3 j (List.mem_range.2 hj);rw [ho] at this;have:=List.all_eq_true.1 this t ht;have:=List.all_eq_true.1 this i (List.mem_range.2 hi);rw [hp] at this;simp only [hd,bne_self_eq_false,Bool.false_or,Bool.and_eq_true,decide_eq_true_eq] at this;obtain ⟨h6,h7⟩:=this;obtain ⟨k,hk,hx⟩:=Array.any_eq_true.1 h7;simp only [Bool.and_eq_true,beq_iff_eq] at hx;exact ⟨h6,_,Array.getElem_mem hk,hx.1,hx.2⟩
 ·intro j o ho e he;have hj : j < (front ++ back.toList).toArray.size:=(Array.getElem?_eq_some_iff.1 ho).1;have:=List.all_eq_true.1 h4 j (List.mem_range.2 hj);rw [ho] at this;have:=Array.all_eq_true.1 this;obtain ⟨k,hk,rfl⟩:=Array.mem_iff_getElem.1 he
  simpa using this k hk
 ·intro o ho i hi;subst ho;have:=List.all_eq_true.1 h5 i (List.mem_range.2 hi);obtain ⟨k,hk,hx⟩:=Array.any_eq_true.1 this;simp only [Bool.and_eq_true,Bool.or_eq_true,beq_iff_eq] at hx;refine ⟨_,Array.getElem_mem hk,hx.1,hx.2.imp id fun h9 => ?_⟩
  split at h9
  ·next p hp =>
   obtain ⟨k',hk',hx'⟩:=Array.any_eq_true.1 h9;simp only [Bool.and_eq_true,beq_iff_eq] at hx';exact ⟨p,hp,_,Array.getElem_mem hk',hx'.1,hx'.2⟩
  ·cases h9

structure Ac (front : List Oper) (φs : List Fact) (W : World) (a0 : Act) (listed : Array Bool) (a : Act) (w : World) : Prop where
 old : At front φs W a0 listed a w
 cl : ∀ (j : Nat) (o : Oper),front[j]? = some o → listed.getD j false = true → ∀ e ∈ o.after,Region.binds .any e = true → listed.getD e.on false = true
theorem wpAny_grow {front : List Oper} {φs : List Fact} (hops : ops = (front ++ back.toList).toArray) (hB : growB a0.tmps.size front back = true) (hlen : φs.length = front.length)
  (hs : ∀ (i : Nat) (o : Oper) (φ : Fact),front[i]? = some o → φs[i]? = some φ → φ.Mono ∧ Obl P ops Q W a0 (knAll [] (front.take i) (φs.take i)) o φ) (hf : Fin P ops Q W a0 back (knAll [] front φs)) :
  ∀ (fuel : Nat) (listed : Array Bool) (a : Act) (w : World),listed.size = ops.size → listed.toList.count false ≤ fuel → (∀ o,back = some o → listed.getD front.length false = false) → Ac front φs W a0 listed a w → wpAny P .any ops Q fuel listed a w:=by
 obtain ⟨hn,hin,hdep,hlt,hback⟩:=growB_spec hB;rw [← hops] at hdep hlt
 have hsz : ops.size = front.length + back.toList.length:=by rw [hops];simp
 -- all have come up
 have hend : ∀ (listed : Array Bool) (a : Act) (w : World),listed.size = ops.size → (∀ i,i < ops.size → listed.getD i false = true) → (∀ o,back = some o → listed.getD front.length false = false) → Ac front φs W a0 listed a w → Q .normal a w:=by
  intro listed a w hz hall hb h;have h1:=Fin.last hf hlen hin h.old (fun i hi => hall i (by omega))
  cases hk : back with
  | none => rw [hk] at h1;exact h1
  | some o =>
   have h2:=hb o hk;rw [hall _ (by rw [hsz,hk];simp)] at h2
   cases h2
 intro fuel
 induction fuel with
 | zero =>
  intro listed a w hz hc hb h;have hall : ∀ i,i < ops.size → listed.getD i false = true:=fun i hi => no_false (by omega) i (by omega);refine ⟨?_,hend listed a w hz hall hb h⟩
  cases hr : Region.ready .any ops listed with
  | nil => rfl
  | cons j js =>
   have hm : j ∈ Region.ready .any ops listed:=by rw [hr];simp
   obtain ⟨h1,o,ho,-⟩:=mem_ready.1 hm;have hj:=(Array.getElem?_eq_some_iff.1 ho).1;rw [← getD_ft (by omega),hall j hj] at h1
   cases h1
 | succ fuel ih =>
  intro listed a w hz hc hb h;refine ⟨fun hr => hend listed a w hz (all_listed hz hlt hr) hb h,fun j hj => ?_⟩;obtain ⟨hun,o,ho,hall⟩:=mem_ready.1 hj;have hjs : j < ops.size:=(Array.getElem?_eq_some_iff.1 ho).1;have hcs:=count_set (listed:=listed) (i:=j) (by omega) hun
  by_cases hjf : j < front.length
  ·have hof : front[j]? = some o:=by rw [hops] at ho;simpa [List.getElem?_append_left hjf] using ho
   have hφ : φs[j]? = some (φs[j]'(by omega)):=List.getElem?_eq_getElem _;obtain ⟨hm,hob⟩:=hs j o _ hof hφ
   have hfacts : ∀ t ∈ o.looksAt ops,slotFact a0 (knAll [] (front.take j) (φs.take j)) a w t:=by
    intro t ht;unfold slotFact
    cases hk : (knAll [] (front.take j) (φs.take j)).lookup t with
    | some φ =>
     rcases lookup_some _ _ _ hk with ⟨i,p,h1,h2,h3⟩ | h1
     ·have hij : i < j:=by have:=(List.getElem?_eq_some_iff.1 h1).1;simp at this;omega
      rw [List.getElem?_take,if_pos hij] at h1 h3;obtain ⟨-,e,he,hon,hbi⟩:=hdep j o hof t ht i p h1 h2;have hl:=hall e he hbi;rw [hon] at hl;exact h.old.known i p φ h1 h3 t h2 hl
     ·simp at h1
    | none =>
     refine h.old.other t (fun i p hp hd => ?_)
     exfalso
     obtain ⟨hij,-⟩:=hdep j o hof t ht i p hp hd;have hi:=(List.getElem?_eq_some_iff.1 hp).1;exact (lookup_none _ _ _ hk).2 i p (φs[i]'(by omega)) (by rw [List.getElem?_take,if_pos hij];exact hp) (by rw [List.getElem?_take,if_pos hij];exact List.getElem?_eq_getElem _) hd
   have h1:=hob a w (wpAny P .any ops Q fuel (listed.setIfInBounds j true)) h.old.size h.old.below hfacts (fun v w' hbw hv => by
    refine ih _ _ _ (by simpa using hz) (by omega) (fun o' ho' => ?_) ⟨h.old.step hn hin (fun i o φ h1 h2 => (hs i o φ h1 h2).1) hof hφ (by omega) hbw hv,fun j' o' ho' hl e he hbe => (by
     by_cases ej : j = j'
     ·subst ej;obtain rfl : o = o':=Option.some.inj (hof.symm.trans ho');exact Gs.set_true (hall e he hbe)
     ·exact Gs.set_true (h.cl j' o' ho' (Gs.set_of_ne ej hl) e he hbe))⟩
    have h2:=hb o' ho'
    have e : ¬ j = front.length:=by omega
    simpa [Array.getD_eq_getD_getElem?,Array.getElem?_setIfInBounds,e] using h2)
   unfold wpOp;rw [ho]
   simp only
   split
   ·rename_i hw;rw [if_pos hw] at h1;exact .inl h1
   ·rename_i hw;rw [if_neg hw] at h1;exact h1
  ·cases hk : back with
   | none => rw [hk] at hsz;simp at hsz;omega
   | some b =>
    have hjn : j = front.length:=by rw [hk] at hsz;simp at hsz;omega
    subst hjn
    have hob : o = b:=by
     rw [hops,hk] at ho
     simp at ho
     exact ho.symm
    subst hob
    have hfl : ∀ i,i < front.length → listed.getD i false = true:=fun i hi => by
     obtain ⟨e,he,hbi,hon⟩:=hback o hk i hi;have hl:=hall e he hbi
     rcases hon with hon | ⟨p,hp,e',he',hon,hbi'⟩
     ·rwa [hon] at hl
     ·have:=h.cl e.on p hp hl e' he' hbi'
      rwa [hon] at this
    have h1:=Fin.last hf hlen hin h.old hfl;rw [hk] at h1
    have h2:=h1 (wpAny P .any ops Q fuel (listed.setIfInBounds front.length true)) (fun a' w' hq => by
     have hr : Region.ready .any ops (listed.setIfInBounds front.length true) = []:=by
      cases hr : Region.ready .any ops (listed.setIfInBounds front.length true) with
      | nil => rfl
      | cons i is =>
       have hm : i ∈ Region.ready .any ops (listed.setIfInBounds front.length true):=by rw [hr];simp
       obtain ⟨h3,o',ho',-⟩:=mem_ready.1 hm;have hi:=(Array.getElem?_eq_some_iff.1 ho').1
       exfalso
       by_cases e : front.length = i
       ·subst e
        simp [Array.getD_eq_getD_getElem?,show front.length < listed.size from by omega] at h3
       ·have h4:=hfl i (by rw [hk] at hsz;simp at hsz;omega);rw [getD_ft (by omega)] at h4
        simp [Array.getD_eq_getD_getElem?,e] at h3 h4
        rw [h3] at h4
        cases h4
     cases fuel with
     | zero => exact ⟨hr,hq⟩
     | succ fuel => exact ⟨fun _ => hq,fun i hi => by rw [hr] at hi;cases hi⟩)
    unfold wpOp;rw [ho]
    simp only
    split
    ·rename_i hw;rw [if_pos hw] at h2;exact .inl h2
    ·rename_i hw;rw [if_neg hw] at h2;exact h2
end
theorem wp_region_grow_last {P : Program} {id : Nat} {Q : Exit → Act → World → Prop} {a0 : Act} {W : World} {l : List Oper} {front : List Oper} {last : Oper} (hm : P.follows .mixedOrders = true) (hf : l.dropLast = front) (hb : l.getLast? = some last) (hB : growB a0.tmps.size front (some last) = true)
  (h : Grow P l.toArray Q W a0 (some last) front []) : (Code.region id l.toArray true).wp P Q a0 W:=by
 obtain ⟨φs,hlen,hs,hfi⟩:=Grow.spec _ _ h
 have hl : l = front ++ (some last).toList:=by
  obtain ⟨l',rfl⟩:=List.getLast?_eq_some_iff.1 hb;rw [← hf]
  simp
 refine wp_region_any hm (wpAny_grow (by rw [hl]) hB hlen hs hfi _ _ _ _ (by simp) ?_ (fun o ho => ?_) ⟨⟨rfl,rfl,(Below.refl _ _).drew,fun i o φ h1 h2 t ht hx => ?_,fun t _ => rfl⟩,fun j o h1 hx => ?_⟩)
 ·have:=List.count_le_length (a:=false) (l:=(Array.replicate l.toArray.size false).toList)
  simp at this ⊢
 ·exact repl_false _ _
 ·rw [repl_false] at hx;cases hx
 ·rw [repl_false] at hx;cases hx
end Gt
end Go.Proofs.YtkljbgdikmpjfaaGreatDoor

namespace Go.Proofs.YtkljbgdikmpjfaaGreatDoor
open Go.RowKit
namespace Rc
open Mk

theorem form_refl (W w : World) : Gs.Form W w w:=⟨Below.refl _ _,fun _ cs _ h => ⟨cs,rfl,h⟩⟩
theorem form_set {W a b : World} {g i : Nat} {v : Value} (hg : W.heap.size ≤ g) (h : Gs.Form W a b) : Gs.Form W a (b.setCell ⟨g,i,none⟩ v):=by
 refine ⟨set_below hg h.low,fun k cs T hk => ?_⟩;obtain ⟨cs',h1,h2⟩:=h.form k cs T hk
 by_cases e : k = g
 ·subst e;exact ⟨_,by rw [Array.size_setIfInBounds];exact h1,block_set h2 v⟩
 ·exact ⟨cs',h1,(Below.heap_setCell _ _ _ _ e).trans h2⟩
theorem arr8 {cs : Array Value} (h : cs.size = 8) : ∃ c0 c1 c2 c3 c4 c5 c6 c7,cs = #[c0,c1,c2,c3,c4,c5,c6,c7]:=by
 obtain ⟨l⟩:=cs
 rcases l with _ | ⟨c0,_ | ⟨c1,_ | ⟨c2,_ | ⟨c3,_ | ⟨c4,_ | ⟨c5,_ | ⟨c6,_ | ⟨c7,_ | ⟨c8,l⟩⟩⟩⟩⟩⟩⟩⟩⟩ <;> simp at h
 exact ⟨c0,c1,c2,c3,c4,c5,c6,c7,rfl⟩
def New8 (W : World) (T : TypeId) : Fact:=fun v w => ∃ g c0 c1 c2 c3 c4 c5 c6 c7,v = .pointer (some ⟨g,0,none⟩) ∧ W.heap.size ≤ g ∧ w.heap[g]? = some (.cells #[c0,c1,c2,c3,c4,c5,c6,c7] T (0,0))
theorem New8.mono (W : World) (T : TypeId) : Gs.FMono (Gs.Form W) (New8 W T):=by
 refine ⟨?_,?_⟩
 ·rintro v w w' ⟨g,c0,c1,c2,c3,c4,c5,c6,c7,h1,h2,h4⟩ hb;exact ⟨g,c0,c1,c2,c3,c4,c5,c6,c7,h1,h2,(hb.block g (lt_of_some h4)).trans h4⟩
 ·rintro v w w' ⟨g,c0,c1,c2,c3,c4,c5,c6,c7,h1,h2,h4⟩ hb;obtain ⟨cs',h5,h6⟩:=hb.form g _ T h4;obtain ⟨e0,e1,e2,e3,e4,e5,e6,e7,rfl⟩:=arr8 (cs:=cs') (h5.trans rfl);exact ⟨g,e0,e1,e2,e3,e4,e5,e6,e7,h1,h2,h6⟩
def VtF (w : World) (x : Vd) : Fact:=fun v _ => ∃ va vl vc,v = .tuple #[.agg #[.string x.n,.int .i64 x.c,.string x.z,.string x.k,.bool x.x,.string x.m,.bool x.y,.slice va vl vc],.bool true] ∧ TxRow w va vl vc x.zs
theorem VtF.mono (SR : World → World → Prop) (w : World) (x : Vd) : Gs.FMono SR (VtF w x):=⟨fun _ _ _ h _ => h,fun _ _ _ h _ => h⟩
def VaF (w : World) (x : Vd) : Fact:=fun v _ => ∃ va vl vc,v = .agg #[.string x.n,.int .i64 x.c,.string x.z,.string x.k,.bool x.x,.string x.m,.bool x.y,.slice va vl vc] ∧ TxRow w va vl vc x.zs
theorem VaF.mono (SR : World → World → Prop) (w : World) (x : Vd) : Gs.FMono SR (VaF w x):=⟨fun _ _ _ h _ => h,fun _ _ _ h _ => h⟩
def PsV (W w : World) (x : Vd) : Fact:=fun v w' => ∃ g va vl vc,v = .pointer (some ⟨g,0,none⟩) ∧ W.heap.size ≤ g ∧ TxRow w va vl vc x.zs ∧ w'.heap[g]? = some (.cells #[.string x.n,.int .i64 x.c,.string x.z,.string x.k,.bool x.x,.string x.m,.bool x.y,.slice va vl vc] 81 (0,0))
theorem PsV.mono (W w : World) (x : Vd) : (PsV W w x).Mono:=by
 rintro v a b ⟨g,va,vl,vc,h1,h2,h3,h4⟩ hb;exact ⟨g,va,vl,vc,h1,h2,h3,(hb.block g (lt_of_some h4)).trans h4⟩
theorem set8 {w : World} {g : Nat} {T : TypeId} {c0 c1 c2 c3 c4 c5 c6 c7 : Value} (h : w.heap[g]? = some (.cells #[c0,c1,c2,c3,c4,c5,c6,c7] T (0,0))) (v0 v1 v2 v3 v4 v5 v6 v7 : Value) :
  ((((((((w.setCell ⟨g,0,none⟩ v0).setCell ⟨g,1,none⟩ v1).setCell ⟨g,2,none⟩ v2).setCell ⟨g,3,none⟩ v3).setCell ⟨g,4,none⟩ v4).setCell ⟨g,5,none⟩ v5).setCell ⟨g,6,none⟩ v6).setCell ⟨g,7,none⟩ v7).heap[g]? = some (.cells #[v0,v1,v2,v3,v4,v5,v6,v7] T (0,0)):=by
 rw [block_set (i:=7) (block_set (i:=6) (block_set (i:=5) (block_set (i:=4) (block_set (i:=3) (block_set (i:=2) (block_set (i:=1) (block_set (i:=0) h v0) v1) v2) v3) v4) v5) v6) v7];simp only [List.setIfInBounds_toArray,List.set_cons_zero,List.set_cons_succ]

theorem Fv.Own.keepLt {w w' : World} {h : Nat} {S : Nat → Prop} {g : Nat} {f : Fv} {v : Value} (k : f.Own w h S g v) (hk : h < w.heap.size → S h → w'.heap[h]? = w.heap[h]?) : f.Own w' h S g v:=by
 cases f with
 | l zs =>
  obtain ⟨a',l',c',h1,h2,h3,h4,h5,h6⟩:=k;refine ⟨a',l',c',h1,h2,h3,h4,h5,h6.imp id ?_⟩;rintro ⟨q1,q2,q3,cu,q4,q5⟩;exact ⟨q1,q2,q3,cu,(hk (lt_of_some q4) q2).trans q4,q5⟩
 | _ => exact k
theorem ROwnAt.putL {w W : World} {B g len cap m : Nat} {T : TypeId} {rs : List (List Fv)} {S : Nat → Prop} {cur : Array Value} {H : Nat → Nat → Nat} (h : ROwnAt w g m T rs S cur H) (hS : ∀ k,S k → B ≤ k) (hl : rs.length = len) (hlc : len ≤ cap) (hcm : cap ≤ 9223372036854775807) {i j : Nat} {r : List Fv} {old : Fv} (hi : rs[i]? = some r) (hj : r[j]? = some old)
  {va : Option Addr} {vl vc : Nat} {zs : List ByteArray} (hz : TxRow w va vl vc zs) (hne : ∀ b o,va = some ⟨b,o,none⟩ → zs ≠ [] → ¬ b = g ∧ B ≤ b) (hW : ∀ k,B ≤ k → k < w.heap.size → W.heap[k]? = (w.setCell ⟨g,i * m + j,none⟩ (.slice va vl vc)).heap[k]?) : RRow W (some ⟨g,0,none⟩) len cap m (rs.set i (r.set j (.l zs))):=by
 have hlt : i < rs.length:=(List.getElem?_eq_some_iff.1 hi).1;have hil : j < r.length:=(List.getElem?_eq_some_iff.1 hj).1;have hrm : r.length = m:=h.len i r hi;have hgB:=hS g h.inS;have hbl:=(hW g hgB (lt_of_some h.blk)).trans (block_set h.blk _);obtain ⟨v0,hc0,-⟩:=h.cell i r hi j _ hj;have hin : i * m + j < cur.size:=(Array.getElem?_eq_some_iff.1 hc0).1;refine ⟨by rw [List.length_set];exact hl,hlc,hcm,.inr ⟨g,0,rfl,lt_of_some hbl,fun j' r' hj' i' f' hi' => ?_⟩⟩;rw [Nat.zero_add]
 rcases set_at (r:=r) hlt hil hj' hi' with ⟨rfl,rfl,rfl⟩ | ⟨hne',r0,q1,q2⟩
 ·refine ⟨.slice va vl vc,?_,va,vl,vc,rfl,?_⟩
  ·rw [cellK hbl,Array.getElem?_setIfInBounds_self_of_lt hin]
  ·obtain ⟨h1,h2,h3,h4,h5⟩:=hz;refine ⟨h1,h2,h3,h4,?_⟩
   by_cases hzn : zs = []
   ·exact .inl hzn
   ·rcases h5 with h5 | ⟨b,o,rfl,hlt,hc⟩
    ·exact .inl h5
    ·obtain ⟨hbg,hbB⟩:=hne b o rfl hzn;have e : W.heap[b]? = w.heap[b]?:=(hW b hbB hlt).trans (Below.heap_setCell _ _ _ _ hbg);have hs : W.heap[b]? = some (w.heap[b]'hlt):=e.trans (Array.getElem?_eq_getElem hlt);refine .inr ⟨b,o,rfl,(Array.getElem?_eq_some_iff.1 hs).1,fun k x hx => ?_⟩;have:=hc k x hx;simp only [World.cell?,e] at this ⊢;exact this
 ·rw [set_same hi] at q1;obtain ⟨v',k1,k2⟩:=h.cell j' r0 q1 i' f' q2;have hil' : i' < r0.length:=(List.getElem?_eq_some_iff.1 q2).1;have hrm':=h.len j' r0 q1;refine ⟨v',?_,((k2.set_cell (k:=i * m + j) (v:=.slice va vl vc)).keepLt (w':=W) (fun hl s => hW _ (hS _ s) (by simpa using hl))).is⟩;rw [cellK hbl,Array.getElem?_setIfInBounds_ne (fun e2 => hne' (by have:=idx_inj (by omega) (by omega) e2;exact ⟨this.1.symm,this.2.symm⟩))];exact k1
theorem ClFr.volC {w2 wz W : World} {d : Ad} {c : Cl} {B i g : Nat} {v : Vd} {zs : List ByteArray} {va : Option Addr} {vl vc : Nat} (ho : ClFr w2 d c.raw (fun k => B ≤ k)) (hd : d.a3 = some ⟨g,0,none⟩) (hv : c.vs[i]? = some v) (hB : B ≤ w2.heap.size) (hb : Below w2.heap.size w2 wz) (hz : TxRow wz va vl vc zs) (hz2 : ∀ b o,va = some ⟨b,o,none⟩ → zs ≠ [] → w2.heap.size ≤ b)
  (hW : ∀ k,B ≤ k → k < wz.heap.size → W.heap[k]? = (wz.setCell ⟨g,i * 8 + 7,none⟩ (.slice va vl vc)).heap[k]?) : ClRow W d (volC c i (onV v zs)).raw:=by
 have hvi : (c.vs.map vdF)[i]? = some (vdF v):=by rw [List.getElem?_map,hv];rfl
 obtain ⟨v1,v2,v3,v4⟩:=ho.v
 rcases v4 with v4 | ⟨g',cur,H,e,hat⟩
 ·have h9 : c.vs.map vdF = []:=v4;rw [h9] at hvi
  cases hvi
 rw [hd] at e
 obtain rfl : g = g':=by cases e;rfl
 have hg : g < w2.heap.size:=lt_of_some hat.blk
 have hk : ∀ k,B ≤ k → ¬ k = g → k < w2.heap.size → W.heap[k]? = w2.heap[k]?:=fun k h1 h2 h3 => by rw [hW k h1 (Nat.lt_of_lt_of_le h3 hb.size),Below.heap_setCell _ _ _ _ h2,hb.block k h3]
 have hR:=(hat.keep (w':=wz) (S':=fun k => B ≤ k) (fun k hk _ => hb.block k hk) (fun _ _ s => s)).putL (W:=W) (B:=B) (i:=i) (j:=7) (fun _ s => s) v1 v2 v3 hvi rfl hz (fun b o e hn => ⟨fun q => by have:=hz2 b o e hn;omega,by have:=hz2 b o e hn;omega⟩) hW
 have hvs : (Rc.volC c i (onV v zs)).raw.v = (c.vs.map vdF).set i ((vdF v).set 7 (.l zs)):=by
  show (c.vs.set i (onV v zs)).map vdF = _
  rw [List.map_set]
  rfl
 refine ⟨?_,?_,?_,?_,?_⟩
 ·exact ((ho.n.away hat.blk (by decide) (by decide)).keep (w':=W) (S':=fun _ => True) (fun k hk' s => hk k s.1 s.2 hk') (fun _ _ _ => trivial)).row
 ·exact ((ho.k.away hat.blk (by decide) (by decide)).keep (w':=W) (S':=fun _ => True) (fun k hk' s => hk k s.1 s.2 hk') (fun _ _ _ => trivial)).row
 ·rw [hvs,hd];exact hR
 ·exact ((ho.x.away hat.blk (by decide) (by decide)).keep (w':=W) (S':=fun _ => True) (fun k hk' s => hk k s.1 s.2 hk') (fun _ _ _ => trivial)).row
 ·exact ((ho.p.away hat.blk (by decide) (by decide)).keep (w':=W) (S':=fun _ => True) (fun k hk' s => hk k s.1 s.2 hk') (fun _ _ _ => trivial)).row
theorem ClFr.blk3 {w2 : World} {d : Ad} {c : Cl} {B i : Nat} {v : Vd} (ho : ClFr w2 d c.raw (fun k => B ≤ k)) (hv : c.vs[i]? = some v) : ∃ g cs,d.a3 = some ⟨g,0,none⟩ ∧ B ≤ g ∧ w2.heap[g]? = some (.cells cs 81 (0,0)) ∧ (∃ a l p,cs[i * 8 + 7]? = some (.slice a l p) ∧ TxRow w2 a l p v.zs):=by
 have hvi : (c.vs.map vdF)[i]? = some (vdF v):=by rw [List.getElem?_map,hv];rfl
 obtain ⟨v1,v2,v3,v4⟩:=ho.v
 rcases v4 with v4 | ⟨g,cur,H,e,hat⟩
 ·have h9 : c.vs.map vdF = []:=v4;rw [h9] at hvi
  cases hvi
 obtain ⟨u,hu,a,l,p,rfl,h5⟩:=hat.cell i (vdF v) hvi 7 (.l v.zs) rfl;exact ⟨g,cur,e,hat.inS,hat.blk,a,l,p,hu,LOwn.row (h:=H i 7) (S:=fun k => B ≤ k) (g:=g) ⟨a,l,p,rfl,h5⟩⟩
theorem xn_has {c : Cl} {k : Nat} {q : Qd} (h : Xn c k q) : ∃ (i : Nat) (v : Vd),c.vs[i]? = some v ∧ v.n = q.n ∧ q.d ∈ v.zs:=by
 obtain ⟨i,v,_,h1,j,t,_,h2,_,_,rfl⟩:=h;exact ⟨i,v,h1,rfl,List.mem_of_getElem? h2⟩

end Rc
end Go.Proofs.YtkljbgdikmpjfaaGreatDoor
