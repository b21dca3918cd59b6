import Derived.Test.YtdoldaceehdifaaGreatDoorF4
import Derived.Laws.CopyRow
import Derived.Laws.Tables
import Derived.Laws.Rows
import Derived.Laws.CopyOwn
import Derived.RangeFuncNested
import Derived.RangeFuncBound
import Derived.RangeFuncCalls
import Derived.RangeFuncLeaves
import Derived.Shelf.Abstract
import Derived.Shelf.RegionOpen
import Derived.WalkKit
import Derived.OwnWalkIn
import Derived.TacticsInMore
import Derived.LoopNIn
import Derived.LoopIn
/-
 A text among others, in its place, as the specification puts it.
-/
set_option maxRecDepth 100000
set_option maxHeartbeats 12800000
namespace Go.Proofs.YtdoldaceehdifaaGreatDoor
theorem aaa {p : Prop} (h : p:=by omega) : p:=h
theorem aag {p : Prop} (h : p:=by first | exact Below.refl _ _ | exact an _ _ | exact aF _ _ _ | exact br _ _ _ _) : p:=h
theorem aac {p : Prop} (h : p:=by simp [Act.eval,Act.put]) : p:=h
theorem aab {p : Prop} (h : p:=by simp [Value.oneCell']) : p:=h
theorem aak {p : Prop} (h : p:=by rw [hdl];simp only [Nat.min_def];split <;> omega) : p:=h
theorem aam {p : Prop} (h : p:=by rw [hyl];simp only [Nat.min_def];split <;> omega) : p:=h
theorem aas {p : Prop} (h : p:=by simp [World.setCell];have:=HB.out.size;omega) : p:=h
theorem abv {p : Prop} (h : p:=by rw [List.take_of_length_le af,List.drop_of_length_le af,List.append_nil]) : p:=h
theorem aaI {p : Prop} (h : p:=by simp [results,Tryz.results31,go_sem, *]) : p:=h
theorem aae {p : Prop} (h : p:=by kernel_rfl) : p:=h
theorem abw {p : Prop} (h : p:=by simp only [List.size_toArray];rw [hc1l,hyl];omega) : p:=h
theorem aa9 {p : Prop} (h : p:=by rw [HI0.out.2.2.2];exact growslice_fits af af) : p:=h
theorem aap {p : Prop} (h : p:=by simpa using hown5) : p:=h
theorem aa7 {p : Prop} (h : p:=by rw [List.length_map,List.length_take];omega) : p:=h
theorem aaX {p : Prop} (h : p:=by rw [List.length_map,List.length_drop];omega) : p:=h
theorem aaC {p : Prop} (h : p:=by rw [List.length_map];omega) : p:=h
theorem aa_ {p : Prop} (h : p:=by rw [List.length_map,dD af,hxl]) : p:=h
theorem abp {p : Prop} (h : p:=by rw [hdl,List.size_toArray,hR2l];omega) : p:=h
theorem aa1 {p : Prop} (h : p:=by rw [List.length_drop,hXl,Nat.sub_mul]) : p:=h
end Go.Proofs.YtdoldaceehdifaaGreatDoor
namespace Go.Proofs.YtdoldaceehdifaaGreatDoor
theorem aad {p : Prop} (h : p:=by
 refine Obl.plain rfl ?_;intro ac wg K hsz hW hf hK;clear hsz;have e7:=hf 7 al;simp [ai,List.lookup] at e7;clear hf;exact aO) : p:=h
theorem aaQ {p : Prop} (h : p:=by
 have h0 : w.grownBy w.drew (some g):=⟨rfl,rfl,rfl,Nat.le_refl _,fun _ _ _ => rfl⟩;have h1 : w.grownBy W1 (some g):=by rw [hW1];exact h0.trans (World.grownBy_alloc w.drew _ _)
 refine ⟨?_,?_,?_,?_,fun k hk hkg => (hW3o k af).trans (h1.block k hk hkg)⟩
 ·rw [hW3,hW2];exact h1.os
 ·rw [hW3,hW2];exact h1.tape
 ·rw [hW3,hW2];exact h1.output
 ·rw [hW3,hW2];exact Nat.le_trans h1.size (by simp [World.setRow])) : p:=h
theorem acH {p : Prop} (h : p:=by
 go_enter Tryz.func194,Tryz.ntmps194;go_wp2_with (first | (at_builtin;refine bm rfl _ _ 191 33 rfl base 118 118 i0 (.agg #[.string ⟨#[]⟩,.int .i64 0,.string ⟨#[]⟩,.string ⟨#[]⟩,.bool false,.string ⟨#[]⟩,.bool false,.slice none 0 0]) 8 112 Tryz.underlying191 Tryz.underlying33 HI0.out.1 HI0.out.2.1 HI0.out.2.2.1 HI0.out.2.2.2 rfl al _ _ _ rfl HO.out ⟨vb,0,none⟩ 1 1 ys rfl af HYN.out HY1.out cd af hbs ?_));exact abb) : p:=h
theorem acu {p : Prop} (h : p:=by
 go_enter Tryz.func164,Tryz.ntmps164;go_wp2_with (first | (at_builtin;refine bm rfl _ _ 124 35 rfl base 65 65 i0 (.agg #[.string ⟨#[]⟩,.int .i64 0,.string ⟨#[]⟩,.slice none 0 0,.string ⟨#[]⟩,.int .i64 0]) 6 88 Tryz.underlying124 Tryz.underlying35 HI0.out.1 HI0.out.2.1 HI0.out.2.2.1 HI0.out.2.2.2 rfl al _ _ _ rfl HO.out ⟨vb,0,none⟩ 1 1 ys rfl af HYN.out HY1.out cd af hbs ?_));exact abb) : p:=h
theorem acy {p : Prop} (h : p:=by
 have h45 : aS w4 (fun k => (Q k ∨ Q2 k) ∨ w.heap.size ≤ k) 8 ((bh j x xs).map vdF) (bh j [.string x.n,.int .i64 x.c,.string x.z,.string x.k,.bool x.x,.string x.m,.bool x.y,.slice va vl vc] vss) H4:=by rw [jt];exact hV5
 have hle : ((bh j x xs).map vdF).length = n + 1:=aa_
 exact aco) : p:=h
theorem aby {p : Prop} (h : p:=by
 rintro e w3 ⟨a3,c3,rfl,ho3,hb3⟩;have hs3 : w2.heap.size ≤ w3.heap.size:=hb3.size;exact ⟨a3,c3,rfl,ho3,HBD.out.trans (hb3.mono HBD.out.size),hs3,by omega,(hb3.block w.heap.size hs2).trans (show w2.drew.heap[w.heap.size]? = _ from HN2.out)⟩) : p:=h
theorem acA {p : Prop} (h : p:=by
 exact aco) : p:=h
theorem acG {p : Prop} (h : p:=by
 intro j o ho d hd i p hp hpd;have hj : j < front.length:=(List.getElem?_eq_some_iff.1 ho).1;have hi : i < front.length:=(List.getElem?_eq_some_iff.1 hp).1;have:=List.all_eq_true.1 h3 j (List.mem_range.2 hj);rw [ho] at this;have:=List.all_eq_true.1 this d hd;have:=List.all_eq_true.1 this i (List.mem_range.2 hi);rw [hp] at this;simp only [hpd,bne_self_eq_false,Bool.false_or,Bool.and_eq_true,decide_eq_true_eq] at this;exact vX) : p:=h
theorem aa8 {p : Prop} (h : p:=by
 have h1 : w.grownBy w.drew (some g):=⟨rfl,rfl,rfl,Nat.le_refl _,fun _ _ _ => rfl⟩;have h2 : w.drew.grownBy W1 (some g):=by rw [HW1.out];exact f_ w.drew g _
 exact (h1.trans h2).trans (f_ W1 g _)) : p:=h
theorem aaG {p : Prop} (h : p:=by
 obtain ⟨a',c',rfl,hR⟩:=HFIN.out w4 v4 _ af hB5 ho4;exact ⟨a',c',rfl,hR,hB5⟩) : p:=h
theorem acv {p : Prop} (h : p:=by
 have h9 : ∃ x,a = aE a0 (knAll [] front φs) x ∧ ∀ p ∈ knAll [] front φs,p.2 (x p.1) w:=Go.Proofs.YtdoldaceehdifaaGreatDoor.Fin.last (P:=P) (ops:=ops) (Q:=fun _ a' w' => ∃ x,a' = aE a0 (knAll [] front φs) x ∧ ∀ p ∈ knAll [] front φs,p.2 (x p.1) w') (back:=none) (fun x _ _ h2 => ⟨x,rfl,h2⟩) hlen hin h hall;obtain ⟨x,e,h2⟩:=h9;have h3:=hf x w h.below h2;rw [← e] at h3;exact h3) : p:=h
theorem acC {p : Prop} (h : p:=by
 have hrf : r = false:=by simpa using hq
 clear hr;go_wp2_with fail;exact bodyPost_ret (v:=.agg #[.string ⟨#[]⟩,.int .i64 0,.string ⟨#[]⟩,.string ⟨#[]⟩,.bool false,.string ⟨#[]⟩,.bool false,.slice none 0 0,.int .i64 1]) (by simp [results,Tryz.results172,go_sem, *]) rfl (dx.bad (.inr (.inl ⟨HL.out,HBR.out,rfl,rfl⟩)) (eB af HB.out))) : p:=h
theorem aaP {p : Prop} (h : p:=by
 rw [show i + (cap + 1 - i) = cap + 1 by omega,← hG,← hROW,← hW1,← hN] at h;rw [show (cap : Int) + 1 - (i : Int) = ((cap + 1 - i : Nat) : Int) by omega];exact h) : p:=h
theorem aaq {p : Prop} (h : p:=by
 simp only [List.length_append,List.length_take,List.length_drop];omega) : p:=h
theorem aca {p : Prop} (h : p:=by
 intro j o ho e he hbe;have hj : j < (front ++ [s,t]).toArray.size:=(Array.getElem?_eq_some_iff.1 ho).1;have:=List.all_eq_true.1 h4 j (List.mem_range.2 hj);rw [ho] at this;have:=Array.all_eq_true.1 this;obtain ⟨k,hk,rfl⟩:=Array.mem_iff_getElem.1 he;have h9:=this k hk;rw [hbe] at h9;simpa using h9) : p:=h
theorem abm {p : Prop} (h : p:=by
 refine Obl.plain rfl ?_;intro ac wg K hsz hW hf hK;clear hsz;have e5:=hf 5 al;simp [ai,List.lookup] at e5;clear hf;exact aO) : p:=h
theorem acO {p : Prop} (h : p:=by
 go_wp2_with fail;exact bodyPost_ret (v:=.agg #[.string ⟨#[]⟩,.int .i64 0,.string ⟨#[]⟩,.string ⟨#[]⟩,.bool false,.string ⟨#[]⟩,.bool false,.slice none 0 0,.int .i64 2]) (by simp [results,Tryz.results172,go_sem]) rfl (dx.bad HL.out (aF _ _ _))) : p:=h
theorem aaY {p : Prop} (h : p:=by
 rcases HO.out.2 with ⟨h1,h2⟩ | ⟨g,cp,cur,h1,h2,h3,h4,h5,h6,h7⟩
 ·cases h1;omega
 ·cases h1;exact ⟨g,cur,rfl,h2,h3,h6,h7⟩) : p:=h
theorem abP {p : Prop} (h : p:=by
 constructor
 ·rintro ⟨j,q,h1,h2,h3,h4⟩;by_cases e : j = k
  ·subst e;rw [hp] at h2;obtain rfl:=Option.some.inj h2;exact absurd h3 hd
  ·exact ⟨j,q,by omega,h2,h3,h4⟩
 ·rintro ⟨j,q,h1,h2,h3,h4⟩;exact ⟨j,q,by omega,h2,h3,h4⟩) : p:=h
theorem aaR {p : Prop} (h : p:=by
 rw [hROW,Array.toList_append,Array.toList_append,List.append_assoc];exact List.take_left' iS) : p:=h
theorem aa6 {p : Prop} (h : p:=by
 rcases ho.2 with ⟨h1,h2⟩ | ⟨g,cp,cur,h1,_,_,h4,h5,_⟩
 ·cases h1;omega
 ·cases h1;unfold maxLen at h5;omega) : p:=h
theorem aaW {p : Prop} (h : p:=by
 rw [hR2];simp only [List.length_append,List.length_take,List.length_drop,Array.length_toList,hRs,hyl];omega) : p:=h
theorem abt {p : Prop} (h : p:=by
 rw [hR3];simp only [List.size_toArray,List.length_append,List.length_take,List.length_drop,hR2l];omega) : p:=h
theorem aa2 {p : Prop} (h : p:=by
 rw [ah hg];rw [← htk,List.getElem?_take] at hj;split at hj
 ·simpa using hj
 ·cases hj) : p:=h
theorem aaO {p : Prop} (h : p:=by
 simp only [List.size_toArray,List.length_append,List.length_take,List.length_drop,hc1l];omega) : p:=h
theorem aaV {p : Prop} (h : p:=by
 obtain ⟨g,h1,_,h3⟩:=HC.out k u hu;exact ⟨g,h1,(ak hW (bq h3)).trans h3⟩) : p:=h
theorem aaJ {p : Prop} (h : p:=by
 have hlt9:=aa ((hW.block _ (aa GT.out)).trans GT.out);exact aO) : p:=h
theorem acs {p : Prop} (h : p:=by
 go_wp2;go_ret;exact ar.t H1.out aag) : p:=h
theorem ab0 {p : Prop} (h : p:=by
 refine ⟨v,List.mem_filter.2 ⟨List.mem_of_getElem? h2,?_⟩,rfl⟩;unfold onB;rw [Bool.or_eq_true];exact .inl (ed.2 h3)) : p:=h
theorem acB {p : Prop} (h : p:=by
 clear h;go_enter Tryz.func187,Tryz.ntmps187;go_wp2_with fail;go_ret;exact ⟨BQ HX.out,HB.out⟩) : p:=h
theorem aaN {p : Prop} (h : p:=by
 rintro e w4 ⟨v4,rfl,ho4,hg4⟩;have hB5:=hB3.grown hg4 af (fun g hg => by
  have h9:=(ho3.lt g hg).1
  omega)
 exact aaG) : p:=h
theorem abb {p : Prop} (h : p:=by
 intro v' w' h1 h2;have H1:=ae h1;have H2:=ae h2;clear h1 h2;go_wp2;go_ret;exact ⟨v',rfl,H1.out,H2.out⟩) : p:=h
theorem aco {p : Prop} (h : p:=by
 obtain ⟨a',c',e,hR⟩:=h45.own ho4 hle.symm al (fun g hg => .inr (by have:=(ho4.lt g hg).1;omega));rw [hle] at e hR;rw [hj] at hR;exact ⟨a',c',e,hR⟩) : p:=h
theorem aal {p : Prop} (h : p:=by
 have mixed : Tryz.prog.follows .mixedOrders = true:=aae
 have hw1 : IntKind.i64.wrap ((i : Int) + 1) = (i : Int) + 1:=by rw [IntKind.wrap_i64];omega
 have hb1 : (0 : Int) ≤ (i : Int) + 1:=aaa
 exact And.intro mixed (And.intro hw1 hb1)) : p:=h
theorem ab7 {p : Prop} (h : p:=by
 have h5 : w1.cell? ⟨w.heap.size,5,none⟩ = some (.string v.m):=ah Bh.out 5;have lth_1:=aa Bh.out;have t0 : w1.cell? ⟨w.heap.size + 1,0,none⟩ = some (.slice d.a1 d.l1 d.c1):=ah Bt.out 0;have t1 : w1.cell? ⟨w.heap.size + 1,1,none⟩ = some (.slice d.a2 d.l2 d.c2):=ah Bt.out 1;have t2 : w1.cell? ⟨w.heap.size + 1,2,none⟩ = some (.slice d.a3 d.l3 d.c3):=ah Bt.out 2;have t3 : w1.cell? ⟨w.heap.size + 1,3,none⟩ = some (.slice d.a4 d.l4 d.c4):=ah Bt.out 3;have t4 : w1.cell? ⟨w.heap.size + 1,4,none⟩ = some (.slice d.a5 d.l5 d.c5):=ah Bt.out 4;have t5 : w1.cell? ⟨w.heap.size + 1,5,none⟩ = some (.int .i64 c.now):=ah Bt.out 5;have t12 : w1.cell? ⟨w.heap.size + 1,12,none⟩ = some (.string n.n):=ah Bt.out 12;have ltt_1:=aa Bt.out;exact And.intro h5 (And.intro lth_1 (And.intro t0 (And.intro t1 (And.intro t2 (And.intro t3 (And.intro t4 (And.intro t5 (And.intro t12 ltt_1))))))))) : p:=h
theorem abq {p : Prop} (h : p:=by
 have hg1 : W1.heap[g]? = w.heap[g]?:=by rw [hW1];exact Go.heap_alloc_old w.drew _ hgl
 have hv1 : W1.heap[vb]? = w.heap[vb]?:=by rw [hW1];exact Go.heap_alloc_old w.drew _ hvl
 exact And.intro hg1 hv1) : p:=h
theorem abx {p : Prop} (h : p:=by
 have hGi : ¬ G = i:=aaa
 have hGim : ¬ G = i + 1:=aaa
 have hci : ¬ cap = i:=aaa
 have hz2 : ¬ ((i : Int) = (cap : Int)):=aaa
 have hz3 : (cap : Int) < (cap : Int) + 1:=aaa
 exact And.intro hGi (And.intro hGim (And.intro hci (And.intro hz2 hz3)))) : p:=h
theorem aa4 {p : Prop} (h : p:=by
 have hb2 : ¬ cap = i + 1:=aaa
 have hb4 : ¬ cap = i:=aaa
 have hb5 : ¬ ((i : Int) = (n : Int)):=aaa
 have hb6 : ¬ ((cap : Int) < (n : Int) + 1):=aaa
 exact And.intro hb2 (And.intro hb4 (And.intro hb5 hb6))) : p:=h
theorem abJ {p : Prop} (h : p:=by
 have HOW : Hid ((w.alloc (.cells #[] 9)).ownsRow w.heap.size 9 1 (.slice (some ⟨w.heap.size,0,none⟩) 0 0) 0 []):=World.ownsRow_made w #[] 0 (Nat.le_refl _) (Nat.zero_le _) aN;have hik : (k : Int) ≤ cap:=aaa
 have hkn : k ≤ cap:=aaa
 exact And.intro HOW (And.intro hik hkn)) : p:=h
theorem abk {p : Prop} (h : p:=by
 have hs2 : w.heap.size < w2.heap.size:=aa HN2.out;have HBD : Hid (Below w.heap.size w w2.drew):=Below.gi HB2.out;exact And.intro hs2 HBD) : p:=h
theorem abu {p : Prop} (h : p:=by
 have hin : i ≤ cap:=aaa
 have htn : ((i : Int) + 1).toNat = i + 1:=aaa
 have hb3 : (i : Int) ≤ (cap : Int):=aaa
 exact And.intro hin (And.intro htn hb3)) : p:=h
theorem aaS {p : Prop} (h : p:=by
 have hin : i ≤ n:=aaa
 have htn : ((i : Int) + 1).toNat = i + 1:=aaa
 have hb3 : (i : Int) ≤ (n : Int) + 1:=aaa
 exact And.intro hin (And.intro htn hb3)) : p:=h
theorem abd {p : Prop} (h : p:=by
 have hgn : ¬ g = N:=aaa
 have hg2 : W2.heap[g]? = w.heap[g]?:=by rw [hW2,setRow_other W1 N g _ hgn];exact hg1
 exact And.intro hgn hg2) : p:=h
end Go.Proofs.YtdoldaceehdifaaGreatDoor
namespace Go.Proofs.YtdoldaceehdifaaGreatDoor
open Go.RowKit
namespace Rc
open Mk

def RT (zs : List ByteArray) : Prop:=zs.Pairwise fun a b => Op.bytesLess a.toList b.toList = true
theorem xW {x t : ByteArray} (h : Op.bytesLess x.toList t.toList = false) (hn : ¬ x = t) : Op.bytesLess t.toList x.toList = true:=by
 exact w_
def Put (t : ByteArray) (zs zs' : List ByteArray) : Prop:=(t ∈ zs ∧ zs' = zs) ∨ ∃ k,k ≤ zs.length ∧ zs' = zs.take k ++ [t] ++ zs.drop k ∧ (∀ (j : Nat) y,j < k → zs[j]? = some y → Op.bytesLess y.toList t.toList = true) ∧ ∀ y,zs[k]? = some y → Op.bytesLess t.toList y.toList = true
theorem Put.mem {t : ByteArray} {zs zs' : List ByteArray} (h : Put t zs zs') (s : ByteArray) : s ∈ zs' ↔ s ∈ zs ∨ s = t:=by
 rcases h with ⟨h,rfl⟩ | ⟨k,_,rfl,_,_⟩
 ·exact ⟨.inl,fun h1 => h1.elim id (fun e => e ▸ h)⟩
 ·have h1 : s ∈ zs ↔ s ∈ zs.take k ∨ s ∈ zs.drop k:=by rw [← List.mem_append,List.take_append_drop]
  rw [List.mem_append,List.mem_append,List.mem_singleton,h1];constructor
  ·rintro ((h | h) | h)
   ·exact .inl (.inl h)
   ·exact .inr h
   ·exact .inl (.inr h)
  ·rintro ((h | h) | h)
   ·exact .inl (.inl h)
   ·exact .inr h
   ·exact .inl (.inr h)
theorem Put.len {t : ByteArray} {zs zs' : List ByteArray} (h : Put t zs zs') : zs'.length ≤ zs.length + 1:=by
 rcases h with ⟨_,rfl⟩ | ⟨k,hk,rfl,_,_⟩
 ·omega
 ·simp only [List.length_append,List.length_take,List.length_drop,List.length_singleton];omega
theorem Put.DZ {t : ByteArray} {zs zs' : List ByteArray} (h : Put t zs zs') (hr : RT zs) : RT zs':=by
 rcases h with ⟨_,rfl⟩ | ⟨k,hk,rfl,hlt,hgt⟩
 ·exact hr
 ·have h1 : RT (zs.take k ++ zs.drop k):=by rw [List.take_append_drop];exact hr
  obtain ⟨h2,h3,h4⟩:=List.pairwise_append.1 h1;have h5 : ∀ a ∈ zs.take k,Op.bytesLess a.toList t.toList = true:=fun a ha => by
   obtain ⟨j,hj⟩:=List.getElem?_of_mem ha;rw [List.getElem?_take] at hj;split at hj
   ·next hjk => exact hlt j a hjk hj
   ·cases hj
  have h6 : ∀ a ∈ zs.drop k,Op.bytesLess t.toList a.toList = true:=fun a ha => by
   cases hd : zs.drop k with
   | nil => rw [hd] at ha;cases ha
   | cons b r =>
    have hb : zs[k]? = some b:=by rw [← Nat.add_zero k,← List.getElem?_drop,hd];rfl
    have h7:=hgt b hb;rw [hd] at ha h3
    rcases List.mem_cons.1 ha with rfl | ha
    ·exact h7
    ·exact cq _ _ _ h7 ((List.pairwise_cons.1 h3).1 a ha)
  refine List.pairwise_append.2 ⟨List.pairwise_append.2 ⟨h2,List.pairwise_singleton _ _,fun a ha b hb => ?_⟩,h3,fun a ha b hb => ?_⟩
  ·rw [List.mem_singleton.1 hb];exact h5 a ha
  ·rcases List.mem_append.1 ha with ha | ha
   ·exact cq _ _ _ (h5 a ha) (h6 b hb)
   ·rw [List.mem_singleton.1 ha];exact h6 b hb
def CI (t : ByteArray) (zs : List ByteArray) (w : World) (e : Ending) (w' : World) : Prop:=∃ a' l' c' zs',e = .returned (.slice a' l' c') ∧ ay w' a' l' c' zs' ∧ Put t zs zs' ∧ Below w.heap.size w w'
theorem RT.ext : ∀ {xs ys : List ByteArray},RT xs → RT ys → (∀ s,s ∈ xs ↔ s ∈ ys) → xs = ys
 | [],[],_,_,_ => rfl
 | [],b :: ys,_,_,h => by have:=(h b).2 (List.mem_cons_self ..);cases this
 | a :: xs,[],_,_,h => by have:=(h a).1 (List.mem_cons_self ..);cases this
 | a :: xs,b :: ys,hx,hy,h => by
  obtain ⟨x1,x2⟩:=List.pairwise_cons.1 hx;obtain ⟨y1,y2⟩:=List.pairwise_cons.1 hy;have hab : a = b:=by
   rcases List.mem_cons.1 ((h a).1 (List.mem_cons_self ..)) with e | ha
   ·exact e
   ·rcases List.mem_cons.1 ((h b).2 (List.mem_cons_self ..)) with e | hb
    ·exact e.symm
    ·have h9:=cq _ _ _ (y1 a ha) (x1 b hb);rw [dj] at h9;cases h9
  subst hab;have ne : ∀ {l : List ByteArray},(∀ s ∈ l,Op.bytesLess a.toList s.toList = true) → ∀ s ∈ l,¬ s = a:=fun hl s hs e => by
   have h9:=hl s hs;rw [e,dj] at h9;cases h9
  rw [RT.ext x2 y2 (fun s => ⟨fun hs => (List.mem_cons.1 ((h s).1 (List.mem_cons_of_mem _ hs))).resolve_left (ne x1 s hs),fun hs => (List.mem_cons.1 ((h s).2 (List.mem_cons_of_mem _ hs))).resolve_left (ne y1 s hs)⟩)]

theorem iH {α : Type} {l : List α} {k j : Nat} {u : α} (h : (l.take k)[j]? = some u) : l[j]? = some u:=by
 rw [List.getElem?_take] at h;split at h
 ·exact h
 ·cases h

theorem j_ (a : Option Addr) (len cap : Nat) (zs : List ByteArray) (t : ByteArray) (w : World) (hr : ay w a len cap zs) (hl : len ≤ 64) (ht : t.size ≤ 9223372036854775807) :
  Calls Tryz.prog 120 #[.slice a len cap,.string t] w (CI t zs w):=by
 have HR:=ae hr;have hlc : len ≤ cap:=hr.2.1;have hcm : cap ≤ 9223372036854775807:=hr.2.2.1;have hzl : zs.length = len:=hr.1;obtain ⟨i0,hi,hz0,hz1,hz2⟩:=info_parts eX;have HI0:=ae (And.intro hi (And.intro hz0 (And.intro hz1 hz2)));clear hi hz0 hz1 hz2;have HC : Hid (∀ (j : Nat) u,(zs.map Value.string)[j]? = some u → ∃ g o9,a = some ⟨g,o9,none⟩ ∧ g < w.heap.size ∧ w.cell? ⟨g,o9 + j,none⟩ = some u):=fun j u hu => by
  rw [List.getElem?_map,Option.map_eq_some_iff] at hu;obtain ⟨z,hz,rfl⟩:=hu;obtain ⟨b,o,x,rfl,hb,hx,hc,hsz⟩:=hr.at (k:=j) cG;rw [hz] at hx;cases hx;exact ⟨b,o,rfl,hb,hc⟩
 have HZS : Hid (∀ (k j : Nat) z,(zs.take k ++ [t] ++ zs.drop k)[j]? = some z → z.size ≤ 9223372036854775807):=fun k j z hz => by
  have h1:=List.mem_of_getElem? hz;simp only [List.mem_append,List.mem_singleton] at h1;rcases h1 with (h1 | rfl) | h1
  ·obtain ⟨i,hi⟩:=List.getElem?_of_mem (List.mem_of_mem_take h1);exact hr.2.2.2.1 i z hi
  ·exact ht
  ·obtain ⟨i,hi⟩:=List.getElem?_of_mem (List.mem_of_mem_drop h1);exact hr.2.2.2.1 i z hi
 have HON : Hid (∀ (l : List ByteArray) u,u ∈ l.map Value.string → u.oneCell' = true):=fun l u hu => by obtain ⟨z,_,rfl⟩:=List.mem_map.1 hu;rfl
 have HW : Hid (Below w.heap.size w w):=Below.refl _ _;clear hr;go_enter Tryz.func120,Tryz.ntmps120;go_wp2;go_loop [5] (fun i => ∃ k : Nat,k ≤ len ∧ i = .int .i64 k ∧ Hid (∀ (j : Nat) y,j < k → zs[j]? = some y → Op.bytesLess y.toList t.toList = true)) (fun i => len - (intOf i).toNat);case atStart => exact ⟨0,by omega,rfl,fun j y hj => by omega⟩
 case round =>
  obtain ⟨k,hk,rfl,HE⟩:=hrel;by_cases hlt : k < len
  ·obtain ⟨b,o,x,rfl,hb,hx,hc,hsz⟩:=HR.out.at hlt;have HX:=ae hx;clear hx hsz;have hk1 : (k : Int) < len:=aaa
   cases hless : Op.bytesLess x.toList t.toList
   ·by_cases he : x = t
    ·have HP : Hid (Put t zs zs):=.inl ⟨he ▸ List.mem_of_getElem? HX.out,rfl⟩;have hq:=aV he;clear he;go_wp2;go_ret;exact ⟨_,_,_,_,rfl,HR.out,HP.out,HW.out⟩
    have HP : Hid (Put t zs (zs.take k ++ [t] ++ zs.drop k)):=.inr ⟨k,by omega,rfl,HE.out,fun y hy => by rw [HX.out] at hy;cases hy;exact xW hless he⟩;have hq:=bo he;clear he;obtain ⟨HOW,hik,hkn⟩:=abJ;have hcap : ¬ cap = k:=aaa
    all_goals (
     go_wp2_with (first | (at_builtin;refine aX rfl _ _ 63 rfl w.heap.size 9 i0 (.string ⟨#[]⟩) 1 16 Tryz.underlying63 HI0.out.1 HI0.out.2.1 HI0.out.2.2.1 HI0.out.2.2.2 rfl al _ _ _ rfl (HOW.out) _ k _ ((zs.take k).map Value.string) rfl aa7 (fun j u hu => by rw [List.map_take] at hu;obtain ⟨g9,o9,e,hgl,h3⟩:=HC.out j u (iH hu);cases e <;> exact ⟨_,rfl,by simp only [Addr.add_lit];exact (ak (an w _) hgl).trans h3⟩) (HON.out _) cd af aN ?_))
     intro v5 w5 hown5 hgr5
     replace hown5 : w5.ownsRow w.heap.size 9 1 v5 k ((zs.take k).map Value.string):=aap
     have hb5 : Below w.heap.size w w5:=(an w (.cells #[] 9)).grown hgr5 aN (fun g hg => by simp [Value.ownBlock] at hg;omega);obtain ⟨s1,s2,s3,rfl⟩:=bj hown5;have HO5:=ae hown5;have H5:=ae hb5;have hs5:=hb5.size;clear hown5 hgr5 hb5 HOW
     go_wp2_with (first | (at_builtin;refine aX rfl _ _ 63 rfl w.heap.size 9 i0 (.string ⟨#[]⟩) 1 16 Tryz.underlying63 HI0.out.1 HI0.out.2.1 HI0.out.2.2.1 HI0.out.2.2.2 rfl al _ _ _ rfl (HO5.out.alloc _) _ 1 _ [.string t] rfl rfl (fun j u hu => ⟨_,rfl,by rw [Addr.add_lit,Nat.zero_add,ah (heap_alloc_new w5 _)];simpa using hu⟩) aab cd af bF ?_))
     intro v6 w6 hown6 hgr6;have hb6 : Below w.heap.size w w6:=(H5.out.alloc H5.out.size _).grown hgr6 bF (fun g hg => (HO5.out.lt g hg).1);obtain ⟨r1,r2,r3,rfl⟩:=bj hown6;have HO6:=ae hown6;have H6:=ae hb6;have hs6:=hb6.size;clear hown6 hgr6 hb6
     go_wp2_with (first | (at_builtin;refine aX rfl _ _ 63 rfl w.heap.size 9 i0 (.string ⟨#[]⟩) 1 16 Tryz.underlying63 HI0.out.1 HI0.out.2.1 HI0.out.2.2.1 HI0.out.2.2.2 rfl al _ _ _ rfl (HO6.out) _ (len - k) _ ((zs.drop k).map Value.string) rfl aaX (fun j u hu => by first | (rw [List.drop_eq_nil_of_le af] at hu;simp at hu;done) | (rw [List.map_drop,List.getElem?_drop] at hu;obtain ⟨g9,o9,e,hgl,h3⟩:=HC.out _ u hu;cases e <;> exact ⟨_,rfl,by simp only [Addr.add_lit,Nat.add_assoc];exact (ak H6.out hgl).trans h3⟩)) (HON.out _) cd af af ?_))
     intro v7 w7 hown7 hgr7;have hb7 : Below w.heap.size w w7:=H6.out.grown hgr7 af (fun g hg => (HO6.out.lt g hg).1)
     replace hown7 : w7.ownsRow w.heap.size 9 1 v7 (len + 1) ((zs.take k ++ [t] ++ zs.drop k).map Value.string):=by
      have e9 : k + 1 + (len - k) = len + 1:=aaa
      try rw [e9] at hown7
      simpa using hown7
     obtain ⟨a',p',rfl,hT⟩:=bV.jj hown7 (HZS.out k);have HT7:=ae hT;have HB7:=ae hb7;clear hown7 hgr7 hb7 hT hik hkn
     go_wp2
     go_ret
     exact ⟨_,_,_,_,rfl,HT7.out.row,HP.out,HB7.out⟩)
   ·go_wp2;refine ⟨⟨k + 1,by omega,by go_num,fun j z hj hz => ?_⟩,by simp [intOf];omega⟩;by_cases e : j = k
    ·subst e;rw [HX.out] at hz;obtain rfl:=Option.some.inj hz;exact hless
    ·exact HE.out j z af hz
  ·have hk1 : ¬ (k : Int) < len:=aaa
   have HP : Hid (Put t zs (zs.take k ++ [t] ++ zs.drop k)):=.inr ⟨k,by omega,rfl,HE.out,fun y hy => by have:=(List.getElem?_eq_some_iff.1 hy).1;omega⟩;obtain ⟨HOW,hik,hkn⟩:=abJ;rcases a with _ | ⟨b,o,sp⟩
   ·have hl0 : len = 0:=Classical.byContradiction fun hne0 => by
     obtain ⟨g9,o9,e,_⟩:=HC.out 0 _ (by rw [List.getElem?_map,List.getElem?_eq_getElem (show 0 < zs.length by omega)];rfl);cases e
    obtain rfl : k = 0:=aaa
    subst hl0;by_cases hcap : cap = 0;all_goals (
     go_wp2_with (first | (at_builtin;refine aX rfl _ _ 63 rfl w.heap.size 9 i0 (.string ⟨#[]⟩) 1 16 Tryz.underlying63 HI0.out.1 HI0.out.2.1 HI0.out.2.2.1 HI0.out.2.2.2 rfl al _ _ _ rfl (HOW.out) _ 0 _ ((zs.take 0).map Value.string) rfl aa7 (fun j u hu => by rw [List.map_take] at hu;obtain ⟨g9,o9,e,hgl,h3⟩:=HC.out j u (iH hu);cases e <;> exact ⟨_,rfl,by simp only [Addr.add_lit];exact (ak (an w _) hgl).trans h3⟩) (HON.out _) cd af aN ?_))
     intro v5 w5 hown5 hgr5
     replace hown5 : w5.ownsRow w.heap.size 9 1 v5 0 ((zs.take 0).map Value.string):=aap
     have hb5 : Below w.heap.size w w5:=(an w (.cells #[] 9)).grown hgr5 aN (fun g hg => by simp [Value.ownBlock] at hg;omega);obtain ⟨s1,s2,s3,rfl⟩:=bj hown5;have HO5:=ae hown5;have H5:=ae hb5;have hs5:=hb5.size;clear hown5 hgr5 hb5 HOW
     go_wp2_with (first | (at_builtin;refine aX rfl _ _ 63 rfl w.heap.size 9 i0 (.string ⟨#[]⟩) 1 16 Tryz.underlying63 HI0.out.1 HI0.out.2.1 HI0.out.2.2.1 HI0.out.2.2.2 rfl al _ _ _ rfl (HO5.out.alloc _) _ 1 _ [.string t] rfl rfl (fun j u hu => ⟨_,rfl,by rw [Addr.add_lit,Nat.zero_add,ah (heap_alloc_new w5 _)];simpa using hu⟩) aab cd af bF ?_))
     intro v6 w6 hown6 hgr6;have hb6 : Below w.heap.size w w6:=(H5.out.alloc H5.out.size _).grown hgr6 bF (fun g hg => (HO5.out.lt g hg).1);obtain ⟨r1,r2,r3,rfl⟩:=bj hown6;have HO6:=ae hown6;have H6:=ae hb6;have hs6:=hb6.size;clear hown6 hgr6 hb6
     go_wp2_with (first | (at_builtin;refine aX rfl _ _ 63 rfl w.heap.size 9 i0 (.string ⟨#[]⟩) 1 16 Tryz.underlying63 HI0.out.1 HI0.out.2.1 HI0.out.2.2.1 HI0.out.2.2.2 rfl al _ _ _ rfl (HO6.out) _ (0 - 0) _ ((zs.drop 0).map Value.string) rfl aaX (fun j u hu => by first | (rw [List.drop_eq_nil_of_le af] at hu;simp at hu;done) | (rw [List.map_drop,List.getElem?_drop] at hu;obtain ⟨g9,o9,e,hgl,h3⟩:=HC.out _ u hu;cases e <;> exact ⟨_,rfl,by simp only [Addr.add_lit,Nat.add_assoc];exact (ak H6.out hgl).trans h3⟩)) (HON.out _) cd af af ?_))
     intro v7 w7 hown7 hgr7;have hb7 : Below w.heap.size w w7:=H6.out.grown hgr7 af (fun g hg => (HO6.out.lt g hg).1)
     replace hown7 : w7.ownsRow w.heap.size 9 1 v7 (0 + 1) ((zs.take 0 ++ [t] ++ zs.drop 0).map Value.string):=by
      have e9 : 0 + 1 + (0 - 0) = 0 + 1:=aaa
      try rw [e9] at hown7
      simpa using hown7
     obtain ⟨a',p',rfl,hT⟩:=bV.jj hown7 (HZS.out 0);have HT7:=ae hT;have HB7:=ae hb7;clear hown7 hgr7 hb7 hT hik hkn
     go_wp2
     go_ret
     exact ⟨_,_,_,_,rfl,HT7.out.row,HP.out,HB7.out⟩)
   by_cases hcap : cap = k;all_goals (
    go_wp2_with (first | (at_builtin;refine aX rfl _ _ 63 rfl w.heap.size 9 i0 (.string ⟨#[]⟩) 1 16 Tryz.underlying63 HI0.out.1 HI0.out.2.1 HI0.out.2.2.1 HI0.out.2.2.2 rfl al _ _ _ rfl (HOW.out) _ k _ ((zs.take k).map Value.string) rfl aa7 (fun j u hu => by rw [List.map_take] at hu;obtain ⟨g9,o9,e,hgl,h3⟩:=HC.out j u (iH hu);cases e <;> exact ⟨_,rfl,by simp only [Addr.add_lit];exact (ak (an w _) hgl).trans h3⟩) (HON.out _) cd af aN ?_))
    intro v5 w5 hown5 hgr5
    replace hown5 : w5.ownsRow w.heap.size 9 1 v5 k ((zs.take k).map Value.string):=aap
    have hb5 : Below w.heap.size w w5:=(an w (.cells #[] 9)).grown hgr5 aN (fun g hg => by simp [Value.ownBlock] at hg;omega);obtain ⟨s1,s2,s3,rfl⟩:=bj hown5;have HO5:=ae hown5;have H5:=ae hb5;have hs5:=hb5.size;clear hown5 hgr5 hb5 HOW
    go_wp2_with (first | (at_builtin;refine aX rfl _ _ 63 rfl w.heap.size 9 i0 (.string ⟨#[]⟩) 1 16 Tryz.underlying63 HI0.out.1 HI0.out.2.1 HI0.out.2.2.1 HI0.out.2.2.2 rfl al _ _ _ rfl (HO5.out.alloc _) _ 1 _ [.string t] rfl rfl (fun j u hu => ⟨_,rfl,by rw [Addr.add_lit,Nat.zero_add,ah (heap_alloc_new w5 _)];simpa using hu⟩) aab cd af bF ?_))
    intro v6 w6 hown6 hgr6;have hb6 : Below w.heap.size w w6:=(H5.out.alloc H5.out.size _).grown hgr6 bF (fun g hg => (HO5.out.lt g hg).1);obtain ⟨r1,r2,r3,rfl⟩:=bj hown6;have HO6:=ae hown6;have H6:=ae hb6;have hs6:=hb6.size;clear hown6 hgr6 hb6
    go_wp2_with (first | (at_builtin;refine aX rfl _ _ 63 rfl w.heap.size 9 i0 (.string ⟨#[]⟩) 1 16 Tryz.underlying63 HI0.out.1 HI0.out.2.1 HI0.out.2.2.1 HI0.out.2.2.2 rfl al _ _ _ rfl (HO6.out) _ (len - k) _ ((zs.drop k).map Value.string) rfl aaX (fun j u hu => by first | (rw [List.drop_eq_nil_of_le af] at hu;simp at hu;done) | (rw [List.map_drop,List.getElem?_drop] at hu;obtain ⟨g9,o9,e,hgl,h3⟩:=HC.out _ u hu;cases e <;> exact ⟨_,rfl,by simp only [Addr.add_lit,Nat.add_assoc];exact (ak H6.out hgl).trans h3⟩)) (HON.out _) cd af af ?_))
    intro v7 w7 hown7 hgr7;have hb7 : Below w.heap.size w w7:=H6.out.grown hgr7 af (fun g hg => (HO6.out.lt g hg).1)
    replace hown7 : w7.ownsRow w.heap.size 9 1 v7 (len + 1) ((zs.take k ++ [t] ++ zs.drop k).map Value.string):=by
     have e9 : k + 1 + (len - k) = len + 1:=aaa
     try rw [e9] at hown7
     simpa using hown7
    obtain ⟨a',p',rfl,hT⟩:=bV.jj hown7 (HZS.out k);have HT7:=ae hT;have HB7:=ae hb7;clear hown7 hgr7 hb7 hT hik hkn
    go_wp2
    go_ret
    exact ⟨_,_,_,_,rfl,HT7.out.row,HP.out,HB7.out⟩)

def ff (c : Cl) (zs : List ByteArray) (s : ByteArray) : Prop:=∃ (j : Nat) (t : ByteArray) (v : Vd),zs[j]? = some t ∧ bu c t v ∧ v.n = s
theorem bu.name {c : Cl} {t : ByteArray} {v v' : Vd} (hx : aJ Xd.n c.xs) (h : bu c t v) (h' : bu c t v') : v.n = v'.n:=by
 obtain ⟨i,j,x,h1,h2,h3,h4⟩:=h;obtain ⟨i',j',x',k1,k2,k3,k4⟩:=h';obtain ⟨_,rfl⟩:=hx.inj h1 k1 (h2.trans k2.symm);rw [h4,k4]
theorem ff.snoc {c : Cl} {cs : List ByteArray} {t s : ByteArray} : ff c (cs ++ [t]) s ↔ ff c cs s ∨ ∃ v,bu c t v ∧ v.n = s:=by
 constructor
 ·rintro ⟨j,t',v,h1,h2,h3⟩;rw [List.getElem?_append] at h1;split at h1
  ·exact .inl ⟨j,t',v,h1,h2,h3⟩
  ·have h4:=List.mem_of_getElem? h1;rw [List.mem_singleton] at h4;subst h4;exact .inr ⟨v,h2,h3⟩
 ·rintro (⟨j,t',v,h1,h2,h3⟩ | ⟨v,h2,h3⟩)
  ·exact ⟨j,t',v,by rw [List.getElem?_append_left (List.getElem?_eq_some_iff.1 h1).1];exact h1,h2,h3⟩
  ·exact ⟨cs.length,t,v,by simp,h2,h3⟩
theorem yH {c : Cl} {cs zs : List ByteArray} {t : ByteArray} {v : Vd} {s : ByteArray} (hx : aJ Xd.n c.xs) (hb : bu c t v) : ((s ∈ zs ∨ ff c cs s) ∨ s = v.n) ↔ (s ∈ zs ∨ ff c (cs ++ [t]) s):=by
 rw [ff.snoc];constructor
 ·rintro ((h | h) | rfl)
  ·exact .inl h
  ·exact .inr (.inl h)
  ·exact .inr (.inr ⟨v,hb,rfl⟩)
 ·rintro (h | h | ⟨v',h1,rfl⟩)
  ·exact .inl (.inl h)
  ·exact .inl (.inr h)
  ·exact .inr (h1.name hx hb)
theorem zV {c : Cl} {cs zs : List ByteArray} {t s : ByteArray} (hb : ∀ v,¬ bu c t v) : (s ∈ zs ∨ ff c cs s) ↔ (s ∈ zs ∨ ff c (cs ++ [t]) s):=by
 rw [ff.snoc];constructor
 ·rintro (h | h)
  ·exact .inl h
  ·exact .inr (.inl h)
 ·rintro (h | h | ⟨v',h1,_⟩)
  ·exact .inl h
  ·exact .inr h
  ·exact absurd h1 (hb v')
theorem ka (d : Ad) (c : Cl) (t : ByteArray) (w : World) (hr : aM w d c.raw) (hT : aC c) {j : Nat} {v : Vd} (hv : c.vs[j]? = some v) (hb : bu c t v) :
  Calls Tryz.prog 113 #[.agg #[.slice d.a1 d.l1 d.c1,.slice d.a2 d.l2 d.c2,.slice d.a3 d.l3 d.c3,.slice d.a4 d.l4 d.c4,.slice d.a5 d.l5 d.c5,.int .i64 c.now],.string t] w fun e w' => e = .returned (.int .i64 j) ∧ Below w.heap.size w w':=by
 refine (eV d c t w hr hT.2.1.2.2.2.1.2.2 hT.2.1.2.2.1.2.2 (fun j v hv e => by have h9:=(hT.2.1.2.2.1.2.1 j v hv).1;rw [e] at h9;have h8:=h9.1;revert h8;decide)).mono ?_;rintro e w' ⟨hb2,⟨j',v',h1,h2,rfl⟩ | ⟨hno,rfl⟩⟩
 ·obtain ⟨rfl,_⟩:=hT.2.1.2.2.1.2.2.inj h1 hv (h2.name hT.2.1.2.2.2.1.2.2 hb);exact ⟨rfl,hb2⟩
 ·exact absurd hb (hno v)
theorem mF (d : Ad) (c : Cl) (t : ByteArray) (w : World) (hr : aM w d c.raw) (hT : aC c) (hno : ∀ v,¬ bu c t v) :
  Calls Tryz.prog 113 #[.agg #[.slice d.a1 d.l1 d.c1,.slice d.a2 d.l2 d.c2,.slice d.a3 d.l3 d.c3,.slice d.a4 d.l4 d.c4,.slice d.a5 d.l5 d.c5,.int .i64 c.now],.string t] w fun e w' => e = .returned (.int .i64 (-1)) ∧ Below w.heap.size w w':=by
 refine (eV d c t w hr hT.2.1.2.2.2.1.2.2 hT.2.1.2.2.1.2.2 (fun j v hv e => by have h9:=(hT.2.1.2.2.1.2.1 j v hv).1;rw [e] at h9;have h8:=h9.1;revert h8;decide)).mono ?_;rintro e w' ⟨hb2,⟨j',v',h1,h2,rfl⟩ | ⟨_,rfl⟩⟩
 ·exact absurd h2 (hno v')
 ·exact ⟨rfl,hb2⟩
def CP (c : Cl) (zs cs : List ByteArray) (w : World) (e : Ending) (w' : World) : Prop:=∃ a' l' c' zs',e = .returned (.slice a' l' c') ∧ ay w' a' l' c' zs' ∧ RT zs' ∧ (∀ s,s ∈ zs' ↔ s ∈ zs ∨ ff c cs s) ∧ zs'.length ≤ zs.length + cs.length ∧ Below w.heap.size w w'

theorem kb (d : Ad) (c : Cl) (a : Option Addr) (len cap : Nat) (zs : List ByteArray) (p : Pd) (va : Option Addr) (vl vc : Nat) (w : World) (hr : aM w d c.raw) (hT : aC c) (hz : ay w a len cap zs) (hri : RT zs) (hp : ay w va vl vc p.zs) (hl : len + vl ≤ 60) :
  Calls Tryz.prog 67 #[.agg #[.slice d.a1 d.l1 d.c1,.slice d.a2 d.l2 d.c2,.slice d.a3 d.l3 d.c3,.slice d.a4 d.l4 d.c4,.slice d.a5 d.l5 d.c5,.int .i64 c.now],.slice a len cap,.agg #[.string p.n,.int .i64 p.c,.string p.z,.slice va vl vc,.string p.d,.int .i64 p.p]] w (CP c zs p.zs w):=by
 obtain ⟨a1,l1,y1,a2,l2,y2,a3,l3,y3,a4,l4,y4,a5,l5,y5⟩:=d;dsimp only;have HR:=ae hr;have HT:=ae hT;have HP:=ae hp;have hpl : p.zs.length = vl:=hp.1;have hzl : zs.length = len:=hz.1;have HZ0:=ae hz;have HRI:=ae hri;have hm3 : l3 ≤ 9223372036854775807:=Nat.le_trans hr.v.2.1 hr.v.2.2.1;have hll : c.vs.length = l3:=by simpa using (show (c.vs.map vdF).length = l3 from hr.v.1)
 clear hr hT hp hz hri;go_enter Tryz.func67,Tryz.ntmps67;go_wp2;go_loopw [1,7] (fun vl0 vi wr => ∃ (k : Nat) (ca : Option Addr) (cl cc : Nat) (ys : List ByteArray),k ≤ vl ∧ vi = .int .i64 k ∧ vl0 = .slice ca cl cc ∧ Hid (ay wr ca cl cc ys ∧ RT ys ∧ (∀ s,s ∈ ys ↔ s ∈ zs ∨ ff c (p.zs.take k) s) ∧ ys.length ≤ zs.length + k) ∧ Hid (Below ((w.alloc (.cells #[.slice a1 l1 y1,.slice a2 l2 y2,.slice a3 l3 y3,.slice a4 l4 y4,.slice a5 l5 y5,.int .i64 c.now] 37)).alloc (.cells #[.string p.n,.int .i64 p.c,.string p.z,.slice va vl vc,.string p.d,.int .i64 p.p] 65)).heap.size ((w.alloc (.cells #[.slice a1 l1 y1,.slice a2 l2 y2,.slice a3 l3 y3,.slice a4 l4 y4,.slice a5 l5 y5,.int .i64 c.now] 37)).alloc (.cells #[.string p.n,.int .i64 p.c,.string p.z,.slice va vl vc,.string p.d,.int .i64 p.p] 65)) wr)) (fun _ vi _ => vl - (intOf vi).toNat);case atStart => exact ⟨0,a,len,cap,zs,by omega,rfl,rfl,⟨HZ0.out.below (aF _ _ _),HRI.out,fun s => ⟨.inl,fun h => h.elim id (fun ⟨j,t,v,h,_⟩ => by simp at h)⟩,by omega⟩,Below.refl _ _⟩
 case round =>
  obtain ⟨k,ca,cl,cc,ys,hk,rfl,rfl,HQ,HL⟩:=hrel;have hb0:=HL.out;obtain ⟨HA0,HA1,hbx⟩:=cP hb0;have Bk:=ae HA0;have Bp:=ae HA1;have HB:=ae hbx;clear hb0 HA0 HA1 hbx;have hyl : ys.length = cl:=HQ.out.1.1;have hyb:=HQ.out.2.2.2;by_cases hlt : k < vl
  ·have hk1 : (k : Int) < vl:=aaa
   obtain ⟨b,o,t,rfl,hb,hx,hc,hsz⟩:=(HP.out.below HB.out).at hlt;have HX:=ae hx;clear hx hsz;have HL2 : Hid (Bw wr wr):=Bw.refl _;rcases Classical.em (∃ v,bu c t v) with ⟨v,hbd⟩ | hno
   ·obtain ⟨i9,j,x9,h91,h92,hv,h94⟩:=hbd;have hbd : bu c t v:=⟨i9,j,x9,h91,h92,hv,h94⟩;have HVJ:=ae hv;have HBD:=ae hbd;clear h91 h92 h94 hbd hv;obtain ⟨k0,k1,k2,k3,k4,k5⟩:=cs6 Bk.out;have ltk_0:=aa Bk.out;obtain ⟨p0,p1,p2,p3,p4,p5⟩:=cs6 Bp.out;have ltp_0:=aa Bp.out;go_wp2_with fail;clear k0 k1 k2 k3 k4 k5 ltk_0 p0 p1 p2 p3 p4 p5 ltp_0;have Gk:=Bk;have Gp:=Bp;have HW:=HB;obtain ⟨k0,k1,k2,k3,k4,k5⟩:=sl6 Gk;obtain ⟨p0,p1,p2,p3,p4,p5⟩:=sl6 Gp;have tc:=fun q : Wd wr => (q.cell hb).trans hc;have hne0:=Wd.ne wr;have HC0:=ae (fun q : Wd wr => ka ⟨a1,l1,y1,a2,l2,y2,a3,l3,y3,a4,l4,y4,a5,l5,y5⟩ c t q.w (HR.out.below (HW.out.trans (q.b.mono HW.out.size))) HT.out HVJ.out HBD.out);go_wp2_with fail;refine aj av av ?_;repeat (go_big_quiet_step (first | (go_at_call 113;exact Calls.wide (HC0.out _)) | fail))
    refine wpQuiet_nil ?_;rintro _ ⟨q1,rfl⟩;obtain ⟨HB1,Ck⟩:=cH;have Cp:=upK Gp q1.b;have CHL2:=ae ((HL2.out).below q1.b);clear hne0 HW HB HC0 k0 k1 k2 k3 k4 k5 p0 p1 p2 p3 p4 p5 tc Gk Gp Bk Bp HL2 hb hc;have HB:=HB1;clear HB1;have HL2:=CHL2;clear CHL2;have Bk:=Ck;clear Ck;have Bp:=Cp;clear Cp;have hv:=HVJ.out;have hj3 : j < l3:=by have:=(List.getElem?_eq_some_iff.1 hv).1;omega
    have hj0 : ¬ (j : Int) < 0:=aaa
    have hj1 : (0 : Int) ≤ j:=aaa
    have hj2 : (j : Int) < l3:=aaa
    obtain ⟨b3,o3,y,rfl,hb3,hy,hat⟩:=bC (HR.out.v.below HB.out) hj3;rw [hv] at hy;obtain rfl:=Option.some.inj hy;obtain ⟨ya,yl,yc,-,hz0,-,-,-,hc0,-,-,-,-,-,-,-⟩:=aK hat;clear hv hy hat;obtain ⟨k0,k1,k2,k3,k4,k5⟩:=cs6 Bk.out;have ltk_1:=aa Bk.out;obtain ⟨p0,p1,p2,p3,p4,p5⟩:=cs6 Bp.out;have ltp_1:=aa Bp.out;go_wp2_with fail;refine (j_ ca cl cc ys v.n _ (HQ.out.1.below HL2.out.out) af hz0).mono ?_;rintro e w2 ⟨sa,sl,sc,zs2,rfl,htx,hput,hb2⟩;clear k0 k1 k2 k3 k4 k5 ltk_1 p0 p1 p2 p3 p4 p5 ltp_1;replace Bk:=upK Bk hb2;replace Bp:=upK Bp hb2;replace HL2:=ae (HL2.out.below hb2);replace HB:=upB HB hb2;clear hb2;have HTX:=ae htx;have HPU:=ae hput;clear htx hput hc0 hz0 hb3;obtain ⟨k0,k1,k2,k3,k4,k5⟩:=cs6 Bk.out;have ltk_2:=aa Bk.out;obtain ⟨p0,p1,p2,p3,p4,p5⟩:=cs6 Bp.out;have ltp_2:=aa Bp.out;go_wp2;refine ⟨⟨k + 1,sa,sl,sc,zs2,by omega,by go_num,rfl,⟨HTX.out,HPU.out.DZ HQ.out.2.1,fun s => ?_,by have h9:=HPU.out.len;omega⟩,HL.out.trans (HL2.out.out.mono HL.out.size)⟩,by simp [intOf];omega⟩;rw [HPU.out.mem,HQ.out.2.2.1,List.take_add_one,HX.out,Option.toList_some];exact yH HT.out.2.1.2.2.2.1.2.2 HBD.out
   ·have HNO : Hid (∀ v,¬ bu c t v):=fun v h => hno ⟨v,h⟩;clear hno;obtain ⟨k0,k1,k2,k3,k4,k5⟩:=cs6 Bk.out;have ltk_0:=aa Bk.out;obtain ⟨p0,p1,p2,p3,p4,p5⟩:=cs6 Bp.out;have ltp_0:=aa Bp.out;go_wp2_with fail;clear k0 k1 k2 k3 k4 k5 ltk_0 p0 p1 p2 p3 p4 p5 ltp_0;have Gk:=Bk;have Gp:=Bp;have HW:=HB;obtain ⟨k0,k1,k2,k3,k4,k5⟩:=sl6 Gk;obtain ⟨p0,p1,p2,p3,p4,p5⟩:=sl6 Gp;have tc:=fun q : Wd wr => (q.cell hb).trans hc;have hne0:=Wd.ne wr;have HC0:=ae (fun q : Wd wr => mF ⟨a1,l1,y1,a2,l2,y2,a3,l3,y3,a4,l4,y4,a5,l5,y5⟩ c t q.w (HR.out.below (HW.out.trans (q.b.mono HW.out.size))) HT.out HNO.out);go_wp2_with fail;refine aj av av ?_;repeat (go_big_quiet_step (first | (go_at_call 113;exact Calls.wide (HC0.out _)) | fail))
    refine wpQuiet_nil ?_;rintro _ ⟨q1,rfl⟩;obtain ⟨HB1,Ck⟩:=cH;have Cp:=upK Gp q1.b;have CHL2:=ae ((HL2.out).below q1.b);clear hne0 HW HB HC0 k0 k1 k2 k3 k4 k5 p0 p1 p2 p3 p4 p5 tc Gk Gp Bk Bp HL2 hb hc;have HB:=HB1;clear HB1;have HL2:=CHL2;clear CHL2;have Bk:=Ck;clear Ck;have Bp:=Cp;clear Cp;obtain ⟨k0,k1,k2,k3,k4,k5⟩:=cs6 Bk.out;have ltk_1:=aa Bk.out;obtain ⟨p0,p1,p2,p3,p4,p5⟩:=cs6 Bp.out;have ltp_1:=aa Bp.out;go_wp2;refine ⟨⟨k + 1,ca,cl,cc,ys,by omega,by go_num,rfl,⟨HQ.out.1.below HL2.out.out,HQ.out.2.1,fun s => ?_,by omega⟩,HL.out.trans (HL2.out.out.mono HL.out.size)⟩,by simp [intOf];omega⟩;rw [HQ.out.2.2.1,List.take_add_one,HX.out,Option.toList_some];exact zV HNO.out
  have hk1 : ¬ (k : Int) < vl:=aaa
  have HQ2:=HQ;rw [List.take_of_length_le (show p.zs.length ≤ k by omega)] at HQ2;obtain ⟨k0,k1,k2,k3,k4,k5⟩:=cs6 Bk.out;have ltk_0:=aa Bk.out;obtain ⟨p0,p1,p2,p3,p4,p5⟩:=cs6 Bp.out;have ltp_0:=aa Bp.out;go_wp2;go_ret;exact ⟨_,_,_,ys,rfl,HQ2.out.1,HQ2.out.2.1,HQ2.out.2.2.1,by have:=HQ2.out.2.2.2;omega,HB.out⟩

def PBs (c : Cl) (t : ByteArray) (k : Nat) (s : ByteArray) : Prop:=∃ (j : Nat) (p : Pd),j < k ∧ c.ps[j]? = some p ∧ p.d = t ∧ ff c p.zs s
def VBs (c : Cl) (t : ByteArray) (k : Nat) (s : ByteArray) : Prop:=∃ (j : Nat) (v : Vd),j < k ∧ c.vs[j]? = some v ∧ InL v.zs t ∧ v.n = s
theorem PBs.yes {c : Cl} {t s : ByteArray} {k : Nat} {p : Pd} (hp : c.ps[k]? = some p) (hd : p.d = t) : PBs c t (k + 1) s ↔ PBs c t k s ∨ ff c p.zs s:=by
 constructor
 ·rintro ⟨j,q,h1,h2,h3,h4⟩;by_cases e : j = k
  ·subst e;rw [hp] at h2;obtain rfl:=Option.some.inj h2;exact .inr h4
  ·exact .inl ⟨j,q,by omega,h2,h3,h4⟩
 ·rintro (⟨j,q,h1,h2,h3,h4⟩ | h)
  ·exact ⟨j,q,by omega,h2,h3,h4⟩
  ·exact ⟨k,p,by omega,hp,hd,h⟩
theorem PBs.no {c : Cl} {t s : ByteArray} {k : Nat} {p : Pd} (hp : c.ps[k]? = some p) (hd : ¬ p.d = t) : PBs c t (k + 1) s ↔ PBs c t k s:=by
 exact abP
theorem VBs.yes {c : Cl} {t s : ByteArray} {k : Nat} {v : Vd} (hp : c.vs[k]? = some v) (hd : InL v.zs t) : VBs c t (k + 1) s ↔ VBs c t k s ∨ s = v.n:=by
 constructor
 ·rintro ⟨j,q,h1,h2,h3,h4⟩;by_cases e : j = k
  ·subst e;rw [hp] at h2;obtain rfl:=Option.some.inj h2;exact .inr h4.symm
  ·exact .inl ⟨j,q,by omega,h2,h3,h4⟩
 ·rintro (⟨j,q,h1,h2,h3,h4⟩ | h)
  ·exact ⟨j,q,by omega,h2,h3,h4⟩
  ·exact ⟨k,v,by omega,hp,hd,h.symm⟩
theorem VBs.no {c : Cl} {t s : ByteArray} {k : Nat} {v : Vd} (hp : c.vs[k]? = some v) (hd : ¬ InL v.zs t) : VBs c t (k + 1) s ↔ VBs c t k s:=by
 exact abP
def AdF (c : Cl) (zs cs : List ByteArray) : Fact:=fun v w => ∃ a' l' c' zs',v = .slice a' l' c' ∧ ay w a' l' c' zs' ∧ RT zs' ∧ (∀ s,s ∈ zs' ↔ s ∈ zs ∨ ff c cs s) ∧ zs'.length ≤ zs.length + cs.length
theorem AdF.mono {c : Cl} {zs cs : List ByteArray} : Fact.bw (AdF c zs cs):=by
 rintro v w w' ⟨a',l',c',zs',h1,h2,h3⟩ hb;exact ⟨a',l',c',zs',h1,h2.below hb,h3⟩
def CO (c : Cl) (t : ByteArray) (w : World) (e : Ending) (w' : World) : Prop:=∃ a' l' c' zs',e = .returned (.slice a' l' c') ∧ ay w' a' l' c' zs' ∧ RT zs' ∧ (∀ s,s ∈ zs' ↔ PBs c t c.ps.length s ∨ VBs c t c.vs.length s) ∧ Below w.heap.size w w'

theorem so (d : Ad) (c : Cl) (t : ByteArray) (w : World) (hr : aM w d c.raw) (hT : aC c) :
  Calls Tryz.prog 68 #[.agg #[.slice d.a1 d.l1 d.c1,.slice d.a2 d.l2 d.c2,.slice d.a3 d.l3 d.c3,.slice d.a4 d.l4 d.c4,.slice d.a5 d.l5 d.c5,.int .i64 c.now],.string t] w (CO c t w):=by
 obtain ⟨a1,l1,y1,a2,l2,y2,a3,l3,y3,a4,l4,y4,a5,l5,y5⟩:=d;dsimp only;obtain ⟨HR,hl1,hm1,hl2,hm2,hl3,hm3,hl4,hm4,hl5,hm5⟩:=ew;clear hr;have HT:=ae hT;clear hT;have h58 : c.ps.length ≤ 8:=by have:=HT.out.sm.p;omega
 have h38 : c.vs.length ≤ 8:=by have:=HT.out.sm.v;omega
 go_enter Tryz.func68,Tryz.ntmps68;go_wp2;go_loopw [5,6] (fun vo vi wr => ∃ (k : Nat) (ca : Option Addr) (cl cc : Nat) (ys : List ByteArray),k ≤ l5 ∧ vi = .int .i64 k ∧ vo = .slice ca cl cc ∧ Hid (ay wr ca cl cc ys ∧ RT ys ∧ (∀ s,s ∈ ys ↔ PBs c t k s) ∧ ys.length ≤ 3 * k) ∧ Hid (Below (w.heap.size + 1) (w.alloc (.cells #[.slice a1 l1 y1,.slice a2 l2 y2,.slice a3 l3 y3,.slice a4 l4 y4,.slice a5 l5 y5,.int .i64 c.now] 37)) wr)) (fun _ vi _ => l5 - (intOf vi).toNat);case atStart => exact ⟨0,_,0,0,[],by omega,rfl,rfl,⟨⟨rfl,Nat.le_refl _,by omega,fun j x hx => by simp at hx,.inl rfl⟩,List.Pairwise.nil,fun s => ⟨fun h => by simp at h,fun ⟨j,p,h,_⟩ => by omega⟩,by simp⟩,by first | exact Below.refl _ _ | exact (an _ _).mono aN⟩
 case round =>
  obtain ⟨k,ca,cl,cc,ys,hk,rfl,rfl,HQ,HL⟩:=hrel;have Bk:=ae ((HL.out.block w.heap.size af).trans (heap_alloc_new w (.cells #[.slice a1 l1 y1,.slice a2 l2 y2,.slice a3 l3 y3,.slice a4 l4 y4,.slice a5 l5 y5,.int .i64 c.now] 37)));have HB:=ae ((an w (.cells #[.slice a1 l1 y1,.slice a2 l2 y2,.slice a3 l3 y3,.slice a4 l4 y4,.slice a5 l5 y5,.int .i64 c.now] 37)).trans (HL.out.mono af));have hyl : ys.length = cl:=HQ.out.1.1;have hyb:=HQ.out.2.2.2;by_cases hlt : k < l5
  ·obtain ⟨b,o,x,rfl,hb,hx,hat⟩:=bQ (HR.out.p.below HB.out) hlt;obtain ⟨va,vl,vc,hvr,z0,z2,z4,c0,c1,c2,c3,c4,c5⟩:=aU hat;have HXx:=ae hx;have HTx:=ae hvr;have HZx0:=ae z0;have HZx2:=ae z2;have HZx4:=ae z4;clear hat hx z0 z2 z4 hvr;have hbw:=hb;clear hb;have hk1 : (k : Int) < l5:=aaa
   have HL2 : Hid (Bw wr wr):=Bw.refl _;by_cases he : x.d = t
   ·have hq:=aV he;have HHE:=ae he;clear he;obtain ⟨k0,k1,k2,k3,k4,k5⟩:=cs6 Bk.out;have ltk_0:=aa Bk.out;go_wp2_with fail;have hv3 : vl ≤ 3:=by have h9 : (x.zs.length : Int) ≤ 3:=(HT.out.2.1.2.2.2.2.2.1 k x HXx.out).2.2.2.1.1;have h8 : x.zs.length = vl:=HTx.out.1;omega
    have HCS:=ae (And.intro c0 (And.intro c1 (And.intro c2 (And.intro c3 (And.intro c4 c5)))));have HBW:=ae hbw;clear c0 c1 c2 c3 c4 c5 hbw;clear k0 k1 k2 k3 k4 k5 ltk_0;rename_i K0 hK0;refine aT av rfl rfl av ?_;refine' aw.aq _ rfl ?_ ?_;rotate_left 1
    ·refine Obl.plain rfl ?_;intro ac wg K hsz hW hf hK;clear hsz;have e2:=hf 2 al;simp [ai,List.lookup] at e2;exact gF
    refine' aw.aq _ rfl ?_ ?_;rotate_left 1
    ·exact abm
    refine' aw.aq _ rfl ?_ ?_;rotate_left 1
    ·exact pt
    refine' aw.aq _ rfl ?_ ?_;rotate_left 1
    ·refine Obl.plain rfl ?_;intro ac wg K hsz hW hf hK;clear hsz;have e26:=hf 26 al;simp [ai,List.lookup] at e26;exact gF
    refine' aw.aq _ rfl ?_ ?_;rotate_left 1
    ·refine Obl.plain rfl ?_;intro ac wg K hsz hW hf hK;clear hsz;have e6:=hf 6 al;simp [ai,List.lookup] at e6;clear hf;exact aO
    refine' aw.aq _ rfl ?_ ?_;rotate_left 1
    ·refine Obl.plain rfl ?_;intro ac wg K hsz hW hf hK;clear hsz;have e27:=hf 27 al;simp [ai,List.lookup] at e27;have e28:=hf 28 al;simp [ai,List.lookup] at e28;clear hf;have hk1 : (k : Int) < l5:=aaa
     exact aO
    refine' aw.aq _ rfl ?_ ?_;rotate_left 1
    ·refine Obl.plain rfl ?_;intro ac wg K hsz hW hf hK;clear hsz;have e29:=hf 29 al;simp [ai,List.lookup] at e29;clear hf;obtain ⟨d0,d1,d2,d3,d4,d5⟩:=HCS.out;replace d0:=(ak hW HBW.out).trans d0;replace d1:=(ak hW HBW.out).trans d1;replace d2:=(ak hW HBW.out).trans d2;replace d3:=(ak hW HBW.out).trans d3;replace d4:=(ak hW HBW.out).trans d4;replace d5:=(ak hW HBW.out).trans d5;exact aO
    refine aw.step (AdF c ys x.zs) rfl (AdF.mono) ?_ ?_
    ·refine Obl.plain rfl ?_;intro ac wg K hsz hW hf hK;clear hsz;have e24:=hf 24 al;simp [ai,List.lookup] at e24;have e25:=hf 25 al;simp [ai,List.lookup] at e25;have e30:=hf 30 al;simp [ai,List.lookup] at e30;clear hf;go_simp;refine (kb ⟨a1,l1,y1,a2,l2,y2,a3,l3,y3,a4,l4,y4,(some ⟨b,o,none⟩),l5,y5⟩ c ca cl cc ys x va vl vc _ (HR.out.below (HB.out.trans (hW.mono HB.out.size))) HT.out (HQ.out.1.below hW) HQ.out.2.1 (HTx.out.below hW) af).mono ?_;rintro e w6 ⟨sa,sl,sc,zs2,rfl,htx,hri2,hmm2,hl2,hb6⟩;exact hK _ _ hb6 ⟨sa,sl,sc,zs2,rfl,htx,hri2,hmm2,hl2⟩
    refine aw.done ?_;intro q w1 hW hf;simp only [List.forall_mem_cons] at hf;obtain ⟨⟨sa,sl,sc,zs2,h31,htx,hri2,hmm2,hl2⟩,-⟩:=hf;have hb2:=hW;intro K hK;rw [if_pos bH];simp only [aE,List.foldr,Act.put,List.setIfInBounds_toArray,List.set_cons_zero,List.set_cons_succ,h31];simp only [List.getLast];go_simp;refine hK _ _ ?_;refine hK0 _ _ ?_;clear hK hK0 K K0;replace Bk:=upK Bk hb2;replace HL2:=ae (HL2.out.below hb2);replace HB:=upB HB hb2;clear hb2;clear hW HCS HBW;have HTX:=ae (And.intro htx (And.intro hri2 hmm2));have hxz : x.zs.length = vl:=HTx.out.1;clear htx hri2 hmm2;obtain ⟨k0,k1,k2,k3,k4,k5⟩:=cs6 Bk.out;have ltk_1:=aa Bk.out;go_wp2;refine ⟨⟨k + 1,sa,sl,sc,zs2,by omega,by go_num,rfl,⟨HTX.out.1,HTX.out.2.1,fun s => ?_,by omega⟩,HL.out.trans (HL2.out.out.mono (by have h8:=HL.out.size;rw [df] at h8;exact h8))⟩,by simp [intOf];omega⟩;rw [HTX.out.2.2,HQ.out.2.2.1,PBs.yes HXx.out HHE.out]
   have hq:=bo he;have HHE:=ae he;clear he;obtain ⟨k0,k1,k2,k3,k4,k5⟩:=cs6 Bk.out;have ltk_0:=aa Bk.out;go_wp2;refine ⟨⟨k + 1,ca,cl,cc,ys,by omega,by go_num,rfl,⟨HQ.out.1,HQ.out.2.1,fun s => ?_,by omega⟩,HL.out⟩,by simp [intOf];omega⟩;rw [HQ.out.2.2.1,PBs.no HXx.out HHE.out]
  have hkl : k = l5:=aaa
  have hk1 : ¬ (k : Int) < l5:=aaa
  clear hlt HL;obtain ⟨W1,hW1⟩ : ∃ W1,W1 = wr:=⟨_,rfl⟩;subst hW1;obtain ⟨k0,k1,k2,k3,k4,k5⟩:=cs6 Bk.out;have ltk_0:=aa Bk.out;go_wp2;clear k0 k1 k2 k3 k4 k5 ltk_0;go_loopw [5,7] (fun vo vi wr => ∃ (m2 : Nat) (ca : Option Addr) (cl cc : Nat) (ys : List ByteArray),m2 ≤ l3 ∧ vi = .int .i64 m2 ∧ vo = .slice ca cl cc ∧ Hid (ay wr ca cl cc ys ∧ RT ys ∧ (∀ s,s ∈ ys ↔ PBs c t k s ∨ VBs c t m2 s) ∧ ys.length ≤ 3 * k + m2) ∧ Hid (Below W1.heap.size W1 wr)) (fun _ vi _ => l3 - (intOf vi).toNat);case atStart => exact ⟨0,_,_,_,ys,by omega,rfl,rfl,⟨HQ.out.1,HQ.out.2.1,fun s => by rw [HQ.out.2.2.1];exact ⟨.inl,fun h => h.elim id (fun ⟨j,p,h,_⟩ => by omega)⟩,by omega⟩,Below.refl _ _⟩
  case round =>
   clear HQ hyl hyb;obtain ⟨m2,ca,cl,cc,ys,hmm2,rfl,rfl,HQ,HL⟩:=hrel;replace Bk:=ae ((HL.out.block _ (aa Bk.out)).trans Bk.out);replace HB:=ae (HB.out.trans (HL.out.mono HB.out.size));have hyl : ys.length = cl:=HQ.out.1.1;have hyb:=HQ.out.2.2.2;by_cases hlt : m2 < l3
   ·obtain ⟨b,o,x,rfl,hb,hx,hat⟩:=bC (HR.out.v.below HB.out) hlt;obtain ⟨va,vl,vc,hvr,z0,z2,z3,z5,c0,c1,c2,c3,c4,c5,c6,c7⟩:=aK hat;have HXx:=ae hx;have HTx:=ae hvr;have HZx0:=ae z0;have HZx2:=ae z2;have HZx3:=ae z3;have HZx5:=ae z5;clear hat hx z0 z2 z3 z5 hvr;have hbw:=hb;clear hb;have hk3 : (m2 : Int) < l3:=aaa
    have HL2 : Hid (Bw wr wr):=Bw.refl _;obtain ⟨k0,k1,k2,k3,k4,k5⟩:=cs6 Bk.out;have ltk_0:=aa Bk.out;go_wp2_with fail;refine (cQ va vl vc x.zs t _ HTx.out).mono ?_;rintro e w1 ⟨r,rfl,hh,hb2⟩;have hc0:=(ak hb2 hbw).trans c0;have hbw1 : b < w1.heap.size:=Nat.lt_of_lt_of_le hbw hb2.size;clear c0 c1 c2 c3 c4 c5 c6 c7 hbw;clear k0 k1 k2 k3 k4 k5 ltk_0;replace Bk:=upK Bk hb2;replace HL2:=ae (HL2.out.below hb2);replace HB:=upB HB hb2;clear hb2;cases r
    ·have HHN : Hid (¬ InL x.zs t):=fun h => (by have h9:=hh.2 h;cases h9);clear hh;obtain ⟨k0,k1,k2,k3,k4,k5⟩:=cs6 Bk.out;have ltk_1:=aa Bk.out;go_wp2;refine ⟨⟨m2 + 1,ca,cl,cc,ys,by omega,by go_num,rfl,⟨HQ.out.1.below HL2.out.out,HQ.out.2.1,fun s => ?_,by omega⟩,HL.out.trans (HL2.out.out.mono HL.out.size)⟩,by simp [intOf];omega⟩;rw [HQ.out.2.2.1,VBs.no HXx.out HHN.out]
    have HHN : Hid (InL x.zs t):=hh.1 bS;clear hh;obtain ⟨k0,k1,k2,k3,k4,k5⟩:=cs6 Bk.out;have ltk_1:=aa Bk.out;go_wp2_with fail;refine (j_ ca cl cc ys x.n _ (HQ.out.1.below HL2.out.out) af HZx0.out).mono ?_;rintro e w2 ⟨sa,sl,sc,zs2,rfl,htx,hput,hb2⟩;clear k0 k1 k2 k3 k4 k5 ltk_1;replace Bk:=upK Bk hb2;replace HL2:=ae (HL2.out.below hb2);replace HB:=upB HB hb2;clear hb2;have HTX:=ae htx;have HPU:=ae hput;clear htx hput hc0 hbw1;obtain ⟨k0,k1,k2,k3,k4,k5⟩:=cs6 Bk.out;have ltk_2:=aa Bk.out;go_wp2;refine ⟨⟨m2 + 1,sa,sl,sc,zs2,by omega,by go_num,rfl,⟨HTX.out,HPU.out.DZ HQ.out.2.1,fun s => ?_,by have h9:=HPU.out.len;omega⟩,HL.out.trans (HL2.out.out.mono HL.out.size)⟩,by simp [intOf];omega⟩;rw [HPU.out.mem,HQ.out.2.2.1,VBs.yes HXx.out HHN.out,or_assoc]
   have hk3 : ¬ (m2 : Int) < l3:=aaa
   have hkl2 : m2 = l3:=aaa
   obtain ⟨k0,k1,k2,k3,k4,k5⟩:=cs6 Bk.out;have ltk_0:=aa Bk.out;go_wp2;go_ret;exact ⟨_,_,_,ys,rfl,HQ.out.1,HQ.out.2.1,by rw [hl5,hl3,← hkl,← hkl2];exact HQ.out.2.2.1,HB.out⟩

theorem aJ.rt {α : Type} {nm : α → ByteArray} {xs : List α} (h : aJ nm xs) : RT (xs.map nm):=by
 unfold RT;rw [List.pairwise_iff_getElem];intro i j hi hj hij;rw [List.getElem_map,List.getElem_map];rw [List.length_map] at hi hj;exact h.lt hij (List.getElem?_eq_getElem hi) (List.getElem?_eq_getElem hj)
theorem dm.rt {c : Cl} {t : ByteArray} (h : aJ Vd.n c.vs) : RT (dm c t c.vs):=List.Pairwise.sublist (List.filter_sublist.map _) h.rt
theorem fS {x : ByteArray} (h : aL x) : ¬ x = ⟨#[]⟩:=fun e => by
 rw [e] at h;have h8:=h.1;revert h8;decide
theorem yE {c : Cl} {t : ByteArray} {zs : List ByteArray} (hT : aC c) (hr : RT zs) (hm : ∀ s,s ∈ zs ↔ PBs c t c.ps.length s ∨ VBs c t c.vs.length s) : zs = dm c t c.vs:=by
 have hv:=hT.2.1.2.2.1.2.2;have hx:=hT.2.1.2.2.2.1.2.2;refine hr.ext (dm.rt hv) (fun s => ?_);rw [hm];unfold dm;rw [List.mem_map];constructor
 ·rintro (⟨j,p,_,hp,hd,k,cl,v,hk,hb,rfl⟩ | ⟨j,v,_,h2,h3,rfl⟩)
  ·obtain ⟨i,jv,x,h1,h2,h3,h4⟩:=hb;have hne : ¬ x.v = ⟨#[]⟩:=by rw [← h4];exact fS (hT.2.1.2.2.1.2.1 jv v h3).1
   obtain ⟨i',j',x',v',k1,k2,k3,k4,k5,k6,_⟩:=(hT.2.2.1.2 i x h1).2.resolve_left hne;obtain ⟨_,rfl⟩:=hv.inj k3 h3 (k4.trans h4.symm);refine ⟨v',List.mem_filter.2 ⟨List.mem_of_getElem? h3,?_⟩,rfl⟩;unfold onB;rw [Bool.or_eq_true];refine .inr (c8.2 ⟨j,p,hp,hd,k,?_⟩);rw [hk,k6,h2]
  ·exact ab0
 ·rintro ⟨v,h1,rfl⟩;obtain ⟨h2,h3⟩:=List.mem_filter.1 h1;obtain ⟨jv,hj⟩:=List.getElem?_of_mem h2;unfold onB at h3;rw [Bool.or_eq_true] at h3;rcases h3 with h3 | h3
  ·exact .inr ⟨jv,v,(List.getElem?_eq_some_iff.1 hj).1,hj,ed.1 h3,rfl⟩
  ·obtain ⟨j,p,hp,hd,k,hk⟩:=c8.1 h3;have hz:=(hT.2.1.2.2.2.2.2.1 j p hp).2.2.2.1.2;have hne : ¬ v.m = ⟨#[]⟩:=fS (hz k v.m hk).1;obtain ⟨i',j',x',v',k1,k2,k3,k4,k5,k6,_⟩:=(hT.2.2.1.1 jv v hj).2.resolve_left hne;exact .inl ⟨j,p,(List.getElem?_eq_some_iff.1 hp).1,hp,hd,k,v.m,v,hk,⟨i',jv,x',k1,k2,hj,k5.symm⟩,rfl⟩

def AskPWhy (c : Cl) (t : ByteArray) : Nat → Prop
 | 0 => 8000 < t.size
 | 1 => ¬ 8000 < t.size ∧ ¬ aC c
 | 2 => ¬ 8000 < t.size ∧ aC c ∧ hit Pd.n c.ps t = false
 | _ => False
def Dq (c : Cl) (t : ByteArray) (E : Nat → Addr) (w : World) (e : Ending) (w' : World) : Prop :=
 Below w.heap.size w w' ∧ ((∃ i,i < 9 ∧ AskPWhy c t i ∧ e = .returned (.tuple #[.agg #[.string ⟨#[]⟩,.int .i64 0,.string ⟨#[]⟩,.slice none 0 0,.string ⟨#[]⟩,.int .i64 0],.iface 255 (.pointer (some (E i)))])) ∨
  (¬ 8000 < t.size ∧ aC c ∧ ∃ (x : Pd) (va : Option Addr) (vl vc : Nat),c.ps[pl Pd.n c.ps t]? = some x ∧ x.n = t ∧ e = .returned (.tuple #[.agg #[.string x.n,.int .i64 x.c,.string x.z,.slice va vl vc,.string x.d,.int .i64 x.p],.nilIface]) ∧ ay w va vl vc x.zs))

theorem sO (d : Ad) (c : Cl) (t : ByteArray) (E : Nat → Addr) (w : World) (hr : aM w d c.raw) (hG : Ers w E) :
  Calls Tryz.prog 31 #[.agg #[.slice d.a1 d.l1 d.c1,.slice d.a2 d.l2 d.c2,.slice d.a3 d.l3 d.c3,.slice d.a4 d.l4 d.c4,.slice d.a5 d.l5 d.c5,.int .i64 c.now],.string t] w (Dq c t E w):=by
 obtain ⟨HR,HE,HB⟩:=mY;clear hr hG;by_cases hl : 8000 < t.size
 ·have ev:=(HE.out.below (aF w (.cells #[.slice d.a1 d.l1 d.c1,.slice d.a2 d.l2 d.c2,.slice d.a3 d.l3 d.c3,.slice d.a4 d.l4 d.c4,.slice d.a5 d.l5 d.c5,.int .i64 c.now] 37) (.cells #[.string ⟨#[]⟩,.int .i64 0,.string ⟨#[]⟩,.slice none 0 0,.string ⟨#[]⟩,.int .i64 0] 65))).v0;go_enter Tryz.func31,Tryz.ntmps31;go_wp2_with fail;refine (fV t _ hl).mono ?_;rintro e w1 ⟨rfl,rfl⟩;go_wp2;go_region;go_wp2;exact bodyPost_ret (v:=.tuple #[.agg #[.string ⟨#[]⟩,.int .i64 0,.string ⟨#[]⟩,.slice none 0 0,.string ⟨#[]⟩,.int .i64 0],.iface 255 (.pointer (some (E 0)))]) aaI rfl ⟨Below.gi (aF _ _ _),.inl ⟨0,by decide,hl,rfl⟩⟩
 go_enter Tryz.func31,Tryz.ntmps31;go_wp2_with fail;refine (fW t _ hl).mono ?_;rintro e w1 ⟨rfl,rfl⟩;go_wp2_with fail;refine (qA d c _ (HR.out.below (HB.out.trans ((aF _ _ _).mono HB.out.size))) (HE.out.below (HB.out.trans ((aF _ _ _).mono HB.out.size))).ens).mono ?_;rintro e w1 ⟨r,rfl,hi,hb⟩;obtain ⟨HA0,HA1,hbx⟩:=cP hb;have Bk:=ae HA0;have Br:=ae HA1;replace HB:=upB HB hbx;clear hb hbx HA0 HA1;have HI:=ae hi;clear hi;cases r
 ·obtain ⟨k0,k1,k2,k3,k4,k5⟩:=cs6 Bk.out;have ltk_1:=aa Bk.out;obtain ⟨r0,r1,r2,r3,r4,r5⟩:=cs6 Br.out;have ltr_1:=aa Br.out;obtain ⟨fr0,fr1,fr2,fr3,fr4,fr5⟩:=eE;have ev:=(HE.out.below HB.out).v1;have evl:=bq HE.out.v1;have evn : ¬ 0 = w.heap.size + 1:=aaa
  go_wp2;go_region;go_wp2;exact bodyPost_ret (v:=.tuple #[.agg #[.string ⟨#[]⟩,.int .i64 0,.string ⟨#[]⟩,.slice none 0 0,.string ⟨#[]⟩,.int .i64 0],.iface 255 (.pointer (some (E 1)))]) aaI rfl ⟨Below.gi (sb1 (sb1 (sb1 (sb1 (sb1 (sb1 (HB.out))))))),.inl ⟨1,by decide,⟨hl,fun h => (by have:=HI.out.2 h;cases this)⟩,rfl⟩⟩
 have HT:=ae (HI.out.1 bS);clear HI;obtain ⟨k0,k1,k2,k3,k4,k5⟩:=cs6 Bk.out;have ltk_1:=aa Bk.out;go_wp2_with fail;refine (qL d.a5 d.l5 d.c5 c.ps t w _ HR.out.p HB.out).mono ?_;rintro e w2 ⟨hb,hf⟩;clear k0 k1 k2 k3 k4 k5 ltk_1;replace Bk:=upK Bk hb;replace Br:=upK Br hb;replace HB:=upB HB hb;clear hb;rcases hf with ⟨hh,x,va,vl,vc,hx,hn,rfl,z0,z2,z4,hvr⟩ | ⟨hh,rfl⟩
 ·have HX:=ae (And.intro hx (And.intro hn hvr));clear hx hn z0 z2 z4 hh hvr;obtain ⟨k0,k1,k2,k3,k4,k5⟩:=cs6 Bk.out;have ltk_2:=aa Bk.out;obtain ⟨r0,r1,r2,r3,r4,r5⟩:=cs6 Br.out;have ltr_2:=aa Br.out;obtain ⟨fr0,fr1,fr2,fr3,fr4,fr5⟩:=eE;have hrl : w.heap.size + 1 < w2.heap.size:=aa Br.out;go_wp2;exact bodyPost_ret (v:=.tuple #[.agg #[.string x.n,.int .i64 x.c,.string x.z,.slice va vl vc,.string x.d,.int .i64 x.p],.nilIface]) aaI rfl ⟨Below.alloc (sb1 (sb1 (sb1 (sb1 (sb1 (sb1 (HB.out))))))) aas _,.inr ⟨hl,HT.out,x,va,vl,vc,HX.out.1,HX.out.2.1,rfl,HX.out.2.2⟩⟩
 ·have HH:=ae hh;clear hh;obtain ⟨k0,k1,k2,k3,k4,k5⟩:=cs6 Bk.out;have ltk_2:=aa Bk.out;obtain ⟨r0,r1,r2,r3,r4,r5⟩:=cs6 Br.out;have ltr_2:=aa Br.out;obtain ⟨fr0,fr1,fr2,fr3,fr4,fr5⟩:=eE;have ev:=(HE.out.below HB.out).v2;have evl:=bq HE.out.v2;have evn : ¬ 2 = w.heap.size + 1:=aaa
  have evl2 : 2 < w2.heap.size:=bq ev;have hrl : w.heap.size + 1 < w2.heap.size:=aa Br.out;go_wp2;go_region;go_wp2;exact bodyPost_ret (v:=.tuple #[.agg #[.string ⟨#[]⟩,.int .i64 0,.string ⟨#[]⟩,.slice none 0 0,.string ⟨#[]⟩,.int .i64 0],.iface 255 (.pointer (some (E 2)))]) aaI rfl ⟨Below.gi (Below.alloc (sb1 (sb1 (sb1 (sb1 (sb1 (sb1 (HB.out))))))) aas _),.inl ⟨2,by decide,⟨hl,HT.out,HH.out⟩,rfl⟩⟩

theorem kF (a : Option Addr) (n cap i base vb : Nat) (X ys : List Value) (w : World) (ho : w.ownsRow base 65 6 (.slice a n cap) n X) (hn : n ≤ 8) (hin : i ≤ n) (hbs : base ≤ w.heap.size) (hy : w.heap[vb]? = some (.cells ys.toArray 65 (0,0))) (hyl : ys.length = 6) (hy1 : ∀ u ∈ ys,u.oneCell' = true) (hX1 : ∀ u ∈ X,u.oneCell' = true) (hne : ∀ g,a = some ⟨g,0,none⟩ → ¬ vb = g) :
  Calls Tryz.prog 164 #[.slice a n cap,.int .i64 i,.slice (some ⟨vb,0,none⟩) 1 1] w fun e w' => ∃ v',e = .returned v' ∧ w'.ownsRow base 65 6 v' (n + 1) (X.take (i * 6) ++ ys ++ X.drop (i * 6)) ∧ w.grownBy w' ((.slice a n cap : Value).ownBlock):=by
 obtain ⟨i0,hi,hz0,hz1,hz2⟩:=info_parts gO;have HI0:=ae (And.intro hi (And.intro hz0 (And.intro hz1 hz2)));clear hi hz0 hz1 hz2;have hXl : X.length = n * 6:=ho.1;have hnc : n ≤ cap ∧ cap ≤ 9223372036854775807:=by
  exact aa6
 have hyn : ∀ (j : Nat) u,ys[j]? = some u → w.cell? ((⟨vb,0,none⟩ : Addr).add j) = some u:=fun j u hu => by
  rw [Addr.add_lit,ah hy,Nat.zero_add];simpa using hu
 have HYN:=ae hyn;have HO:=ae ho;have HY:=ae hy;have hvl : vb < w.heap.size:=aa hy;have HX1:=ae hX1;have HY1:=ae hy1;clear hyn ho hy hX1 hy1;by_cases hie : i = n
 ·subst hie;have e1 : X.take (i * 6) ++ ys ++ X.drop (i * 6) = X ++ ys:=abv
  rw [e1];clear e1;have hc0 : i ≤ cap:=hnc.1;have hq : cap = i ∨ ¬ cap = i:=Classical.em _;rcases hq with rfl | hcap
  ·exact acu
  ·exact acu
 have hil : i < n:=aaa
 obtain ⟨g,cur,rfl,hbg,hg,hcs,htk⟩ : ∃ g cur,a = some ⟨g,0,none⟩ ∧ base ≤ g ∧ w.heap[g]? = some (.cells cur 65 (0,0)) ∧ cur.size = cap * 6 ∧ cur.toList.take (n * 6) = X:=by
  exact aaY
 have hvg : ¬ vb = g:=hne g rfl;clear hne;have hcell : ∀ (j : Nat) u,X[j]? = some u → w.cell? ⟨g,j,none⟩ = some u:=fun j u hj => by
  exact aa2
 have hdl : (X.drop (i * 6)).length = (n - i) * 6:=aa1
 have hgl : g < w.heap.size:=aa hg;by_cases hroom : n + 1 ≤ cap
 ·have hcp1 : ∀ ty dc sc,(Builtin.copy_ #[124,124] ty #[.slice (some ⟨g,(i + 1) * 6,none⟩) (n - i) dc,.slice (some ⟨g,i * 6,none⟩) (n + 1 - i) sc]).run Tryz.prog w.drew = .ok (goInt (Nat.min (n + 1 - i) (n - i))) (w.drew.setRow g (cur.toList.take ((i + 1) * 6) ++ X.drop (i * 6) ++ cur.toList.drop ((i + 1) * 6 + (X.drop (i * 6)).length)).toArray):=fun ty dc sc =>
   bg w.drew 124 124 ty 65 g ((i + 1) * 6) (n - i) dc ⟨g,i * 6,none⟩ (n + 1 - i) sc 6 cur 65 (X.drop (i * 6)) i0 Tryz.underlying124 HI0.out.1 HI0.out.2.2.1 hg aak (fun j u hj => by
    rw [List.getElem?_drop] at hj;rw [Addr.add_lit]
    exact hcell _ u hj) (by rw [hdl,hcs];omega) (fun u hu => HX1.out u (List.mem_of_mem_drop hu))
  obtain ⟨cur1,hcur1⟩ : ∃ c1 : List Value,c1 = cur.toList.take ((i + 1) * 6) ++ X.drop (i * 6) ++ cur.toList.drop ((i + 1) * 6 + (X.drop (i * 6)).length):=⟨_,rfl⟩;rw [← hcur1] at hcp1;have hc1l : cur1.length = cap * 6:=by rw [hcur1];simp only [List.length_append,List.length_take,List.length_drop,hXl,Array.length_toList,hcs];omega
  obtain ⟨W1,hW1⟩ : ∃ W1,W1 = w.drew.setRow g cur1.toArray:=⟨_,rfl⟩;rw [← hW1] at hcp1;have hg1 : W1.heap[g]? = some (.cells cur1.toArray 65 (0,0)):=by rw [hW1];exact setRow_heap w.drew g _ _ 65 _ hg
  have hv1 : W1.heap[vb]? = w.heap[vb]?:=by rw [hW1];exact setRow_other w.drew g vb _ hvg
  have hcp2 : ∀ ty dc,(Builtin.copy_ #[124,35] ty #[.slice (some ⟨g,i * 6,none⟩) (n + 1 - i) dc,.slice (some ⟨vb,0,none⟩) 1 1]).run Tryz.prog W1 = .ok (goInt (Nat.min 1 (n + 1 - i))) (W1.setRow g (cur1.take (i * 6) ++ ys ++ cur1.drop (i * 6 + ys.length)).toArray):=fun ty dc => by
   have:=bg W1 124 35 ty 65 g (i * 6) (n + 1 - i) dc ⟨vb,0,none⟩ 1 1 6 cur1.toArray 65 ys i0 Tryz.underlying124 HI0.out.1 HI0.out.2.2.1 hg1 aam (fun j u hj => by
    rw [Addr.add_lit,ah (hv1.trans HY.out),Nat.zero_add]
    simpa using hj) abw HY1.out
   simpa using this
  have hov : ∀ lb cb,(callFunc 179 #[.slice (some ⟨vb,0,none⟩) 1 1,.slice (some ⟨g,(i + 1) * 6,none⟩) lb cb]).run Tryz.prog w = .ok (.value (.bool false)) w:=fun lb cb => by
   rw [run_callFunc_extern Tryz.func179 av av av (e:=Extern.SlicesOverlaps.overlaps #[35,35] #[4]) av,
    Lib.run_overlaps_apart w 35 4 65 Tryz.underlying35 6 (fun w => by kernel_rfl) ⟨vb,0,none⟩ ⟨g,(i + 1) * 6,none⟩ 1 1 lb cb hvg 65 65 ys.toArray.size cur.size (by simp [World.shape?,HY.out]) (by simp [World.shape?,hg]) (Nat.ne_of_gt (by rw [hcs];omega)) (au HY.out _) (au HY.out _)]
   rfl
  obtain ⟨hb2,hb4,hb5,hb6⟩:=aa4;obtain ⟨mixed,hw1,hb1⟩:=aal;obtain ⟨hin,htn,hb3⟩:=aaS;have u0:=run_underlying Tryz.underlying124;have HG:=ae hg;have HG1:=ae hg1;have HW1:=ae hW1;have HC1:=ae hcur1;have HTK:=ae htk;clear hg hg1 hW1 hcur1 htk hv1 hcell hdl hie;go_enter Tryz.func164,Tryz.ntmps164;go_wp2_with (simp only [hov]);go_region_law_o (refine cg rfl _ _ 124 124 rfl _ _ aac aac (hcp1 (3) (cap - (i + 1)) (cap - i)) ?_);go_wp2_with (at_builtin;refine bN _ rfl _ _ 124 35 rfl _ _ rfl rfl (hcp2 _ _) ?_);go_ret;refine ⟨_,rfl,⟨?_,Or.inr ⟨g,cap,(cur1.take (i * 6) ++ (ys ++ cur1.drop (i * 6 + 6))).toArray,rfl,hbg,setRow_heap W1 g _ _ _ _ HG1.out,hroom,by unfold maxLen;omega,?_,?_⟩⟩,?_⟩
  ·exact aaq
  ·exact aaO
  ·have e:=jq (a:=i * 6) (b:=n * 6) (c:=cap * 6) (m:=6) (c1:=cur1) HTK.out (by rw [Array.length_toList,hcs]) af af hyl (by rw [HC1.out,show (i + 1) * 6 = i * 6 + 6 by omega]);rw [show (n + 1) * 6 = n * 6 + 6 by omega];simpa using e
  ·exact aa8
 have hcn : cap = n:=aaa
 subst hcn;obtain ⟨N,hN⟩ : ∃ N,N = w.heap.size:=⟨_,rfl⟩;obtain ⟨G,hG⟩ : ∃ G,G = grownCap w (cap + 1) cap 65:=⟨_,rfl⟩;obtain ⟨ROW,hROW⟩ : ∃ R : Array Value,R = (X.take (i * 6)).toArray ++ Builtin.zeroCells (.agg #[.string ⟨#[]⟩,.int .i64 0,.string ⟨#[]⟩,.slice none 0 0,.string ⟨#[]⟩,.int .i64 0] : Value).cells (cap + 1 - i) ++ Builtin.zeroCells (.agg #[.string ⟨#[]⟩,.int .i64 0,.string ⟨#[]⟩,.slice none 0 0,.string ⟨#[]⟩,.int .i64 0] : Value).cells (G - (cap + 1)):=⟨_,rfl⟩;obtain ⟨W1,hW1⟩ : ∃ W1,W1 = w.drew.alloc (.cells ROW 65):=⟨_,rfl⟩;have hGn : cap + 1 ≤ G:=by rw [hG];exact grownCap_ge w _ _ _
 have hG63 : G ≤ 9223372036854775807:=by
  have:=grownCap_le_maxLen w (cap + 1) cap 65 cd;rw [← hG] at this;unfold maxLen at this;omega
 have hRs : ROW.size = G * 6:=by
  rw [hROW];simp only [Array.size_append,List.size_toArray,List.length_take,size_zeroCells,hXl];rw [show (.agg #[.string ⟨#[]⟩,.int .i64 0,.string ⟨#[]⟩,.slice none 0 0,.string ⟨#[]⟩,.int .i64 0] : Value).cells.size = 6 from rfl];omega
 have hRt : ROW.toList.take (i * 6) = X.take (i * 6):=by
  exact aaR
 have hrz : ∀ ty,(Builtin.append_ #[124,3] ty #[.slice (some ⟨g,0,none⟩) i cap,.int .i64 ((cap : Int) + 1 - (i : Int))]).run Tryz.prog w = .ok (.slice (some ⟨N,0,none⟩) (cap + 1) G) W1:=fun ty => by
  have hold : (Builtin.firstCells i0.size i (.slice (some ⟨g,0,none⟩) i cap)).run Tryz.prog w.drew = .ok (X.take (i * 6)).toArray w.drew:=by
   rw [HI0.out.2.2.1];exact run_firstCells_some w.drew 6 i ⟨g,0,none⟩ i cap (X.take (i * 6)) iS (fun j v hj => by
    rw [Addr.add_lit,Nat.zero_add];rw [List.getElem?_take] at hj
    split at hj
    ·exact hcell j v hj
    ·cases hj)
  have h:=Lib.run_append_grow_zeros w 124 3 ty 65 i0 _ .i64 .i64 Tryz.underlying124 Tryz.underlying3 HI0.out.1 HI0.out.2.1 (some ⟨g,0,none⟩) i cap (X.take (i * 6)) hold (cap + 1 - i) af (by rw [HI0.out.2.2.1];decide) af af (by rw [HI0.out.2.2.2];omega) aa9;exact aaP
 have hgN : W1.heap[N]? = some (.cells ROW 65 (0,0)):=by rw [hW1,hN];exact Go.heap_alloc_new w.drew _
 obtain ⟨hg1,hv1⟩:=abq;obtain ⟨R2,hR2⟩ : ∃ R2 : List Value,R2 = ROW.toList.take (i * 6) ++ ys ++ ROW.toList.drop (i * 6 + ys.length):=⟨_,rfl⟩;obtain ⟨W2,hW2⟩ : ∃ W2,W2 = W1.setRow N R2.toArray:=⟨_,rfl⟩;have hcpA : ∀ ty dc,(Builtin.copy_ #[124,35] ty #[.slice (some ⟨N,i * 6,none⟩) (cap + 1 - i) dc,.slice (some ⟨vb,0,none⟩) 1 1]).run Tryz.prog W1 = .ok (goInt (Nat.min 1 (cap + 1 - i))) W2:=fun ty dc => by
  rw [hW2,hR2];exact bg W1 124 35 ty 65 N (i * 6) (cap + 1 - i) dc ⟨vb,0,none⟩ 1 1 6 ROW 65 ys i0 Tryz.underlying124 HI0.out.1 HI0.out.2.2.1 hgN aam (fun j u hj => by
   rw [Addr.add_lit,ah (hv1.trans HY.out),Nat.zero_add]
   simpa using hj) (by rw [hRs,hyl];omega) HY1.out
 have hR2l : R2.length = G * 6:=by
  exact aaW
 have hgN2 : W2.heap[N]? = some (.cells R2.toArray 65 (0,0)):=by rw [hW2];exact setRow_heap W1 N _ _ 65 _ hgN
 obtain ⟨hgn,hg2⟩:=abd;obtain ⟨R3,hR3⟩ : ∃ R3 : List Value,R3 = R2.take ((i + 1) * 6) ++ X.drop (i * 6) ++ R2.drop ((i + 1) * 6 + (X.drop (i * 6)).length):=⟨_,rfl⟩;obtain ⟨W3,hW3⟩ : ∃ W3,W3 = W2.drew.setRow N R3.toArray:=⟨_,rfl⟩;have hcpB : ∀ ty dc sc,(Builtin.copy_ #[124,124] ty #[.slice (some ⟨N,(i + 1) * 6,none⟩) (cap - i) dc,.slice (some ⟨g,i * 6,none⟩) (cap - i) sc]).run Tryz.prog W2.drew = .ok (goInt (Nat.min (cap - i) (cap - i))) W3:=fun ty dc sc => by
  have:=bg W2.drew 124 124 ty 65 N ((i + 1) * 6) (cap - i) dc ⟨g,i * 6,none⟩ (cap - i) sc 6 R2.toArray 65 (X.drop (i * 6)) i0 Tryz.underlying124 HI0.out.1 HI0.out.2.2.1 hgN2 aak (fun j u hj => by
   rw [List.getElem?_drop] at hj;have hc:=hcell _ u hj;rw [Addr.add_lit];rw [← hc]
   exact World.cell?_of_block (w:=w) (w':=W2.drew) hg2) abp (fun u hu => HX1.out u (List.mem_of_mem_drop hu))
  rw [hW3,hR3];simpa only [List.toList_toArray] using this
 have hW3o : ∀ k,¬ k = N → W3.heap[k]? = W1.heap[k]?:=fun k hk => by rw [hW3,setRow_other W2.drew N k _ hk];exact (congrArg (fun z : World => z.heap[k]?) hW2).trans (setRow_other W1 N k _ hk)
 have hfin : w.grownBy W3 (some g):=by
  exact aaQ
 have hrow : W3.ownsRow base 65 6 (.slice (some ⟨N,0,none⟩) (cap + 1) G) (cap + 1) (X.take (i * 6) ++ ys ++ X.drop (i * 6)):=by
  refine ⟨?_,Or.inr ⟨N,G,R3.toArray,rfl,by omega,by rw [hW3];exact setRow_heap W2.drew N _ _ 65 _ hgN2,hGn,by unfold maxLen;omega,?_,?_⟩⟩
  ·exact aaq
  ·exact abt
  ·have e:=gQ (a:=i * 6) (b:=cap * 6) (m:=6) (R2:=R2) hRt hXl af hyl hR2 (R2.drop ((i + 1) * 6 + (X.drop (i * 6)).length));rw [hR3,show (cap + 1) * 6 = cap * 6 + 6 by omega,show (i + 1) * 6 = i * 6 + 6 by omega];rw [show (i + 1) * 6 = i * 6 + 6 by omega] at e;simpa using e
 obtain ⟨hGi,hGim,hci,hz2,hz3⟩:=abx;obtain ⟨mixed,hw1,hb1⟩:=aal;obtain ⟨hin,htn,hb3⟩:=abu;have u0:=run_underlying Tryz.underlying124;have HF:=ae (And.intro hrow hfin);clear hN hrow hfin hW3o hW3 hW2 hR3 hg2 hgN2 hR2l hR2 hv1 hg1 hgN hRt hRs hW1 hROW hG hcell hdl hie hg htk hcs HO;go_enter Tryz.func164,Tryz.ntmps164;go_wp2_with (first
  | (at_builtin;refine Lib.wpList_append_run _ rfl _ _ _ _ rfl _ _ rfl rfl _ _ (hrz _) ?_)
  | (at_builtin;refine bN _ rfl _ _ 124 35 rfl _ _ rfl rfl (hcpA _ _) ?_))

 go_region_law_o (refine cg rfl _ _ 124 124 rfl _ _ aac aac (hcpB 3 (G - (i + 1)) (cap - i)) ?_)
 go_wp2
 go_ret;exact ⟨_,rfl,HF.out.1,HF.out.2⟩

theorem il (a : Option Addr) (n cap : Nat) (X : List Value) (w : World) (hn : n ≤ 8) (hXl : X.length = n * 6) (hX1 : ∀ u ∈ X,u.oneCell' = true) (hXc : ∀ (j : Nat) u,X[j]? = some u → ∃ g,a = some ⟨g,0,none⟩ ∧ w.cell? ⟨g,j,none⟩ = some u) :
  Calls Tryz.prog 165 #[.slice a n cap] w fun e w' => ∃ a' c',e = .returned (.slice a' n c') ∧ w'.ownsRow w.heap.size 65 6 (.slice a' n c') n X ∧ Below w.heap.size w w':=by
 obtain ⟨i0,hi,hz0,hz1,hz2⟩:=info_parts gO;have HI0:=ae (And.intro hi (And.intro hz0 (And.intro hz1 hz2)));clear hi hz0 hz1 hz2;have HX1:=ae hX1;have HXC:=ae hXc;have heq : ∀ w : World,(binOp .eql 124 (.slice a n cap) (.slice none 0 0)).run Tryz.prog w = .ok (.bool a.isNone) w:=fun w => Lib.run_eql_slice_nil w 124 65 a n cap 0 0 Tryz.underlying124;clear hX1 hXc;cases a with
 | none =>
  obtain rfl : X = []:=by
   rcases X with _ | ⟨u,X⟩
   ·rfl
   ·obtain ⟨g,e,_⟩:=HXC.out 0 u rfl
    cases e
  obtain rfl : n = 0:=by simp at hXl;omega
  go_enter Tryz.func165,Tryz.ntmps165
  go_wp2
  go_ret;exact ⟨none,0,rfl,World.ownsRow_nil _ _ _ _,Below.refl _ _⟩
 | some ad =>
  obtain ⟨ab,ao,asp⟩:=ad
  have hnew : ∀ (j : Nat) u,X[j]? = some u → (w.alloc (.cells #[] 65)).cell? ((⟨ab,ao,asp⟩ : Addr).add j) = some u:=fun j u hu => by
   obtain ⟨g,e,hc⟩:=HXC.out j u hu
   cases e
   rw [Addr.add_lit,Nat.zero_add];have hlt:=bq hc;rw [← hc];exact World.cell?_of_block (heap_alloc_old w _ hlt)
  have HN:=ae hnew;have HO : Hid ((w.alloc (.cells #[] 65)).ownsRow w.heap.size 65 6 (.slice (some ⟨w.heap.size,0,none⟩) 0 0) 0 []):=World.ownsRow_made w #[] 0 (Nat.le_refl _) (Nat.zero_le _) aN;clear hnew HXC
  go_enter Tryz.func165,Tryz.ntmps165
  go_wp2_with (at_builtin;refine bm rfl _ _ 124 124 rfl w.heap.size 65 65 i0 (.agg #[.string ⟨#[]⟩,.int .i64 0,.string ⟨#[]⟩,.slice none 0 0,.string ⟨#[]⟩,.int .i64 0]) 6 88 Tryz.underlying124 Tryz.underlying124 HI0.out.1 HI0.out.2.1 HI0.out.2.2.1 HI0.out.2.2.2 rfl al _ _ _ rfl HO.out ⟨ab,ao,asp⟩ n cap X rfl hXl HN.out HX1.out cd af aN ?_)
  intro v' w' h1 h2
  obtain ⟨a',c',rfl⟩ : ∃ a' c',v' = .slice a' n c':=by
   rcases h1.2 with ⟨rfl,h0⟩ | ⟨g,cp,cu,rfl,_⟩
   ·exact ⟨none,0,by rw [h0]⟩
   ·exact ⟨_,_,rfl⟩
  have H1:=ae h1;have H2:=ae h2;clear h1 h2
  go_wp2
  go_ret;refine ⟨a',c',rfl,H1.out,((an w (.cells #[] 65)).grown H2.out aN (fun g hg => ?_))⟩
  simp [Value.ownBlock] at hg
  omega

theorem oy (a : Option Addr) (n cap : Nat) (xs : List Pd) (x : Pd) (va : Option Addr) (vl vc hh : Nat) (Q Q2 : Nat → Prop) (w : World) (ho : aB w a n cap 6 65 (xs.map pdF) Q) (hn : n ≤ 8) (hxf : ∀ (i : Nat) f,(pdF x)[i]? = some f → ∃ v,[.string x.n,.int .i64 x.c,.string x.z,.slice va vl vc,.string x.d,.int .i64 x.p][i]? = some v ∧ f.Fr w hh Q2 v) (hq : ∀ k,Q k → Q2 k → False) :
  Calls Tryz.prog 131 #[.slice a n cap,.agg #[.string x.n,.int .i64 x.c,.string x.z,.slice va vl vc,.string x.d,.int .i64 x.p]] w fun e w' => ∃ a' l' c',e = .returned (.slice a' l' c') ∧ aB w' a' l' c' 6 65 ((bh (pl Pd.n xs x.n) x xs).map pdF) (fun k => (Q k ∨ Q2 k) ∨ w.heap.size ≤ k) ∧ Below w.heap.size w w':=by
 have HR:=ae ho.row;have hxl : xs.length = n:=by simpa using ho.1
 obtain ⟨vss,H,hV,hcell⟩:=ho.lA;have hvl : vss.length = n:=by rw [hV.len,List.length_map,hxl]
 have hfl : vss.flatten.length = n * 6:=by rw [cV hV.all,hvl]
 have HV:=ae hV;have HC:=ae hcell;have HF:=ae hxf;have HQ:=ae hq;clear ho hV hcell hxf hq;have hmcalled : ∀ (v : Value) (w : World),(method 406 65 v "loop.example/g00571/impl.called").run Tryz.prog w = .ok (228,v) w:=fun _ _ => by kernel_rfl
 obtain ⟨j,hj⟩ : ∃ j,j = pl Pd.n xs x.n:=⟨_,rfl⟩;have hjn : j ≤ n:=by rw [hj,← hxl];exact List.findIdx_le_length
 have HJ:=ae hj;have HFIN : Hid (∀ (w4 : World) v4 base,w.heap.size ≤ base → Below w.heap.size w w4 → w4.ownsRow base 65 6 v4 (n + 1) (vss.flatten.take (j * 6) ++ [.string x.n,.int .i64 x.c,.string x.z,.slice va vl vc,.string x.d,.int .i64 x.p] ++ vss.flatten.drop (j * 6)) → ∃ a' c',v4 = .slice a' (n + 1) c' ∧ aB w4 a' (n + 1) c' 6 65 ((bh (pl Pd.n xs x.n) x xs).map pdF) (fun k => (Q k ∨ Q2 k) ∨ w.heap.size ≤ k)):=fun w4 v4 base hbs hB4 ho4 => by
  rw [← gP HV.out.all af] at ho4;have hV4:=(HV.out.below hB4).aH (w':=w4) (S':=fun k => (Q k ∨ Q2 k) ∨ w.heap.size ≤ k) (fun _ _ _ _ => rfl) (fun _ _ s => .inl (.inl s));obtain ⟨H4,hV5⟩:=hV4.ins (p:=j) (r:=pdF x) (vs:=[.string x.n,.int .i64 x.c,.string x.z,.slice va vl vc,.string x.d,.int .i64 x.p]) (hh:=fun _ => hh) rfl rfl (fun i f hf => by
   obtain ⟨v,h1,h2⟩:=HF.out i f hf
   exact ⟨v,h1,h2.aH (fun cu _ q => hB4.block _ (aa q)) (fun _ s => .inl (.inr s))⟩) (fun i zs h hz k r i2 zs2 hr2 hz2 hne e => by
  obtain ⟨v,_,h2⟩:=HF.out i _ h;obtain ⟨_,_,_,_,_,_,_,_,h3⟩:=h2;have hkv : k < vss.length:=by rw [HV.out.len];exact (List.getElem?_eq_some_iff.1 hr2).1
  obtain ⟨v',_,h5⟩:=HV.out.cell k r _ hr2 (List.getElem?_eq_getElem hkv) i2 _ hz2;obtain ⟨_,_,_,_,_,_,_,_,h6⟩:=h5;rcases h3 with h3 | ⟨_,h3,_⟩
  ·exact hz h3
  ·rcases h6 with h6 | ⟨_,h6,_⟩
   ·exact hne h6
   ·rw [e] at h6;exact HQ.out _ h6 h3) (fun i i2 zs zs2 h _ h2 _ => by
  rcases i with _ | _ | _ | _ | _ | _ | i <;> simp [pdF] at h <;> rcases i2 with _ | _ | _ | _ | _ | _ | i2 <;> simp [pdF] at h2 <;> rfl) aaC
  have h45 : aS w4 (fun k => (Q k ∨ Q2 k) ∨ w.heap.size ≤ k) 6 ((bh j x xs).map pdF) (bh j [.string x.n,.int .i64 x.c,.string x.z,.slice va vl vc,.string x.d,.int .i64 x.p] vss) H4:=by rw [jt];exact hV5
  have hle : ((bh j x xs).map pdF).length = n + 1:=aa_
  exact acA
 have HCL : Hid (∀ W,Below w.heap.size w W → ∀ (k : Nat) u,vss.flatten[k]? = some u → ∃ g,a = some ⟨g,0,none⟩ ∧ W.cell? ⟨g,k,none⟩ = some u):=fun W hW k u hu => by
  exact aaV
 have HV1:=ae HV.out.one;clear HV HC HF HQ hj;go_enter Tryz.func131,Tryz.ntmps131;go_wp2_with fail;refine (ei x va vl vc _).mono ?_;rintro e w1 ⟨rfl,hb1⟩;obtain ⟨hn1,hbx⟩:=aG hb1;have HN1:=ae hn1;have HB1:=ae hbx;clear hb1 hn1 hbx;go_wp2_with fail;refine (ie a n cap xs x.n _ (HR.out.below HB1.out)).mono ?_;rintro e w2 ⟨rfl,hb2⟩;have HN2:=ae ((hb2.block w.heap.size (aa HN1.out)).trans HN1.out);have HB2:=upB HB1 hb2;clear hb2 HN1 HB1;rw [← HJ.out];generalize hit Pd.n xs x.n = bb;obtain ⟨hs2,HBD⟩:=abk;obtain ⟨n0,n1,n2,n3,n4,n5⟩:=cs6 (show w2.drew.heap[w.heap.size]? = _ from HN2.out);have hcl1 : Calls Tryz.prog 165 #[.slice a n cap] w2.drew fun e w3 => ∃ a3 c3,e = .returned (.slice a3 n c3) ∧ Hid (w3.ownsRow w2.heap.size 65 6 (.slice a3 n c3) n vss.flatten) ∧ Hid (Below w.heap.size w w3) ∧ w2.heap.size ≤ w3.heap.size ∧ w.heap.size < w3.heap.size ∧ w3.heap[w.heap.size]? = some (.cells #[.string x.n,.int .i64 x.c,.string x.z,.slice va vl vc,.string x.d,.int .i64 x.p] 65 (0,0)):=by
  refine (il a n cap vss.flatten w2.drew hn hfl HV1.out (HCL.out _ HBD.out)).mono ?_;exact aby
 have hcl2 : Calls Tryz.prog 165 #[.slice a n cap] (w2.alloc (.cells #[.string x.n,.int .i64 x.c,.string x.z,.slice va vl vc,.string x.d,.int .i64 x.p] 65)).drew fun e w3 => ∃ a3 c3,e = .returned (.slice a3 n c3) ∧ Hid (w3.ownsRow (w2.heap.size + 1) 65 6 (.slice a3 n c3) n vss.flatten) ∧ Hid (Below w.heap.size w w3) ∧ w2.heap.size + 1 ≤ w3.heap.size ∧ Hid (w3.heap[w2.heap.size]? = some (.cells #[.string x.n,.int .i64 x.c,.string x.z,.slice va vl vc,.string x.d,.int .i64 x.p] 65 (0,0))):=by
  have hbl:=Below.gi (HB2.out.alloc HB2.out.size (.cells #[.string x.n,.int .i64 x.c,.string x.z,.slice va vl vc,.string x.d,.int .i64 x.p] 65));have hsz : (w2.alloc (.cells #[.string x.n,.int .i64 x.c,.string x.z,.slice va vl vc,.string x.d,.int .i64 x.p] 65)).drew.heap.size = w2.heap.size + 1:=by simp
  refine (il a n cap vss.flatten _ hn hfl HV1.out (HCL.out _ hbl)).mono ?_;rintro e w3 ⟨a3,c3,rfl,ho3,hb3⟩;have hs3:=hb3.size;rw [hsz] at ho3 hs3;exact ⟨a3,c3,rfl,ho3,hbl.trans (hb3.mono hbl.size),hs3,(hb3.block w2.heap.size (by rw [hsz];omega)).trans (show (w2.alloc (.cells #[.string x.n,.int .i64 x.c,.string x.z,.slice va vl vc,.string x.d,.int .i64 x.p] 65)).drew.heap[w2.heap.size]? = _ from heap_alloc_new w2 _)⟩
 have hin1 : ∀ (w3 : World) a3 c3,w3.ownsRow w2.heap.size 65 6 (.slice a3 n c3) n vss.flatten → Below w.heap.size w w3 → w2.heap.size ≤ w3.heap.size → Calls Tryz.prog 164 #[.slice a3 n c3,.int .i64 j,.slice (some ⟨w3.heap.size,0,none⟩) 1 1] (w3.alloc (.cells #[.string x.n,.int .i64 x.c,.string x.z,.slice va vl vc,.string x.d,.int .i64 x.p] 65)) fun e w4 => ∃ a' c',e = .returned (.slice a' (n + 1) c') ∧ Hid (aB w4 a' (n + 1) c' 6 65 ((bh (pl Pd.n xs x.n) x xs).map pdF) (fun k => (Q k ∨ Q2 k) ∨ w.heap.size ≤ k)) ∧ Hid (Below w.heap.size w w4):=fun w3 a3 c3 ho3 hB3 hs3 => by
  refine (kF a3 n c3 j w2.heap.size w3.heap.size vss.flatten [.string x.n,.int .i64 x.c,.string x.z,.slice va vl vc,.string x.d,.int .i64 x.p] (w3.alloc (.cells #[.string x.n,.int .i64 x.c,.string x.z,.slice va vl vc,.string x.d,.int .i64 x.p] 65)) (ho3.alloc _) hn hjn bF (heap_alloc_new w3 _) rfl aab HV1.out (fun g hg e => by
   have h9:=(ho3.lt g (by rw [hg];rfl)).2
   omega)).mono ?_
  rintro e w4 ⟨v4,rfl,ho4,hg4⟩;have hB5:=(hB3.alloc hB3.size (.cells #[.string x.n,.int .i64 x.c,.string x.z,.slice va vl vc,.string x.d,.int .i64 x.p] 65)).grown hg4 bF (fun g hg => by
   have h9:=(ho3.lt g hg).1
   omega)
  exact aaG
 have hin2 : ∀ (w3 : World) a3 c3,w3.ownsRow (w2.heap.size + 1) 65 6 (.slice a3 n c3) n vss.flatten → Below w.heap.size w w3 → w2.heap.size + 1 ≤ w3.heap.size → w3.heap[w2.heap.size]? = some (.cells #[.string x.n,.int .i64 x.c,.string x.z,.slice va vl vc,.string x.d,.int .i64 x.p] 65 (0,0)) → Calls Tryz.prog 164 #[.slice a3 n c3,.int .i64 j,.slice (some ⟨w2.heap.size,0,none⟩) 1 1] w3 fun e w4 => ∃ a' c',e = .returned (.slice a' (n + 1) c') ∧ Hid (aB w4 a' (n + 1) c' 6 65 ((bh (pl Pd.n xs x.n) x xs).map pdF) (fun k => (Q k ∨ Q2 k) ∨ w.heap.size ≤ k)) ∧ Hid (Below w.heap.size w w4):=fun w3 a3 c3 ho3 hB3 hs3 hy3 => by
  refine (kF a3 n c3 j (w2.heap.size + 1) w2.heap.size vss.flatten [.string x.n,.int .i64 x.c,.string x.z,.slice va vl vc,.string x.d,.int .i64 x.p] w3 ho3 hn hjn hs3 hy3 rfl aab HV1.out (fun g hg e => by
   have h9:=(ho3.lt g (by rw [hg];rfl)).1
   omega)).mono ?_
  exact aaN
 have C1:=ae hcl1;have C2:=ae hcl2;have I1:=ae hin1;have I2:=ae hin2;clear hcl1 hcl2 hin1 hin2 HFIN HCL HR HJ HBD HB2;have mixed : Tryz.prog.follows .mixedOrders = true:=aae
 go_wp2;go_region_with (first
  | (go_at_call 165;refine C1.out.mono ?_;rintro e w3 ⟨a3,c3,rfl,HO3,HB3,hs3,hw3l,hx3⟩;obtain ⟨m0,m1,m2,m3,m4,m5⟩:=cs6 hx3;clear hx3)
  | (go_at_call 165;refine C2.out.mono ?_;rintro e w3 ⟨a3,c3,rfl,HO3,HB3,hs3,HY3⟩)
  | (go_at_call 164;refine (I1.out w3 a3 c3 HO3.out HB3.out hs3).mono ?_;rintro e w4 ⟨a',c',rfl,HR5,HB5⟩)
  | (go_at_call 164;refine (I2.out w3 a3 c3 HO3.out HB3.out hs3 HY3.out).mono ?_;rintro e w4 ⟨a',c',rfl,HR5,HB5⟩))
 all_goals (
  go_wp2
  go_ret
  exact ⟨a',_,c',rfl,HR5.out,HB5.out⟩)

def CM (c : Cl) (x : Pd) : Prop:=∃ n : Nd,c.ns[pl Nd.n c.ns x.d]? = some n ∧ n.n = x.d ∧ n.d = true ∧ n.u + 5 < c.now
def idle (x : Pd) : Pd:=⟨x.n,x.c,x.z,x.zs,⟨#[]⟩,0⟩
def evC (c : Cl) (t : ByteArray) (x : Pd) : Cl:=⟨c.ns,c.ks,c.vs,c.xs,c.ps.set (pl Pd.n c.ps t) (idle x),c.now⟩
def lK (c : Cl) (x : Pd) : Cl:=⟨c.ns,c.ks,c.vs,c.xs,bh (pl Pd.n (wo Pd.n x.n c.ps) x.n) x (wo Pd.n x.n c.ps),c.now⟩
def EvWhy (c : Cl) (t : ByteArray) : Nat → Prop
 | 0 => 8000 < t.size
 | 1 => ¬ 8000 < t.size ∧ ¬ aC c
 | 2 => ¬ 8000 < t.size ∧ aC c ∧ hit Pd.n c.ps t = false
 | 8 => ¬ 8000 < t.size ∧ aC c ∧ ∃ x,c.ps[pl Pd.n c.ps t]? = some x ∧ x.n = t ∧ x.p = 0
 | 7 => ¬ 8000 < t.size ∧ aC c ∧ ∃ x,c.ps[pl Pd.n c.ps t]? = some x ∧ x.n = t ∧ ¬ x.p = 0 ∧ ¬ CM c x
 | _ => False
def rY (c : Cl) (t : ByteArray) (o : Co) : Prop:=(∃ i,EvWhy c t i ∧ o = co0 (cM i)) ∨ (¬ 8000 < t.size ∧ aC c ∧ ∃ x,c.ps[pl Pd.n c.ps t]? = some x ∧ x.n = t ∧ ¬ x.p = 0 ∧ CM c x ∧ o = ⟨evC c t x,⟨#[]⟩,0⟩)
theorem EvWhy.cases {c : Cl} {t : ByteArray} {i : Nat} (h : EvWhy c t i) : (i = 0 ∧ 8000 < t.size) ∨ (i = 1 ∧ ¬ 8000 < t.size ∧ ¬ aC c) ∨ (i = 2 ∧ ¬ 8000 < t.size ∧ aC c ∧ hit Pd.n c.ps t = false) ∨ (i = 8 ∧ ¬ 8000 < t.size ∧ aC c ∧ ∃ x,c.ps[pl Pd.n c.ps t]? = some x ∧ x.n = t ∧ x.p = 0) ∨ (i = 7 ∧ ¬ 8000 < t.size ∧ aC c ∧ ∃ x,c.ps[pl Pd.n c.ps t]? = some x ∧ x.n = t ∧ ¬ x.p = 0 ∧ ¬ CM c x):=by
 rcases i with _ | _ | _ | _ | _ | _ | _ | _ | _ | i <;> simp only [EvWhy] at h
 ·exact .inl ⟨rfl,h⟩
 ·exact .inr (.inl ⟨rfl,h⟩)
 ·exact .inr (.inr (.inl ⟨rfl,h⟩))
 ·exact .inr (.inr (.inr (.inr ⟨rfl,h⟩)))
 ·exact .inr (.inr (.inr (.inl ⟨rfl,h⟩)))
theorem rY.marks {c : Cl} {t : ByteArray} {o : Co} (h : rY c t o) (hf : fm c) : qk 1 o.c.raw ≤ 1152921504606846976:=by
 rcases h with ⟨i,_,rfl⟩ | ⟨_,_,x,h3,_,_,_,rfl⟩
 ·exact kN _
 ·refine fm.marks (c:=evC c t x) ⟨hf.l1,hf.f1,hf.l2,hf.l3,hf.f3,hf.l4,?_,fun j y hy => ?_⟩
  ·show (c.ps.set _ _).length ≤ _;rw [List.length_set];exact hf.l5
  ·have hy' : (c.ps.set (pl Pd.n c.ps t) (idle x))[j]? = some y:=hy;rw [du (List.getElem?_eq_some_iff.1 h3).1] at hy';split at hy'
   ·obtain rfl:=Option.some.inj hy';exact hf.f5 _ x h3
   ·exact hf.f5 j y hy'
theorem aC.node {c : Cl} {x : Pd} {i : Nat} (h : aC c) (hx : c.ps[i]? = some x) (hp : ¬ x.p = 0) : ∃ (j : Nat) (n : Nd),c.ns[j]? = some n ∧ n.n = x.d ∧ Inn n.u 0 1000000:=by
 have h1:=h.2.1.2.2.2.2.2.1 i x hx;have h2:=(h.2.2.2.1.1 i x hx).2;have hd : ¬ x.d = ⟨#[]⟩:=fun e => by
  have h3 : dw x.d x.p:=h1.2.2.2.2;rw [e] at h3;rcases h3 with ⟨h3,_⟩ | ⟨_,h3⟩
  ·exact hp h3
  ·have h5:=h3.1;revert h5;decide
 obtain ⟨j,n,h3,h4,_⟩:=h2.resolve_left hd;exact ⟨j,n,h3,h4,(h.2.1.1.2.1 j n h3).2.2.2.2.1⟩
theorem zd {ps : List Pd} {t : ByteArray} {k : Nat} {x y : Pd} (hr : aJ Pd.n ps) (hx : ps[k]? = some x) (hn : x.n = t) : bh (pl Pd.n (wo Pd.n t ps) t) y (wo Pd.n t ps) = ps.set k y:=by
 have hk : k < ps.length:=(List.getElem?_eq_some_iff.1 hx).1;have hw:=mf hr hx hn;have hpl : pl Pd.n (wo Pd.n t ps) t = k:=by
  rw [hw];have hlt : ∀ (j : Nat) z,j < k → (ps.take k ++ ps.drop (k + 1))[j]? = some z → Op.bytesLess z.n.toList t.toList = true:=fun j z hj hz => by
   exact xm
  by_cases he : k + 1 < ps.length
  ·have h1 : (ps.take k).length = k:=by rw [List.length_take];omega
   have h2 : (ps.take k ++ ps.drop (k + 1))[k]? = some ps[k + 1]:=by
    exact wO
   refine nL hlt h2 ?_;have h3:=hr.lt (Nat.lt_succ_self k) hx (List.getElem?_eq_getElem he);rw [hn] at h3;cases h9 : Op.bytesLess ps[k + 1].n.toList t.toList
   ·rfl
   ·have h8:=cq _ _ _ h3 h9;rw [dj] at h8;cases h8
  ·exact xL
 exact wb

theorem qF (d : Ad) (now : Int) (n z : ByteArray) (p s u : Int) (y : Bool) (va : Option Addr) (vl vc : Nat) (w : World)  :
  Calls Tryz.prog 246 #[.agg #[.slice d.a1 d.l1 d.c1,.slice d.a2 d.l2 d.c2,.slice d.a3 d.l3 d.c3,.slice d.a4 d.l4 d.c4,.slice d.a5 d.l5 d.c5,.int .i64 now],.agg #[.string n,.string z,.int .i64 p,.int .i64 s,.int .i64 u,.bool y,.slice va vl vc]] w fun e w' => e = .returned (.agg #[.int .i64 u,.int .i64 now]) ∧ Below w.heap.size w w':=by
 go_enter Tryz.func246,Tryz.ntmps246;go_wp2;exact bodyPost_ret (v:=.agg #[.int .i64 u,.int .i64 now]) (by simp [results,Tryz.results246,go_sem]) rfl ⟨rfl,br _ _ _ _⟩

def onP (p : Pd) (s : ByteArray) : Pd:=⟨p.n,p.c,p.z,p.zs,s,1⟩
def plC (c : Cl) (i : Nat) (p : Pd) (s : ByteArray) : Cl:=⟨c.ns,c.ks,c.vs,c.xs,c.ps.set i (onP p s),c.now⟩
theorem ze {c : Cl} {i : Nat} {p : Pd} (s : ByteArray) (hr : aJ Pd.n c.ps) (hp : c.ps[i]? = some p) : lK c (onP p s) = plC c i p s:=by
 unfold lK plC;rw [show bh (pl Pd.n (wo Pd.n (onP p s).n c.ps) (onP p s).n) (onP p s) (wo Pd.n (onP p s).n c.ps) = c.ps.set i (onP p s) from zd hr hp rfl]
theorem jx {c : Cl} {zs : List ByteArray} {s : ByteArray} (hT : aC c) (hz : ∀ (k : Nat) z,zs[k]? = some z → aL z) : ff c zs s ↔ ∃ (j : Nat) (v : Vd),c.vs[j]? = some v ∧ v.n = s ∧ InL zs v.m:=by
 have hv:=hT.2.1.2.2.1.2.2;constructor
 ·rintro ⟨k,cl,v,hk,⟨i,jv,x,h1,h2,h3,h4⟩,rfl⟩;have hne : ¬ x.v = ⟨#[]⟩:=by rw [← h4];exact fS (hT.2.1.2.2.1.2.1 jv v h3).1
  obtain ⟨i',j',x',v',k1,k2,k3,k4,k5,k6,_⟩:=(hT.2.2.1.2 i x h1).2.resolve_left hne;obtain ⟨_,rfl⟩:=hv.inj k3 h3 (k4.trans h4.symm);exact ⟨jv,v',h3,rfl,k,by rw [hk,k6,h2]⟩
 ·rintro ⟨jv,v,hj,rfl,k,hk⟩;have hne : ¬ v.m = ⟨#[]⟩:=fS (hz k v.m hk);obtain ⟨i',j',x',v',k1,k2,k3,k4,k5,k6,_⟩:=(hT.2.2.1.1 jv v hj).2.resolve_left hne;exact ⟨k,v.m,v,hk,⟨i',jv,x',k1,k2,hj,k5.symm⟩,rfl⟩
theorem zf {c : Cl} {t s : ByteArray} (hT : aC c) : PBs c t c.ps.length s ↔ ∃ (j : Nat) (v : Vd),c.vs[j]? = some v ∧ v.n = s ∧ ∃ (k : Nat) (p : Pd),c.ps[k]? = some p ∧ iq p t v.m:=by
 constructor
 ·rintro ⟨j,p,_,hp,hd,hb⟩;obtain ⟨jv,v,h1,h2,h3⟩:=(jx hT (fun k z hk => ((hT.2.1.2.2.2.2.2.1 j p hp).2.2.2.1.2 k z hk).1)).1 hb;exact ⟨jv,v,h1,h2,j,p,hp,hd,h3⟩
 ·rintro ⟨jv,v,h1,h2,j,p,hp,hd,h3⟩;exact ⟨j,p,(List.getElem?_eq_some_iff.1 hp).1,hp,hd,(jx hT (fun k z hk => ((hT.2.1.2.2.2.2.2.1 j p hp).2.2.2.1.2 k z hk).1)).2 ⟨jv,v,h1,h2,h3⟩⟩
theorem sB {c : Cl} {i : Nat} {p : Pd} {s : ByteArray} {zs : List ByteArray} (hT : aC c) (hp : c.ps[i]? = some p) (hd : ¬ p.d = s) (hr : RT zs) (hm : ∀ t,t ∈ zs ↔ (PBs c s c.ps.length t ∨ VBs c s c.vs.length t) ∨ ff c p.zs t) : zs = dm (plC c i p s) s c.vs:=by
 have hv:=hT.2.1.2.2.1.2.2;refine hr.ext (List.Pairwise.sublist (List.filter_sublist.map _) hv.rt) (fun t => ?_);rw [hm,zf hT,jx hT (fun k z hk => ((hT.2.1.2.2.2.2.2.1 i p hp).2.2.2.1.2 k z hk).1)];unfold dm;rw [List.mem_map];constructor
 ·rintro ((⟨j,v,h1,rfl,k,q,hq,hw⟩ | ⟨j,v,_,h2,h3,rfl⟩) | ⟨j,v,h1,rfl,h3⟩)
  ·refine ⟨v,List.mem_filter.2 ⟨List.mem_of_getElem? h1,?_⟩,rfl⟩;unfold onB;rw [Bool.or_eq_true];refine .inr (c8.2 ⟨k,q,cv (fun e => ?_) hq,hw⟩);subst e;rw [hp] at hq;obtain rfl:=Option.some.inj hq;exact hd hw.1
  ·exact ab0
  ·refine ⟨v,List.mem_filter.2 ⟨List.mem_of_getElem? h1,?_⟩,rfl⟩;unfold onB;rw [Bool.or_eq_true];exact .inr (c8.2 ⟨i,onP p s,eT hp,rfl,h3⟩)
 ·rintro ⟨v,h1,rfl⟩;obtain ⟨h2,h3⟩:=List.mem_filter.1 h1;obtain ⟨jv,hj⟩:=List.getElem?_of_mem h2;unfold onB at h3;rw [Bool.or_eq_true] at h3;rcases h3 with h3 | h3
  ·exact .inl (.inr ⟨jv,v,(List.getElem?_eq_some_iff.1 hj).1,hj,ed.1 h3,rfl⟩)
  ·obtain ⟨k,q,hq,hw⟩:=c8.1 h3;rcases cF hp hq with ⟨-,rfl⟩ | ⟨-,hq⟩
   ·exact .inr ⟨jv,v,hj,rfl,hw.2⟩
   ·exact .inl (.inl ⟨jv,v,hj,rfl,k,q,hq,hw⟩)

def iu (c : Cl) (n : Nd) : Prop:=n.d = true ∨ n.u ≤ c.now
def im (p : Pd) (n : Nd) : Prop:=¬ p.z = ⟨#[]⟩ ∧ ¬ p.z = n.z
def lZ (c : Cl) (p : Pd) (n : Nd) : Prop:=n.c - cpuOf n.n c.ps < p.c
def fC (c : Cl) (i : Nat) (p : Pd) (n : Nd) : Prop:=n.s < ((dm (plC c i p n.n) n.n c.vs).length : Int)
def dK (c : Cl) (i : Nat) (p : Pd) (n : Nd) (c' : Cl) (e : Int) : Prop :=
 (iu c n ∧ e = 11) ∨ (¬ iu c n ∧ ((im p n ∧ e = 8) ∨ (¬ im p n ∧ ((lZ c p n ∧ e = 9) ∨ (¬ lZ c p n ∧ ∃ c1 e1,oi c n p.zs c1 e1 ∧
  ((¬ e1 = 0 ∧ e = e1) ∨ (e1 = 0 ∧ ((fC c1 i p n ∧ e = 9) ∨ (¬ fC c1 i p n ∧ e = 0 ∧ c' = plC c1 i p n.n)))))))))
theorem dK.same {c c1 c2 : Cl} {i : Nat} {p : Pd} {n : Nd} {e1 e2 : Int} (hT : aC c) (hn : aL n.z) (h : dK c i p n c1 e1) (h' : dK c i p n c2 e2) : e1 = e2 ∧ (e1 = 0 → c1 = c2):=by
 rcases h with ⟨a1,rfl⟩ | ⟨a1,⟨a2,rfl⟩ | ⟨a2,⟨a3,rfl⟩ | ⟨a3,d1,f1,a4,a5⟩⟩⟩ <;> rcases h' with ⟨b1,rfl⟩ | ⟨b1,⟨b2,rfl⟩ | ⟨b2,⟨b3,rfl⟩ | ⟨b3,d2,f2,b4,b5⟩⟩⟩
 all_goals first
  | exact ⟨rfl,fun e => absurd e al⟩
  | exact absurd a1 b1
  | exact absurd b1 a1
  | exact absurd a2 b2
  | exact absurd b2 a2
  | exact absurd a3 b3
  | exact absurd b3 a3
  | skip
 obtain ⟨rfl,rfl⟩:=a4.same hT hn b4;rcases a5 with ⟨a5,rfl⟩ | ⟨a5,⟨a6,rfl⟩ | ⟨a6,rfl,rfl⟩⟩ <;> rcases b5 with ⟨b5,rfl⟩ | ⟨b5,⟨b6,rfl⟩ | ⟨b6,rfl,rfl⟩⟩
 all_goals first
  | exact ⟨rfl,fun e => absurd e a5⟩
  | exact absurd a5 b5
  | exact absurd b5 a5
  | exact ⟨rfl,fun e => absurd e al⟩
  | exact absurd a6 b6
  | exact absurd b6 a6
  | exact ⟨rfl,fun _ => rfl⟩
def gX (c : Cl) (t s : ByteArray) (e : Int) : Prop :=
 ((8000 < s.size ∨ 8000 < t.size) ∧ e = cM 0) ∨ (¬ 8000 < s.size ∧ ¬ 8000 < t.size ∧ ((¬ aC c ∧ e = cM 1) ∨ (aC c ∧ (((hit Pd.n c.ps t = false ∨ hit Nd.n c.ns s = false) ∧ e = cM 2) ∨
  ∃ (i j : Nat) (p : Pd) (n : Nd),c.ps[i]? = some p ∧ p.n = t ∧ c.ns[j]? = some n ∧ n.n = s ∧ ((¬ p.p = 0 ∧ e = 10) ∨ (p.p = 0 ∧ ∃ c',dK c i p n c' e))))))
theorem gX.same {c : Cl} {t s : ByteArray} {e1 e2 : Int} (h : gX c t s e1) (h' : gX c t s e2) : e1 = e2:=by
 rcases h with ⟨a1,rfl⟩ | ⟨a1,a2,⟨a3,rfl⟩ | ⟨a3,⟨a4,rfl⟩ | ⟨i,j,p,n,a4,a5,a6,a7,a8⟩⟩⟩ <;> rcases h' with ⟨b1,rfl⟩ | ⟨b1,b2,⟨b3,rfl⟩ | ⟨b3,⟨b4,rfl⟩ | ⟨i',j',p',n',b4,b5,b6,b7,b8⟩⟩⟩
 all_goals first
  | rfl
  | exact absurd a1 (fun e => e.elim b1 b2)
  | exact absurd b1 (fun e => e.elim a1 a2)
  | exact absurd a3 b3
  | exact absurd b3 a3
  | skip
 ·rcases a4 with a4 | a4
  ·rw [(bU b3.2.1.2.2.2.2.2.2 b4 b5).2] at a4;cases a4
  ·rw [(bU b3.2.1.1.2.2 b6 b7).2] at a4;cases a4
 ·rcases b4 with b4 | b4
  ·rw [(bU a3.2.1.2.2.2.2.2.2 a4 a5).2] at b4;cases b4
  ·rw [(bU a3.2.1.1.2.2 a6 a7).2] at b4;cases b4
 ·obtain ⟨rfl,rfl⟩:=a3.2.1.2.2.2.2.2.2.inj a4 b4 (a5.trans b5.symm);obtain ⟨rfl,rfl⟩:=a3.2.1.1.2.2.inj a6 b6 (a7.trans b7.symm);rcases a8 with ⟨a8,rfl⟩ | ⟨a8,c1,a9⟩ <;> rcases b8 with ⟨b8,rfl⟩ | ⟨b8,c2,b9⟩
  ·rfl
  ·exact absurd b8 a8
  ·exact absurd a8 b8
  ·exact (a9.same a3 (a3.2.1.1.2.1 _ _ a6).2.1 b9).1

def gW (W : World) (nb vb : Nat) (t m : ByteArray) : Prop:=W.heap[nb]? = some (.cells #[.string t] 9 (0,0)) ∧ W.heap[vb]? = some (.cells #[.string m] 9 (0,0))
theorem gW.below {W W' : World} {nb vb : Nat} {t m : ByteArray} (h : gW W nb vb t m) (hb : Below W.heap.size W W') : gW W' nb vb t m :=
 ⟨(hb.block _ (aa h.1)).trans h.1,(hb.block _ (aa h.2)).trans h.2⟩
def OtP (p : Pd) (t m : ByteArray) : Prop:=¬ p.d = ⟨#[]⟩ ∧ ¬ p.d = t ∧ InL p.zs m

theorem zk (p : Pd) (va : Option Addr) (vl vc nb vb : Nat) (t m : ByteArray) (w : World) (hr : ay w va vl vc p.zs) (hh : gW w nb vb t m) :
  Calls Tryz.prog 265 #[.agg #[.string p.n,.int .i64 p.c,.string p.z,.slice va vl vc,.string p.d,.int .i64 p.p],.pointer (some ⟨nb,0,none⟩),.pointer (some ⟨vb,0,none⟩)] w (ar (OtP p t m) w):=by
 have HR:=ae hr;obtain ⟨h1,h2⟩:=hh;have n0:=cs1 h1;have hnl:=aa h1;have v0:=cs1 h2;have hvl:=aa h2;clear hr h1 h2;by_cases h0 : p.d = ⟨#[]⟩
 ·have hq:=cA h0;have HE:=ae h0;clear h0;go_enter Tryz.func265,Tryz.ntmps265;go_wp2;go_ret;exact ar.f (fun h => h.1 HE.out) (an _ _)
 have hq0:=aY h0;have H0:=ae h0;clear h0;by_cases he : p.d = t
 ·have hq:=aV he;have HE:=ae he;clear he;go_enter Tryz.func265,Tryz.ntmps265;go_wp2;go_ret;exact ar.f (fun h => h.2.1 HE.out) (an _ _)
 ·have hq:=bo he;have HE:=ae he;clear he;go_enter Tryz.func265,Tryz.ntmps265;go_wp2_with fail;refine (bP va vl vc p.zs m _ (HR.out.below (an _ _))).mono ?_;rintro e w1 ⟨r,rfl,hi,hb⟩;have HB:=ae ((an w _).trans (hb.mono aN));clear hb;go_wp2;go_ret;exact ⟨r,rfl,⟨fun h => ⟨H0.out,HE.out,hi.1 h⟩,fun h => hi.2 h.2.2⟩,HB.out⟩

theorem zi (a : Option Addr) (len cap : Nat) (ps : List Pd) (nb vb : Nat) (t m : ByteArray) (w : World) (hr : aI w a len cap 6 (ps.map pdF)) (hh : gW w nb vb t m) :
  Calls Tryz.prog 256 #[.slice a len cap,.func (.func 265) #[] #[.pointer (some ⟨nb,0,none⟩),.pointer (some ⟨vb,0,none⟩)]] w fun e w' => (∃ r : Int,e = .returned (.int .i64 r) ∧ ((0 ≤ r ∧ ∃ (j : Nat) (p : Pd),ps[j]? = some p ∧ OtP p t m) ∨ (r = -1 ∧ ∀ (j : Nat) (p : Pd),ps[j]? = some p → ¬ OtP p t m))) ∧ Below w.heap.size w w':=by
 have HR:=ae hr;have HH:=ae hh;have hlc : len ≤ 9223372036854775807:=Nat.le_trans hr.2.1 hr.2.2.1;have hxl : ps.length = len:=by simpa using hr.1
 clear hr hh;go_enter Tryz.func256,Tryz.ntmps256;go_wp2;go_loopw [8] (fun i wr => ∃ k : Nat,k ≤ len ∧ i = .int .i64 k ∧ Hid (∀ (j : Nat) p,j < k → ps[j]? = some p → ¬ OtP p t m) ∧ Hid (Below w.heap.size w wr)) (fun i _ => len - (intOf i).toNat);case atStart => exact ⟨0,by omega,rfl,fun _ _ h => absurd h af,Below.refl _ _⟩
 case round =>
  obtain ⟨k,hk,rfl,HE,HB⟩:=hrel;by_cases hlt : k < len
  ·obtain ⟨b,o,p,rfl,hb,hx,hat⟩:=bQ (HR.out.below HB.out) hlt;obtain ⟨va,vl,vc,hvr,z0,z2,z4,c0,c1,c2,c3,c4,c5⟩:=aU hat;have HX:=ae hx;have HV:=ae hvr;clear hat hx hvr z0 z2 z4;go_wp2_with fail;refine (zk p va vl vc nb vb t m _ HV.out (HH.out.below HB.out)).mono ?_;exact A7
  ·exact uB

theorem zj (a : Option Addr) (len cap : Nat) (ps : List Pd) (nb vb : Nat) (t m : ByteArray) (w : World) (hr : aI w a len cap 6 (ps.map pdF)) (hh : gW w nb vb t m) :
  Calls Tryz.prog 254 #[.slice a len cap,.func (.func 265) #[] #[.pointer (some ⟨nb,0,none⟩),.pointer (some ⟨vb,0,none⟩)]] w (ar (∃ (j : Nat) (p : Pd),ps[j]? = some p ∧ OtP p t m) w):=by
 have HR:=ae hr;have HH:=ae hh;clear hr hh;go_enter Tryz.func254,Tryz.ntmps254;go_wp2_with fail;refine (zi a len cap ps nb vb t m _ HR.out HH.out).mono ?_;exact xJ

theorem yf (d : Ad) (c : Cl) (m t : ByteArray) (w : World) (hr : aM w d c.raw) :
  Calls Tryz.prog 262 #[.agg #[.slice d.a1 d.l1 d.c1,.slice d.a2 d.l2 d.c2,.slice d.a3 d.l3 d.c3,.slice d.a4 d.l4 d.c4,.slice d.a5 d.l5 d.c5,.int .i64 c.now],.string m,.string t] w (ar (∃ (j : Nat) (p : Pd),c.ps[j]? = some p ∧ OtP p t m) w):=by
 obtain ⟨HR,HB⟩:=hQ;clear hr;go_enter Tryz.func262,Tryz.ntmps262;go_wp2_with fail;refine (zj d.a5 d.l5 d.c5 c.ps (w.heap.size + 1 + 1) (w.heap.size + 1) t m _ (HR.out.p.below (HB.out.trans ((br _ _ _ _).mono HB.out.size))) ⟨cz _ _ _ _,db _ _ _ _⟩).mono ?_;exact xF

theorem zp (x t : ByteArray) (nb : Nat) (w : World) (hh : w.heap[nb]? = some (.cells #[.string t] 9 (0,0))) :
  Calls Tryz.prog 264 #[.string x,.pointer (some ⟨nb,0,none⟩)] w (ar (¬ x = t) w):=by
 have n0:=cs1 hh;have hnl:=aa hh;clear hh;by_cases he : x = t
 ·have hq:=aV he;have HE:=ae he;clear he;go_enter Tryz.func264,Tryz.ntmps264;go_wp2;go_ret;exact ar.f (fun h => h HE.out) (Below.refl _ _)
 ·have hq:=bo he;have HE:=ae he;clear he;go_enter Tryz.func264,Tryz.ntmps264;go_wp2;go_ret;exact ar.t HE.out (Below.refl _ _)

theorem zl (a : Option Addr) (len cap : Nat) (zs : List ByteArray) (t : ByteArray) (nb : Nat) (w : World) (hr : ay w a len cap zs) (hh : w.heap[nb]? = some (.cells #[.string t] 9 (0,0))) :
  Calls Tryz.prog 266 #[.slice a len cap,.func (.func 264) #[] #[.pointer (some ⟨nb,0,none⟩)]] w fun e w' => (∃ r : Int,e = .returned (.int .i64 r) ∧ ((0 ≤ r ∧ ∃ (j : Nat) (x : ByteArray),zs[j]? = some x ∧ ¬ x = t) ∨ (r = -1 ∧ ∀ (j : Nat) x,zs[j]? = some x → x = t))) ∧ Below w.heap.size w w':=by
 have HR:=ae hr;have HH:=ae hh;have hlc : len ≤ 9223372036854775807:=Nat.le_trans hr.2.1 hr.2.2.1;have hxl : zs.length = len:=hr.1;clear hr hh;go_enter Tryz.func266,Tryz.ntmps266;go_wp2;go_loopw [8] (fun i wr => ∃ k : Nat,k ≤ len ∧ i = .int .i64 k ∧ Hid (∀ (j : Nat) x,j < k → zs[j]? = some x → x = t) ∧ Hid (Below w.heap.size w wr)) (fun i _ => len - (intOf i).toNat);case atStart => exact ⟨0,by omega,rfl,fun _ _ h => absurd h af,Below.refl _ _⟩
 case round =>
  obtain ⟨k,hk,rfl,HE,HB⟩:=hrel;by_cases hlt : k < len
  ·obtain ⟨b,o,x,rfl,hb,hx,hc,hsz⟩:=(HR.out.below HB.out).at hlt;have HX:=ae hx;clear hx hsz;go_wp2_with fail;refine (zp x t nb _ ((HB.out.block _ (aa HH.out)).trans HH.out)).mono ?_;rintro e w1 ⟨r,rfl,hi,hb1⟩;have HI:=ae hi;have HB1:=upB HB hb1;clear hi hb1 hc;cases r
   ·go_wp2;refine ⟨⟨k + 1,by omega,by go_num,fun j z hj hz => ?_,HB1.out⟩,by simp [intOf];omega⟩;by_cases e : j = k
    ·subst e;rw [HX.out] at hz;obtain rfl:=Option.some.inj hz;exact Classical.byContradiction fun q => (by have:=HI.out.2 q;cases this)
    ·exact HE.out j z af hz
   ·go_wp2;go_ret;exact ⟨⟨k,rfl,.inl ⟨by omega,k,x,HX.out,HI.out.1 bS⟩⟩,HB1.out⟩
  ·exact uB

theorem zm (a : Option Addr) (len cap : Nat) (zs : List ByteArray) (t : ByteArray) (nb : Nat) (w : World) (hr : ay w a len cap zs) (hh : w.heap[nb]? = some (.cells #[.string t] 9 (0,0))) :
  Calls Tryz.prog 263 #[.slice a len cap,.func (.func 264) #[] #[.pointer (some ⟨nb,0,none⟩)]] w (ar (∃ (j : Nat) (x : ByteArray),zs[j]? = some x ∧ ¬ x = t) w):=by
 have HR:=ae hr;have HH:=ae hh;clear hr hh;go_enter Tryz.func263,Tryz.ntmps263;go_wp2_with fail;refine (zl a len cap zs t nb _ HR.out HH.out).mono ?_;rintro e w1 ⟨⟨r,rfl,hi⟩,hb⟩;have HB:=ae hb;clear hb;rcases hi with ⟨h0,h1⟩ | ⟨rfl,h1⟩
 ·have H1:=ae h1;clear h1;go_wp2;go_ret;exact ar.t H1.out HB.out
 ·have H1:=ae h1;clear h1;go_wp2;go_ret;exact ar.f (fun ⟨j,p,h2,h3⟩ => h3 (H1.out j p h2)) HB.out

theorem zy (v : Vd) (ua : Option Addr) (ul uc : Nat) (t : ByteArray) (w : World) (hr : ay w ua ul uc v.zs) :
  Calls Tryz.prog 261 #[.agg #[.string v.n,.int .i64 v.c,.string v.z,.string v.k,.bool v.x,.string v.m,.bool v.y,.slice ua ul uc],.string t] w (ar (∃ (j : Nat) (x : ByteArray),v.zs[j]? = some x ∧ ¬ x = t) w):=by
 have HR:=ae hr;clear hr;go_enter Tryz.func261,Tryz.ntmps261;go_wp2_with fail;refine (zm ua ul uc v.zs t (w.heap.size + 1) _ (HR.out.below (aF _ _ _)) (bK _ _ _)).mono ?_;rintro e w1 ⟨r,rfl,hi,hb⟩;have HI:=ae hi;have HB:=ae ((aF w _ _).trans (hb.mono bF));clear hi hb;go_wp2;go_ret;exact ⟨r,rfl,HI.out,HB.out⟩

theorem C7 (u v : Int) (w : World) : Calls Tryz.prog 247 #[.agg #[.int .i64 u,.int .i64 v]] w (ar (v < u) w):=by
 by_cases h : v < u
 ·have hq : decide (v < u) = true:=by simpa using h
  have H1:=ae h;clear h;go_enter Tryz.func247,Tryz.ntmps247;exact acs
 ·have hq : decide (v < u) = false:=by simpa using h
  go_enter Tryz.func247,Tryz.ntmps247;go_wp2;go_ret;exact ar.f af aag

theorem Da (d : Ad) (c : Cl) (p : Pd) (n : Nd) (pa : Option Addr) (pl pc : Nat) (na : Option Addr) (nl nc : Nat) (w : World) :
  Calls Tryz.prog 245 #[.agg #[],.agg #[.slice d.a1 d.l1 d.c1,.slice d.a2 d.l2 d.c2,.slice d.a3 d.l3 d.c3,.slice d.a4 d.l4 d.c4,.slice d.a5 d.l5 d.c5,.int .i64 c.now,.string p.n,.int .i64 p.c,.string p.z,.slice pa pl pc,.string p.d,.int .i64 p.p,.string n.n,.string n.z,.int .i64 n.c,.int .i64 n.s,.int .i64 n.u,.bool n.d,.slice na nl nc]] w (ar (iu c n) w):=by
 cases hd : n.d
 ·go_enter Tryz.func245,Tryz.ntmps245;go_wp2_with fail;refine (qF d c.now n.n n.z n.c n.s n.u false na nl nc _).mono ?_;rintro e w1 ⟨rfl,hb⟩;have HB:=ae ((aF w _ _).trans (hb.mono bF));clear hb;go_wp2_with fail;refine (C7 _ _ _).mono ?_;rintro e w2 ⟨r,rfl,hi,hb⟩;have HI:=ae hi;replace HB:=upB HB hb;clear hi hb;cases r
  ·go_wp2;go_ret;exact ar.t (.inr (Int.not_lt.1 fun h => by have:=HI.out.2 h;cases this)) HB.out
  ·go_wp2;go_ret;exact ar.f (fun h => by
    rcases h with h | h
    ·rw [hd] at h;cases h
    ·have:=HI.out.1 bS;omega) HB.out
 ·go_enter Tryz.func245,Tryz.ntmps245;go_wp2;go_ret;exact ar.t (.inl hd) aag

theorem C8 (d : Ad) (c : Cl) (p : Pd) (n : Nd) (pa : Option Addr) (pl pc : Nat) (na : Option Addr) (nl nc : Nat) (w : World) :
  Calls Tryz.prog 248 #[.agg #[],.agg #[.slice d.a1 d.l1 d.c1,.slice d.a2 d.l2 d.c2,.slice d.a3 d.l3 d.c3,.slice d.a4 d.l4 d.c4,.slice d.a5 d.l5 d.c5,.int .i64 c.now,.string p.n,.int .i64 p.c,.string p.z,.slice pa pl pc,.string p.d,.int .i64 p.p,.string n.n,.string n.z,.int .i64 n.c,.int .i64 n.s,.int .i64 n.u,.bool n.d,.slice na nl nc]] w (ar (im p n) w):=by
 by_cases h0 : p.z = ⟨#[]⟩
 ·have hq:=cA h0;have H0:=ae h0;clear h0;go_enter Tryz.func248,Tryz.ntmps248;go_wp2;go_ret;exact ar.f (fun h => h.1 H0.out) aag
 have hq0:=aY h0;have H0:=ae h0;clear h0;by_cases h1 : p.z = n.z
 ·have hq:=aV h1;have H1:=ae h1;clear h1;go_enter Tryz.func248,Tryz.ntmps248;go_wp2;go_ret;exact ar.f (fun h => h.2 H1.out) aag
 ·have hq:=bo h1;have H1:=ae h1;clear h1;go_enter Tryz.func248,Tryz.ntmps248;go_wp2;go_ret;exact ar.t (And.intro H0.out H1.out) aag

theorem qP (t : ByteArray) : ∀ {ps : List Pd},(∀ (j : Nat) p,ps[j]? = some p → 0 ≤ p.c ∧ p.c ≤ 1000000) → 0 ≤ cpuOf t ps ∧ cpuOf t ps ≤ ps.length * 1000000
 | [],_ => by simp [cpuOf]
 | p :: ps,h => by
  have h1:=h 0 p rfl;have h2:=qP t (ps:=ps) (fun j q hq => h (j + 1) q (by simpa using hq));simp only [cpuOf,List.length_cons];split <;> omega
theorem sL (d : Ad) (c : Cl) (n : Nd) (na : Option Addr) (nl nc : Nat) (w : World) (hr : aM w d c.raw) (hT : aC c) (hc : 0 ≤ n.c ∧ n.c ≤ 1000000) :
  Calls Tryz.prog 250 #[.agg #[.slice d.a1 d.l1 d.c1,.slice d.a2 d.l2 d.c2,.slice d.a3 d.l3 d.c3,.slice d.a4 d.l4 d.c4,.slice d.a5 d.l5 d.c5,.int .i64 c.now],.agg #[.string n.n,.string n.z,.int .i64 n.c,.int .i64 n.s,.int .i64 n.u,.bool n.d,.slice na nl nc]] w fun e w' => e = .returned (.int .i64 (n.c - cpuOf n.n c.ps)) ∧ Below w.heap.size w w':=by
 have HR:=ae hr;have h8 : c.ps.length ≤ 8:=by have:=hT.2.1.2.2.2.2.1;omega
 have HP:=ae (fun (j : Nat) p (hp : c.ps[j]? = some p) => (hT.2.1.2.2.2.2.2.1 j p hp).2.1);have HU:=ae (qP n.n HP.out);obtain ⟨hc0,hc1⟩:=hc;obtain ⟨hu0,hu1⟩:=HU.out;have HB:=ae (Below.refl w.heap.size w);clear hr hT HU;go_enter Tryz.func250,Tryz.ntmps250;go_wp2_with fail;have hszv1 : ((w.alloc (.cells #[.slice d.a1 d.l1 d.c1,.slice d.a2 d.l2 d.c2,.slice d.a3 d.l3 d.c3,.slice d.a4 d.l4 d.c4,.slice d.a5 d.l5 d.c5,.int .i64 c.now] 37)).alloc (.cells #[.string n.n,.string n.z,.int .i64 n.c,.int .i64 n.s,.int .i64 n.u,.bool n.d,.slice na nl nc] 72)).heap.size = w.heap.size + 1 + 1:=by simp
 have Gk : Hid (((w.alloc (.cells #[.slice d.a1 d.l1 d.c1,.slice d.a2 d.l2 d.c2,.slice d.a3 d.l3 d.c3,.slice d.a4 d.l4 d.c4,.slice d.a5 d.l5 d.c5,.int .i64 c.now] 37)).alloc (.cells #[.string n.n,.string n.z,.int .i64 n.c,.int .i64 n.s,.int .i64 n.u,.bool n.d,.slice na nl nc] 72)).heap[w.heap.size]? = some (.cells #[.slice d.a1 d.l1 d.c1,.slice d.a2 d.l2 d.c2,.slice d.a3 d.l3 d.c3,.slice d.a4 d.l4 d.c4,.slice d.a5 d.l5 d.c5,.int .i64 c.now] 37 (0,0))):=cK _ _ _;have Gn : Hid (((w.alloc (.cells #[.slice d.a1 d.l1 d.c1,.slice d.a2 d.l2 d.c2,.slice d.a3 d.l3 d.c3,.slice d.a4 d.l4 d.c4,.slice d.a5 d.l5 d.c5,.int .i64 c.now] 37)).alloc (.cells #[.string n.n,.string n.z,.int .i64 n.c,.int .i64 n.s,.int .i64 n.u,.bool n.d,.slice na nl nc] 72)).heap[w.heap.size + 1]? = some (.cells #[.string n.n,.string n.z,.int .i64 n.c,.int .i64 n.s,.int .i64 n.u,.bool n.d,.slice na nl nc] 72 (0,0))):=bK _ _ _;have HW : Hid (Below w.heap.size w ((w.alloc (.cells #[.slice d.a1 d.l1 d.c1,.slice d.a2 d.l2 d.c2,.slice d.a3 d.l3 d.c3,.slice d.a4 d.l4 d.c4,.slice d.a5 d.l5 d.c5,.int .i64 c.now] 37)).alloc (.cells #[.string n.n,.string n.z,.int .i64 n.c,.int .i64 n.s,.int .i64 n.u,.bool n.d,.slice na nl nc] 72))):=(HB.out.trans ((aF _ _ _).mono HB.out.size));obtain ⟨k0,k1,k2,k3,k4,k5⟩:=sl6 Gk;obtain ⟨n0,n1,n2,n3,n4,n5,n6⟩:=sl7 Gn;have hne0:=Wd.ne ((w.alloc (.cells #[.slice d.a1 d.l1 d.c1,.slice d.a2 d.l2 d.c2,.slice d.a3 d.l3 d.c3,.slice d.a4 d.l4 d.c4,.slice d.a5 d.l5 d.c5,.int .i64 c.now] 37)).alloc (.cells #[.string n.n,.string n.z,.int .i64 n.c,.int .i64 n.s,.int .i64 n.u,.bool n.d,.slice na nl nc] 72));have HC0:=ae (fun q : Wd ((w.alloc (.cells #[.slice d.a1 d.l1 d.c1,.slice d.a2 d.l2 d.c2,.slice d.a3 d.l3 d.c3,.slice d.a4 d.l4 d.c4,.slice d.a5 d.l5 d.c5,.int .i64 c.now] 37)).alloc (.cells #[.string n.n,.string n.z,.int .i64 n.c,.int .i64 n.s,.int .i64 n.u,.bool n.d,.slice na nl nc] 72)) => fZ d c.now c.ps n.n q.w (HR.out.p.below (HW.out.trans (q.b.mono HW.out.size))) h8 HP.out);go_wp2_with fail;refine aj av av ?_;repeat (go_big_quiet_step (first | (go_at_call 142;exact Calls.wide (HC0.out _)) | fail))
 refine wpQuiet_nil ?_;rintro _ ⟨q1,rfl⟩;obtain ⟨HB1,Ck⟩:=cH;have Cn:=upK Gn q1.b;clear hne0 HW HB HC0 k0 k1 k2 k3 k4 k5 n0 n1 n2 n3 n4 n5 n6 Gk Gn hszv1;have HB:=HB1;clear HB1;have Bk:=Ck;clear Ck;have Bn:=Cn;clear Cn;go_wp2;go_ret;exact ⟨by first | rfl | (congr 2;go_num),HB.out⟩

theorem DN (d : Ad) (c : Cl) (p : Pd) (n : Nd) (pa : Option Addr) (pl pc : Nat) (na : Option Addr) (nl nc : Nat) (w : World) (hr : aM w d c.raw) (hT : aC c) (hc : 0 ≤ n.c ∧ n.c ≤ 1000000) :
  Calls Tryz.prog 249 #[.agg #[],.agg #[.slice d.a1 d.l1 d.c1,.slice d.a2 d.l2 d.c2,.slice d.a3 d.l3 d.c3,.slice d.a4 d.l4 d.c4,.slice d.a5 d.l5 d.c5,.int .i64 c.now,.string p.n,.int .i64 p.c,.string p.z,.slice pa pl pc,.string p.d,.int .i64 p.p,.string n.n,.string n.z,.int .i64 n.c,.int .i64 n.s,.int .i64 n.u,.bool n.d,.slice na nl nc]] w (ar (lZ c p n) w):=by
 have HR:=ae hr;have HT:=ae hT;have HC:=ae hc;have HB:=ae (Below.refl w.heap.size w);clear hr hT hc;go_enter Tryz.func249,Tryz.ntmps249;go_wp2_with fail;have hszv1 : ((w.alloc (.cells #[] 133)).alloc (.cells #[.slice d.a1 d.l1 d.c1,.slice d.a2 d.l2 d.c2,.slice d.a3 d.l3 d.c3,.slice d.a4 d.l4 d.c4,.slice d.a5 d.l5 d.c5,.int .i64 c.now,.string p.n,.int .i64 p.c,.string p.z,.slice pa pl pc,.string p.d,.int .i64 p.p,.string n.n,.string n.z,.int .i64 n.c,.int .i64 n.s,.int .i64 n.u,.bool n.d,.slice na nl nc] 76)).heap.size = w.heap.size + 1 + 1:=by simp
 have Gz : Hid (((w.alloc (.cells #[] 133)).alloc (.cells #[.slice d.a1 d.l1 d.c1,.slice d.a2 d.l2 d.c2,.slice d.a3 d.l3 d.c3,.slice d.a4 d.l4 d.c4,.slice d.a5 d.l5 d.c5,.int .i64 c.now,.string p.n,.int .i64 p.c,.string p.z,.slice pa pl pc,.string p.d,.int .i64 p.p,.string n.n,.string n.z,.int .i64 n.c,.int .i64 n.s,.int .i64 n.u,.bool n.d,.slice na nl nc] 76)).heap[w.heap.size]? = some (.cells #[] 133 (0,0))):=cK _ _ _;have Gt : Hid (((w.alloc (.cells #[] 133)).alloc (.cells #[.slice d.a1 d.l1 d.c1,.slice d.a2 d.l2 d.c2,.slice d.a3 d.l3 d.c3,.slice d.a4 d.l4 d.c4,.slice d.a5 d.l5 d.c5,.int .i64 c.now,.string p.n,.int .i64 p.c,.string p.z,.slice pa pl pc,.string p.d,.int .i64 p.p,.string n.n,.string n.z,.int .i64 n.c,.int .i64 n.s,.int .i64 n.u,.bool n.d,.slice na nl nc] 76)).heap[w.heap.size + 1]? = some (.cells #[.slice d.a1 d.l1 d.c1,.slice d.a2 d.l2 d.c2,.slice d.a3 d.l3 d.c3,.slice d.a4 d.l4 d.c4,.slice d.a5 d.l5 d.c5,.int .i64 c.now,.string p.n,.int .i64 p.c,.string p.z,.slice pa pl pc,.string p.d,.int .i64 p.p,.string n.n,.string n.z,.int .i64 n.c,.int .i64 n.s,.int .i64 n.u,.bool n.d,.slice na nl nc] 76 (0,0))):=bK _ _ _;have HW : Hid (Below w.heap.size w ((w.alloc (.cells #[] 133)).alloc (.cells #[.slice d.a1 d.l1 d.c1,.slice d.a2 d.l2 d.c2,.slice d.a3 d.l3 d.c3,.slice d.a4 d.l4 d.c4,.slice d.a5 d.l5 d.c5,.int .i64 c.now,.string p.n,.int .i64 p.c,.string p.z,.slice pa pl pc,.string p.d,.int .i64 p.p,.string n.n,.string n.z,.int .i64 n.c,.int .i64 n.s,.int .i64 n.u,.bool n.d,.slice na nl nc] 76))):=(HB.out.trans ((aF _ _ _).mono HB.out.size));have t0:=fun q : Wd ((w.alloc (.cells #[] 133)).alloc (.cells #[.slice d.a1 d.l1 d.c1,.slice d.a2 d.l2 d.c2,.slice d.a3 d.l3 d.c3,.slice d.a4 d.l4 d.c4,.slice d.a5 d.l5 d.c5,.int .i64 c.now,.string p.n,.int .i64 p.c,.string p.z,.slice pa pl pc,.string p.d,.int .i64 p.p,.string n.n,.string n.z,.int .i64 n.c,.int .i64 n.s,.int .i64 n.u,.bool n.d,.slice na nl nc] 76)) => q.slot (o:=0) Gt.out rfl;have t1:=fun q : Wd ((w.alloc (.cells #[] 133)).alloc (.cells #[.slice d.a1 d.l1 d.c1,.slice d.a2 d.l2 d.c2,.slice d.a3 d.l3 d.c3,.slice d.a4 d.l4 d.c4,.slice d.a5 d.l5 d.c5,.int .i64 c.now,.string p.n,.int .i64 p.c,.string p.z,.slice pa pl pc,.string p.d,.int .i64 p.p,.string n.n,.string n.z,.int .i64 n.c,.int .i64 n.s,.int .i64 n.u,.bool n.d,.slice na nl nc] 76)) => q.slot (o:=1) Gt.out rfl;have t2:=fun q : Wd ((w.alloc (.cells #[] 133)).alloc (.cells #[.slice d.a1 d.l1 d.c1,.slice d.a2 d.l2 d.c2,.slice d.a3 d.l3 d.c3,.slice d.a4 d.l4 d.c4,.slice d.a5 d.l5 d.c5,.int .i64 c.now,.string p.n,.int .i64 p.c,.string p.z,.slice pa pl pc,.string p.d,.int .i64 p.p,.string n.n,.string n.z,.int .i64 n.c,.int .i64 n.s,.int .i64 n.u,.bool n.d,.slice na nl nc] 76)) => q.slot (o:=2) Gt.out rfl;have t3:=fun q : Wd ((w.alloc (.cells #[] 133)).alloc (.cells #[.slice d.a1 d.l1 d.c1,.slice d.a2 d.l2 d.c2,.slice d.a3 d.l3 d.c3,.slice d.a4 d.l4 d.c4,.slice d.a5 d.l5 d.c5,.int .i64 c.now,.string p.n,.int .i64 p.c,.string p.z,.slice pa pl pc,.string p.d,.int .i64 p.p,.string n.n,.string n.z,.int .i64 n.c,.int .i64 n.s,.int .i64 n.u,.bool n.d,.slice na nl nc] 76)) => q.slot (o:=3) Gt.out rfl
 have t4:=fun q : Wd ((w.alloc (.cells #[] 133)).alloc (.cells #[.slice d.a1 d.l1 d.c1,.slice d.a2 d.l2 d.c2,.slice d.a3 d.l3 d.c3,.slice d.a4 d.l4 d.c4,.slice d.a5 d.l5 d.c5,.int .i64 c.now,.string p.n,.int .i64 p.c,.string p.z,.slice pa pl pc,.string p.d,.int .i64 p.p,.string n.n,.string n.z,.int .i64 n.c,.int .i64 n.s,.int .i64 n.u,.bool n.d,.slice na nl nc] 76)) => q.slot (o:=4) Gt.out rfl;have t5:=fun q : Wd ((w.alloc (.cells #[] 133)).alloc (.cells #[.slice d.a1 d.l1 d.c1,.slice d.a2 d.l2 d.c2,.slice d.a3 d.l3 d.c3,.slice d.a4 d.l4 d.c4,.slice d.a5 d.l5 d.c5,.int .i64 c.now,.string p.n,.int .i64 p.c,.string p.z,.slice pa pl pc,.string p.d,.int .i64 p.p,.string n.n,.string n.z,.int .i64 n.c,.int .i64 n.s,.int .i64 n.u,.bool n.d,.slice na nl nc] 76)) => q.slot (o:=5) Gt.out rfl;have t7:=fun q : Wd ((w.alloc (.cells #[] 133)).alloc (.cells #[.slice d.a1 d.l1 d.c1,.slice d.a2 d.l2 d.c2,.slice d.a3 d.l3 d.c3,.slice d.a4 d.l4 d.c4,.slice d.a5 d.l5 d.c5,.int .i64 c.now,.string p.n,.int .i64 p.c,.string p.z,.slice pa pl pc,.string p.d,.int .i64 p.p,.string n.n,.string n.z,.int .i64 n.c,.int .i64 n.s,.int .i64 n.u,.bool n.d,.slice na nl nc] 76)) => q.slot (o:=7) Gt.out rfl;have t12:=fun q : Wd ((w.alloc (.cells #[] 133)).alloc (.cells #[.slice d.a1 d.l1 d.c1,.slice d.a2 d.l2 d.c2,.slice d.a3 d.l3 d.c3,.slice d.a4 d.l4 d.c4,.slice d.a5 d.l5 d.c5,.int .i64 c.now,.string p.n,.int .i64 p.c,.string p.z,.slice pa pl pc,.string p.d,.int .i64 p.p,.string n.n,.string n.z,.int .i64 n.c,.int .i64 n.s,.int .i64 n.u,.bool n.d,.slice na nl nc] 76)) => q.slot (o:=12) Gt.out rfl;have t13:=fun q : Wd ((w.alloc (.cells #[] 133)).alloc (.cells #[.slice d.a1 d.l1 d.c1,.slice d.a2 d.l2 d.c2,.slice d.a3 d.l3 d.c3,.slice d.a4 d.l4 d.c4,.slice d.a5 d.l5 d.c5,.int .i64 c.now,.string p.n,.int .i64 p.c,.string p.z,.slice pa pl pc,.string p.d,.int .i64 p.p,.string n.n,.string n.z,.int .i64 n.c,.int .i64 n.s,.int .i64 n.u,.bool n.d,.slice na nl nc] 76)) => q.slot (o:=13) Gt.out rfl;have t14:=fun q : Wd ((w.alloc (.cells #[] 133)).alloc (.cells #[.slice d.a1 d.l1 d.c1,.slice d.a2 d.l2 d.c2,.slice d.a3 d.l3 d.c3,.slice d.a4 d.l4 d.c4,.slice d.a5 d.l5 d.c5,.int .i64 c.now,.string p.n,.int .i64 p.c,.string p.z,.slice pa pl pc,.string p.d,.int .i64 p.p,.string n.n,.string n.z,.int .i64 n.c,.int .i64 n.s,.int .i64 n.u,.bool n.d,.slice na nl nc] 76)) => q.slot (o:=14) Gt.out rfl;have t15:=fun q : Wd ((w.alloc (.cells #[] 133)).alloc (.cells #[.slice d.a1 d.l1 d.c1,.slice d.a2 d.l2 d.c2,.slice d.a3 d.l3 d.c3,.slice d.a4 d.l4 d.c4,.slice d.a5 d.l5 d.c5,.int .i64 c.now,.string p.n,.int .i64 p.c,.string p.z,.slice pa pl pc,.string p.d,.int .i64 p.p,.string n.n,.string n.z,.int .i64 n.c,.int .i64 n.s,.int .i64 n.u,.bool n.d,.slice na nl nc] 76)) => q.slot (o:=15) Gt.out rfl;have t16:=fun q : Wd ((w.alloc (.cells #[] 133)).alloc (.cells #[.slice d.a1 d.l1 d.c1,.slice d.a2 d.l2 d.c2,.slice d.a3 d.l3 d.c3,.slice d.a4 d.l4 d.c4,.slice d.a5 d.l5 d.c5,.int .i64 c.now,.string p.n,.int .i64 p.c,.string p.z,.slice pa pl pc,.string p.d,.int .i64 p.p,.string n.n,.string n.z,.int .i64 n.c,.int .i64 n.s,.int .i64 n.u,.bool n.d,.slice na nl nc] 76)) => q.slot (o:=16) Gt.out rfl
 have t17:=fun q : Wd ((w.alloc (.cells #[] 133)).alloc (.cells #[.slice d.a1 d.l1 d.c1,.slice d.a2 d.l2 d.c2,.slice d.a3 d.l3 d.c3,.slice d.a4 d.l4 d.c4,.slice d.a5 d.l5 d.c5,.int .i64 c.now,.string p.n,.int .i64 p.c,.string p.z,.slice pa pl pc,.string p.d,.int .i64 p.p,.string n.n,.string n.z,.int .i64 n.c,.int .i64 n.s,.int .i64 n.u,.bool n.d,.slice na nl nc] 76)) => q.slot (o:=17) Gt.out rfl;have t18:=fun q : Wd ((w.alloc (.cells #[] 133)).alloc (.cells #[.slice d.a1 d.l1 d.c1,.slice d.a2 d.l2 d.c2,.slice d.a3 d.l3 d.c3,.slice d.a4 d.l4 d.c4,.slice d.a5 d.l5 d.c5,.int .i64 c.now,.string p.n,.int .i64 p.c,.string p.z,.slice pa pl pc,.string p.d,.int .i64 p.p,.string n.n,.string n.z,.int .i64 n.c,.int .i64 n.s,.int .i64 n.u,.bool n.d,.slice na nl nc] 76)) => q.slot (o:=18) Gt.out rfl;have hne0:=Wd.ne ((w.alloc (.cells #[] 133)).alloc (.cells #[.slice d.a1 d.l1 d.c1,.slice d.a2 d.l2 d.c2,.slice d.a3 d.l3 d.c3,.slice d.a4 d.l4 d.c4,.slice d.a5 d.l5 d.c5,.int .i64 c.now,.string p.n,.int .i64 p.c,.string p.z,.slice pa pl pc,.string p.d,.int .i64 p.p,.string n.n,.string n.z,.int .i64 n.c,.int .i64 n.s,.int .i64 n.u,.bool n.d,.slice na nl nc] 76));have HC0:=ae (fun q : Wd ((w.alloc (.cells #[] 133)).alloc (.cells #[.slice d.a1 d.l1 d.c1,.slice d.a2 d.l2 d.c2,.slice d.a3 d.l3 d.c3,.slice d.a4 d.l4 d.c4,.slice d.a5 d.l5 d.c5,.int .i64 c.now,.string p.n,.int .i64 p.c,.string p.z,.slice pa pl pc,.string p.d,.int .i64 p.p,.string n.n,.string n.z,.int .i64 n.c,.int .i64 n.s,.int .i64 n.u,.bool n.d,.slice na nl nc] 76)) => sL d c n na nl nc q.w (HR.out.below (HW.out.trans (q.b.mono HW.out.size))) HT.out HC.out);go_wp2_with fail;refine aj av av ?_;repeat (go_big_quiet_step (first | (go_at_call 250;exact Calls.wide (HC0.out _)) | fail))
 refine wpQuiet_nil ?_;rintro _ ⟨q1,rfl⟩;have HB1:=upB HW q1.b;have Cz:=upK Gz q1.b;have Ct:=upK Gt q1.b;clear hne0 HW HB HC0 t0 t1 t2 t3 t4 t5 t7 t12 t13 t14 t15 t16 t17 t18 Gz Gt hszv1;have HB:=HB1;clear HB1;have Bz:=Cz;clear Cz;have Bt:=Ct;clear Ct;go_wp2;go_ret;exact ⟨_,rfl,by simp [lZ],HB.out⟩

theorem Cm (d : Ad) (c : Cl) (p : Pd) (n : Nd) (pa : Option Addr) (pl pc : Nat) (na : Option Addr) (nl nc : Nat) (v : Vd) (ua : Option Addr) (ul uc : Nat) (w : World) :
  Calls Tryz.prog 258 #[.agg #[.string v.n,.int .i64 v.c,.string v.z,.string v.k,.bool v.x,.string v.m,.bool v.y,.slice ua ul uc],.agg #[.slice d.a1 d.l1 d.c1,.slice d.a2 d.l2 d.c2,.slice d.a3 d.l3 d.c3,.slice d.a4 d.l4 d.c4,.slice d.a5 d.l5 d.c5,.int .i64 c.now,.string p.n,.int .i64 p.c,.string p.z,.slice pa pl pc,.string p.d,.int .i64 p.p,.string n.n,.string n.z,.int .i64 n.c,.int .i64 n.s,.int .i64 n.u,.bool n.d,.slice na nl nc]] w (ar (¬ v.z = n.z) w):=by
 by_cases h1 : v.z = n.z
 ·have hq:=aV h1;have H1:=ae h1;clear h1;go_enter Tryz.func258,Tryz.ntmps258;go_wp2;go_ret;exact ar.f (fun h => h H1.out) aag
 ·have hq:=bo h1;have H1:=ae h1;clear h1;go_enter Tryz.func258,Tryz.ntmps258;exact acs

theorem Cj (d : Ad) (c : Cl) (p : Pd) (n : Nd) (pa : Option Addr) (pl pc : Nat) (na : Option Addr) (nl nc : Nat) (v : Vd) (ua : Option Addr) (ul uc : Nat) (w : World) (hr : aM w d c.raw) (hv : ay w ua ul uc v.zs) :
  Calls Tryz.prog 260 #[.agg #[.string v.n,.int .i64 v.c,.string v.z,.string v.k,.bool v.x,.string v.m,.bool v.y,.slice ua ul uc],.agg #[.slice d.a1 d.l1 d.c1,.slice d.a2 d.l2 d.c2,.slice d.a3 d.l3 d.c3,.slice d.a4 d.l4 d.c4,.slice d.a5 d.l5 d.c5,.int .i64 c.now,.string p.n,.int .i64 p.c,.string p.z,.slice pa pl pc,.string p.d,.int .i64 p.p,.string n.n,.string n.z,.int .i64 n.c,.int .i64 n.s,.int .i64 n.u,.bool n.d,.slice na nl nc]] w (ar (fB c v n.n) w):=by
 cases hx : v.x
 ·go_enter Tryz.func260,Tryz.ntmps260;go_wp2;go_ret;exact ar.f (fun h => by have h9:=h.1;rw [hx] at h9;cases h9) aag
 ·have HR:=ae hr;have HV:=ae hv;have HX:=ae hx;have HB:=ae (Below.refl w.heap.size w);have hz:=fun W h => zy v ua ul uc n.n W h;rw [hx] at hz;have HZ:=ae hz;clear hr hv hz hx;go_enter Tryz.func260,Tryz.ntmps260;go_wp2_with fail;refine (HZ.out _ (HV.out.below (aF _ _ _))).mono ?_;rintro e w1 ⟨r,rfl,hi,hb⟩;obtain ⟨HA0,HA1,hbx⟩:=cP hb;have Bh:=ae HA0;have Bt:=ae HA1;replace HB:=upB HB hbx;clear hb hbx HA0 HA1;have HI:=ae hi;clear hi;cases r;rotate_left
  ·obtain ⟨h5,lth_1,t0,t1,t2,t3,t4,t5,t12,ltt_1⟩:=ab7;go_wp2;go_ret;exact ar.t ⟨HX.out,.inl (HI.out.1 bS)⟩ HB.out
  obtain ⟨h5,lth_1,t0,t1,t2,t3,t4,t5,t12,ltt_1⟩:=ab7;go_wp2_with fail;refine (yf d c v.m n.n _ (HR.out.below HB.out)).mono ?_;rintro e w2 ⟨r2,rfl,hi2,hb⟩;clear h5 lth_1 t0 t1 t2 t3 t4 t5 t12 ltt_1;replace Bh:=upK Bh hb;replace Bt:=upK Bt hb;replace HB:=upB HB hb;clear hb;have HI2:=ae hi2;clear hi2;have h5 : w2.cell? ⟨w.heap.size,5,none⟩ = some (.string v.m):=ah Bh.out 5;have lth_2:=aa Bh.out;have t0 : w2.cell? ⟨w.heap.size + 1,0,none⟩ = some (.slice d.a1 d.l1 d.c1):=ah Bt.out 0;have t1 : w2.cell? ⟨w.heap.size + 1,1,none⟩ = some (.slice d.a2 d.l2 d.c2):=ah Bt.out 1;have t2 : w2.cell? ⟨w.heap.size + 1,2,none⟩ = some (.slice d.a3 d.l3 d.c3):=ah Bt.out 2;have t3 : w2.cell? ⟨w.heap.size + 1,3,none⟩ = some (.slice d.a4 d.l4 d.c4):=ah Bt.out 3;have t4 : w2.cell? ⟨w.heap.size + 1,4,none⟩ = some (.slice d.a5 d.l5 d.c5):=ah Bt.out 4;have t5 : w2.cell? ⟨w.heap.size + 1,5,none⟩ = some (.int .i64 c.now):=ah Bt.out 5;have t12 : w2.cell? ⟨w.heap.size + 1,12,none⟩ = some (.string n.n):=ah Bt.out 12;have ltt_2:=aa Bt.out;go_wp2;go_ret;refine ⟨r2,rfl,⟨fun h => ⟨HX.out,.inr (HI2.out.1 h)⟩,fun h => ?_⟩,HB.out⟩;rcases h.2 with h1 | h1
  ·have:=HI.out.2 h1;cases this
  ·exact HI2.out.2 h1

theorem Cq (d : Ad) (c : Cl) (p : Pd) (n : Nd) (pa : Option Addr) (pl pc : Nat) (na : Option Addr) (nl nc : Nat) (k : Kd) (w : World) :
  Calls Tryz.prog 257 #[.agg #[.string k.n,.bool k.x,.bool k.y,.string k.z],.agg #[.slice d.a1 d.l1 d.c1,.slice d.a2 d.l2 d.c2,.slice d.a3 d.l3 d.c3,.slice d.a4 d.l4 d.c4,.slice d.a5 d.l5 d.c5,.int .i64 c.now,.string p.n,.int .i64 p.c,.string p.z,.slice pa pl pc,.string p.d,.int .i64 p.p,.string n.n,.string n.z,.int .i64 n.c,.int .i64 n.s,.int .i64 n.u,.bool n.d,.slice na nl nc]] w (ar (k.x = false) w):=by
 cases hk : k.x
 ·go_enter Tryz.func257,Tryz.ntmps257;go_wp2;go_ret;exact ar.t bS aag
 ·go_enter Tryz.func257,Tryz.ntmps257;go_wp2;go_ret;exact ar.f (fun h => Bool.noConfusion h) aag

theorem C_ (d : Ad) (c : Cl) (p : Pd) (n : Nd) (pa : Option Addr) (pl pc : Nat) (na : Option Addr) (nl nc : Nat) (e : Int) (w : World) :
  Calls Tryz.prog 259 #[.agg #[.int .i64 e],.agg #[.slice d.a1 d.l1 d.c1,.slice d.a2 d.l2 d.c2,.slice d.a3 d.l3 d.c3,.slice d.a4 d.l4 d.c4,.slice d.a5 d.l5 d.c5,.int .i64 c.now,.string p.n,.int .i64 p.c,.string p.z,.slice pa pl pc,.string p.d,.int .i64 p.p,.string n.n,.string n.z,.int .i64 n.c,.int .i64 n.s,.int .i64 n.u,.bool n.d,.slice na nl nc]] w (ar (¬ e = 0) w):=by
 go_enter Tryz.func259,Tryz.ntmps259;go_wp2;go_ret;exact ⟨_,rfl,by simp,by first | exact aF _ _ _ | exact br _ _ _ _⟩

def SlF (L : Nat) : Fact:=fun v _ => ∃ a p,v = .slice a L p
theorem SlF.mono (L : Nat) : Fact.bw (SlF L):=fun _ _ _ h _ => h
theorem C9 (d : Ad) (c : Cl) (p : Pd) (n : Nd) (pa : Option Addr) (pl pc : Nat) (na : Option Addr) (nl nc : Nat) (w : World) (hr : aM w d c.raw) (hv : c.vs.length ≤ 8) :
  Calls Tryz.prog 251 #[.agg #[],.agg #[.slice d.a1 d.l1 d.c1,.slice d.a2 d.l2 d.c2,.slice d.a3 d.l3 d.c3,.slice d.a4 d.l4 d.c4,.slice d.a5 d.l5 d.c5,.int .i64 c.now,.string p.n,.int .i64 p.c,.string p.z,.slice pa pl pc,.string p.d,.int .i64 p.p,.string n.n,.string n.z,.int .i64 n.c,.int .i64 n.s,.int .i64 n.u,.bool n.d,.slice na nl nc]] w (ar (n.s < ((dm c n.n c.vs).length : Int)) w):=by
 have HR:=ae hr;have h8 : c.vs.length ≤ 8:=hv;have HB:=ae (Below.refl w.heap.size w);clear hr hv;go_enter Tryz.func251,Tryz.ntmps251;go_wp2_with fail;have GT : Hid (((w.alloc (.cells #[] 136)).alloc (.cells #[.slice d.a1 d.l1 d.c1,.slice d.a2 d.l2 d.c2,.slice d.a3 d.l3 d.c3,.slice d.a4 d.l4 d.c4,.slice d.a5 d.l5 d.c5,.int .i64 c.now,.string p.n,.int .i64 p.c,.string p.z,.slice pa pl pc,.string p.d,.int .i64 p.p,.string n.n,.string n.z,.int .i64 n.c,.int .i64 n.s,.int .i64 n.u,.bool n.d,.slice na nl nc] 76)).heap[w.heap.size + 1]? = some (.cells #[.slice d.a1 d.l1 d.c1,.slice d.a2 d.l2 d.c2,.slice d.a3 d.l3 d.c3,.slice d.a4 d.l4 d.c4,.slice d.a5 d.l5 d.c5,.int .i64 c.now,.string p.n,.int .i64 p.c,.string p.z,.slice pa pl pc,.string p.d,.int .i64 p.p,.string n.n,.string n.z,.int .i64 n.c,.int .i64 n.s,.int .i64 n.u,.bool n.d,.slice na nl nc] 76 (0,0))):=bK _ _ _;have HV : Hid (Below w.heap.size w ((w.alloc (.cells #[] 136)).alloc (.cells #[.slice d.a1 d.l1 d.c1,.slice d.a2 d.l2 d.c2,.slice d.a3 d.l3 d.c3,.slice d.a4 d.l4 d.c4,.slice d.a5 d.l5 d.c5,.int .i64 c.now,.string p.n,.int .i64 p.c,.string p.z,.slice pa pl pc,.string p.d,.int .i64 p.p,.string n.n,.string n.z,.int .i64 n.c,.int .i64 n.s,.int .i64 n.u,.bool n.d,.slice na nl nc] 76))):=aF _ _ _;rename_i K0 hK0;refine aT av rfl rfl av ?_;refine' aw.aq _ rfl ?_ ?_;rotate_left 1
 ·exact lE
 refine' aw.aq _ rfl ?_ ?_;rotate_left 1
 ·refine Obl.plain rfl ?_;intro ac wg K hsz hW hf hK;clear hsz;have e5:=hf 5 al;simp [ai,List.lookup] at e5;clear hf;have t0 : wg.cell? ⟨w.heap.size + 1,0,none⟩ = some (.slice d.a1 d.l1 d.c1):=ah ((hW.block _ (aa GT.out)).trans GT.out) 0;have t1 : wg.cell? ⟨w.heap.size + 1,1,none⟩ = some (.slice d.a2 d.l2 d.c2):=ah ((hW.block _ (aa GT.out)).trans GT.out) 1;have t2 : wg.cell? ⟨w.heap.size + 1,2,none⟩ = some (.slice d.a3 d.l3 d.c3):=ah ((hW.block _ (aa GT.out)).trans GT.out) 2;have t3 : wg.cell? ⟨w.heap.size + 1,3,none⟩ = some (.slice d.a4 d.l4 d.c4):=ah ((hW.block _ (aa GT.out)).trans GT.out) 3;have t4 : wg.cell? ⟨w.heap.size + 1,4,none⟩ = some (.slice d.a5 d.l5 d.c5):=ah ((hW.block _ (aa GT.out)).trans GT.out) 4;have t5 : wg.cell? ⟨w.heap.size + 1,5,none⟩ = some (.int .i64 c.now):=ah ((hW.block _ (aa GT.out)).trans GT.out) 5;exact aaJ
 refine' aw.aq _ rfl ?_ ?_;rotate_left 1
 ·exact lE
 refine' aw.aq _ rfl ?_ ?_;rotate_left 1
 ·exact aad
 refine' aw.aq _ rfl ?_ ?_;rotate_left 1
 ·refine Obl.plain rfl ?_;intro ac wg K hsz hW hf hK;clear hsz;have e8:=hf 8 al;simp [ai,List.lookup] at e8;clear hf;have t12 : wg.cell? ⟨w.heap.size + 1,12,none⟩ = some (.string n.n):=ah ((hW.block _ (aa GT.out)).trans GT.out) 12;exact aaJ
 refine aw.step (SlF (dm c n.n c.vs).length) rfl (SlF.mono _) ?_ ?_
 ·refine Obl.plain rfl ?_;intro ac wg K hsz hW hf hK;clear hsz;have e6:=hf 6 al;simp [ai,List.lookup] at e6;have e9:=hf 9 al;simp [ai,List.lookup] at e9;clear hf;go_simp;refine (yp d c n.n wg (HR.out.below (HV.out.trans (hW.mono HV.out.size))) h8).mono ?_;rintro e w1 ⟨a,l,p,rfl,ho,hb⟩;exact hK _ _ hb ⟨a,p,by rw [ho.row.1]⟩
 refine' aw.aq _ rfl ?_ ?_;rotate_left 1
 ·refine Obl.plain rfl ?_;intro ac wg K hsz hW hf hK;clear hsz;have e10:=hf 10 al;simp [ai,List.lookup] at e10;obtain ⟨a,p,e10⟩:=e10;clear hf;exact aO
 refine' aw.aq _ rfl ?_ ?_;rotate_left 1
 ·exact lE
 refine' aw.aq _ rfl ?_ ?_;rotate_left 1
 ·refine Obl.plain rfl ?_;intro ac wg K hsz hW hf hK;clear hsz;have e12:=hf 12 al;simp [ai,List.lookup] at e12;clear hf;exact aO
 refine' aw.aq _ rfl ?_ ?_;rotate_left 1
 ·refine Obl.plain rfl ?_;intro ac wg K hsz hW hf hK;clear hsz;have e13:=hf 13 al;simp [ai,List.lookup] at e13;clear hf;have t15 : wg.cell? ⟨w.heap.size + 1,15,none⟩ = some (.int .i64 n.s):=ah ((hW.block _ (aa GT.out)).trans GT.out) 15;exact aaJ
 refine' aw.aq _ rfl ?_ ?_;rotate_left 1
 ·refine Obl.plain rfl ?_;intro ac wg K hsz hW hf hK;clear hsz;have e11:=hf 11 al;simp [ai,List.lookup] at e11;have e14:=hf 14 al;simp [ai,List.lookup] at e14;clear hf;exact aO
 refine aw.done ?_;intro q wz hW hf;simp only [List.forall_mem_cons] at hf;obtain ⟨h15,h14,h13,h12,h11,⟨a,p9,h10⟩,h9,h8x,h7,h6,h5,-⟩:=hf;intro K hK;rw [if_pos bH];simp only [aE,List.foldr,Act.put,List.setIfInBounds_toArray,List.set_cons_zero,List.set_cons_succ,h15,h14,h13,h12,h11,h10,h9,h8x,h7,h6,h5];simp only [List.getLast];go_simp;refine hK _ _ ?_;refine hK0 _ _ ?_;clear hK hK0 K K0;have HZ:=upB HV hW;go_wp2;go_ret;exact ⟨_,rfl,by simp,HZ.out⟩

end Rc
end Go.Proofs.YtdoldaceehdifaaGreatDoor

namespace Go.Proofs.YtdoldaceehdifaaGreatDoor
open Go.RowKit
namespace Gs

def yO (SR : World → World → Prop) (φ : Fact) : Prop:=φ.bw ∧ ∀ v w w',φ v w → SR w w' → φ v w'
theorem yv (SR : World → World → Prop) (c : Value) : yO SR (fun v _ => v = c):=⟨Fact.bR c,fun _ _ _ h _ => h⟩
def BE (SR : World → World → Prop) (t4 : Tmp) (Ψ : Fact) (P : Program) (ops : Array Oper) (Q : Exit → Act → World → Prop) (W : World) (a0 : Act) (known : List (Tmp × Fact)) (o : Oper) : Prop :=
 ∀ (a : Act) (w : World) (K : Act → World → Prop),a.tmps.size = a0.tmps.size → Below W.heap.size W w → (∀ t ∈ o.looksAt ops,ai a0 known a w t) →
  (∀ v w',SR w w' → Ψ (a.tmps.getD t4 undef) w' → K (a.put o.dst v) w') → if Region.wanted o (yielded ops a.tmps) = true then o.wp P a w K Q else K (a.put o.dst undef) w
def Fin (t4 : Tmp) (Ψ : Fact) (P : Program) (ops : Array Oper) (Q : Exit → Act → World → Prop) (W : World) (a0 : Act) (back : Option Oper) (known : List (Tmp × Fact)) : Prop :=
 ∀ (x : Tmp → Value) (w : World),Below W.heap.size W w → (∀ p ∈ known,p.2 (x p.1) w) → Ψ ((aE a0 known x).tmps.getD t4 undef) w → eH P ops Q back (aE a0 known x) w
def aw (SR : World → World → Prop) (t4 : Tmp) (Ψ : Fact) (P : Program) (ops : Array Oper) (Q : Exit → Act → World → Prop) (W : World) (a0 : Act) (back : Option Oper) : List Oper → List (Tmp × Fact) → Prop
 | [],known => Fin t4 Ψ P ops Q W a0 back known
 | o :: rest,known => ∃ φ : Fact,yO SR φ ∧ (¬ o.dst = none → Obl P ops Q W a0 known o φ) ∧ (o.dst = none → BE SR t4 Ψ P ops Q W a0 known o) ∧ aw SR t4 Ψ P ops Q W a0 back rest (kn o.dst φ known)
section
variable {SR : World → World → Prop} {t4 : Tmp} {Ψ : Fact} {P : Program} {ops : Array Oper} {Q : Exit → Act → World → Prop} {W : World} {a0 : Act} {back : Option Oper}
theorem aw.store {o : Oper} {rest : List Oper} {known : List (Tmp × Fact)} (hd : o.dst = none) (ho : BE SR t4 Ψ P ops Q W a0 known o)
  (h : aw SR t4 Ψ P ops Q W a0 back rest known) : aw SR t4 Ψ P ops Q W a0 back (o :: rest) known:=⟨fun v _ => v = undef,yv SR undef,fun e => absurd hd e,fun _ => ho,(by rw [hd];exact h)⟩
theorem aw.done {known : List (Tmp × Fact)} (h : Fin t4 Ψ P ops Q W a0 back known) : aw SR t4 Ψ P ops Q W a0 back [] known:=h
theorem eo {listed : Array Bool} (hs : listed.size = ops.size) (hlt : ∀ (j : Nat) o,ops[j]? = some o → ∀ e ∈ o.after,Region.binds .any e = true → e.on < j) (hr : Region.ready .any ops listed = []) : ∀ i,i < ops.size → listed.getD i false = true:=by
 intro i;induction i using Nat.strongRecOn with
 | _ i ih =>
  intro hi
  cases hb : listed.getD i false with
  | true => rfl
  | false =>
   have ho : ops[i]? = some ops[i]:=Array.getElem?_eq_getElem hi;have hm : i ∈ Region.ready .any ops listed:=mem_ready.2 ⟨by rw [← bL af];exact hb,_,ho,fun e he hbe => ih e.on (hlt i _ ho e he hbe) (Nat.lt_trans (hlt i _ ho e he hbe) hi)⟩;rw [hr] at hm
   cases hm

structure At (t4 : Tmp) (Ψ : Fact) (front : List Oper) (φs : List Fact) (W : World) (a0 : Act) (listed : Array Bool) (a : Act) (w : World) : Prop where
 old : Go.Proofs.YtdoldaceehdifaaGreatDoor.At front φs W a0 listed a w
 sto : ∀ (i : Nat) (o : Oper),front[i]? = some o → o.dst = none → listed.getD i false = true → Ψ (a.tmps.getD t4 undef) w ∧ ∀ (i' : Nat) (p : Oper),front[i']? = some p → p.dst = some t4 → listed.getD i' false = true

theorem tK {listed : Array Bool} {i j : Nat} (h : listed.getD i false = true) : (listed.setIfInBounds j true).getD i false = true:=by
 by_cases e : j = i
 ·subst e;simp only [Array.getD_eq_getD_getElem?,Array.getElem?_setIfInBounds];split
  ·split
   ·rfl
   ·simp [Array.getD_eq_getD_getElem?] at h;next hx =>
     have : listed[j]? = none:=Array.getElem?_eq_none_iff.2 af;rw [this] at h
     cases h
  ·contradiction
 ·simpa [Array.getD_eq_getD_getElem?,Array.getElem?_setIfInBounds,e] using h
theorem sj {listed : Array Bool} {i j : Nat} (e : ¬ j = i) (h : (listed.setIfInBounds j true).getD i false = true) : listed.getD i false = true:=by
 simpa [Array.getD_eq_getD_getElem?,Array.getElem?_setIfInBounds,e] using h

theorem At.store {front : List Oper} {φs : List Fact} {listed : Array Bool} {a : Act} {w w' : World} {j : Nat} {o : Oper} {v : Value} (hSR : ∀ {a b},SR a b → Below W.heap.size a b) (h : At t4 Ψ front φs W a0 listed a w)
  (hmono : ∀ (i : Nat) (o : Oper) (φ : Fact),front[i]? = some o → φs[i]? = some φ → yO SR φ) (hone : ∀ (i : Nat) (p : Oper),front[i]? = some p → p.dst = some t4 → listed.getD i false = true)
  (ho : front[j]? = some o) (hd : o.dst = none) (hb : SR w w') (hv : Ψ (a.tmps.getD t4 undef) w') : At t4 Ψ front φs W a0 (listed.setIfInBounds j true) (a.put o.dst v) w':=by
 have e : a.put o.dst v = a:=by rw [hd];rfl
 rw [e];have hne : ∀ (i : Nat) (p : Oper) t,front[i]? = some p → p.dst = some t → ¬ j = i:=fun i p t hp ht e => by
  subst e;obtain rfl:=Option.some.inj (ho.symm.trans hp);rw [hd] at ht;cases ht
 refine ⟨⟨h.old.size,h.old.defers,h.old.below.trans (hSR hb),fun i p ψ hp hψ t ht hl => ?_,fun t ht => ?_⟩,fun i p hp hpd hl => ⟨hv,fun i' p' hp' hd' => tK (hone i' p' hp' hd')⟩⟩
 ·exact (hmono i p ψ hp hψ).2 _ _ _ (h.old.known i p ψ hp hψ t ht (sj (hne i p t hp ht) hl)) hb
 ·refine h.old.other t (fun i p hp hpd => ?_);have h1:=ht i p hp hpd;have e9:=hne i p t hp hpd;simpa [Array.getD_eq_getD_getElem?,Array.getElem?_setIfInBounds,e9] using h1

end
structure Form (W w w' : World) : Prop where
 low : Below W.heap.size w w'
 form : ∀ (k : Nat) (cs : Array Value) (T : TypeId),w.heap[k]? = some (.cells cs T (0,0)) → ∃ cs',cs'.size = cs.size ∧ w'.heap[k]? = some (.cells cs' T (0,0))
end Gs
namespace Gt

def growB (n : Nat) (front : List Oper) (back : Option Oper) : Bool :=
 let ops:=(front ++ back.toList).toArray
 decide ((front.filterMap (·.dst)).Nodup) && front.all (fun o => match o.dst with | some t => decide (t < n) | none => true) &&
 (List.range front.length).all (fun j => match front[j]? with
  | some o => (o.looksAt ops).all (fun t => (List.range front.length).all fun i => match front[i]? with
    | some p => p.dst != some t || (decide (i < j) && o.after.any fun e => e.on == i && Region.binds .any e)
    | none => true)
  | none => true) &&
 (List.range ops.size).all (fun j => match ops[j]? with | some o => o.after.all (fun e => decide (e.on < j)) | none => true) &&
 (match back with | some o => (List.range front.length).all (fun i => o.after.any fun e => Region.binds .any e && (e.on == i || match front[e.on]? with | some p => p.after.any (fun e' => e'.on == i && Region.binds .any e') | none => false)) | none => true)

section
variable {P : Program} {ops : Array Oper} {Q : Exit → Act → World → Prop} {W : World} {a0 : Act} {back : Option Oper}
theorem ct {n : Nat} {front : List Oper} {back : Option Oper} (h : growB n front back = true) :
  (front.filterMap (·.dst)).Nodup ∧ (∀ o ∈ front,∀ t,o.dst = some t → t < n) ∧
  (∀ (j : Nat) (o : Oper),front[j]? = some o → ∀ t ∈ o.looksAt (front ++ back.toList).toArray,∀ (i : Nat) (p : Oper),front[i]? = some p → p.dst = some t → i < j ∧ ∃ e ∈ o.after,e.on = i ∧ Region.binds .any e = true) ∧
  (∀ (j : Nat) o,(front ++ back.toList).toArray[j]? = some o → ∀ e ∈ o.after,e.on < j) ∧
  (∀ o,back = some o → ∀ i,i < front.length → ∃ e ∈ o.after,Region.binds .any e = true ∧ (e.on = i ∨ ∃ p,front[e.on]? = some p ∧ ∃ e' ∈ p.after,e'.on = i ∧ Region.binds .any e' = true)):=by
 unfold growB at h;simp only [Bool.and_eq_true,decide_eq_true_eq] at h;obtain ⟨⟨⟨⟨h1,h2⟩,h3⟩,h4⟩,h5⟩:=h;refine ⟨h1,?_,?_,?_,?_⟩
 ·intro o ho t ht;have:=List.all_eq_true.1 h2 o ho;rw [ht] at this;simpa using this
 ·exact Bd
 ·exact xI
 ·intro o ho i hi;subst ho;have:=List.all_eq_true.1 h5 i (List.mem_range.2 hi);obtain ⟨k,hk,hx⟩:=Array.any_eq_true.1 this;simp only [Bool.and_eq_true,Bool.or_eq_true,beq_iff_eq] at hx;refine ⟨_,Array.getElem_mem hk,hx.1,hx.2.imp id fun h9 => ?_⟩;split at h9
  ·next p hp =>
   obtain ⟨k',hk',hx'⟩:=Array.any_eq_true.1 h9;simp only [Bool.and_eq_true,beq_iff_eq] at hx';exact ⟨p,hp,_,Array.getElem_mem hk',hx'.1,hx'.2⟩
  ·cases h9

structure Ac (front : List Oper) (φs : List Fact) (W : World) (a0 : Act) (listed : Array Bool) (a : Act) (w : World) : Prop where
 old : At front φs W a0 listed a w
 cl : ∀ (j : Nat) (o : Oper),front[j]? = some o → listed.getD j false = true → ∀ e ∈ o.after,Region.binds .any e = true → listed.getD e.on false = true
theorem bZ {front : List Oper} {φs : List Fact} (hops : ops = (front ++ back.toList).toArray) (hB : growB a0.tmps.size front back = true) (hlen : φs.length = front.length)
  (hs : ∀ (i : Nat) (o : Oper) (φ : Fact),front[i]? = some o → φs[i]? = some φ → φ.bw ∧ Obl P ops Q W a0 (knAll [] (front.take i) (φs.take i)) o φ) (hf : Fin P ops Q W a0 back (knAll [] front φs)) :
  ∀ (fuel : Nat) (listed : Array Bool) (a : Act) (w : World),listed.size = ops.size → listed.toList.count false ≤ fuel → (∀ o,back = some o → listed.getD front.length false = false) → Ac front φs W a0 listed a w → wpAny P .any ops Q fuel listed a w:=by
 obtain ⟨hn,hin,hdep,hlt,hback⟩:=ct hB;rw [← hops] at hdep hlt;have hsz : ops.size = front.length + back.toList.length:=by rw [hops];simp
 have hend : ∀ (listed : Array Bool) (a : Act) (w : World),listed.size = ops.size → (∀ i,i < ops.size → listed.getD i false = true) → (∀ o,back = some o → listed.getD front.length false = false) → Ac front φs W a0 listed a w → Q .normal a w:=by
  intro listed a w hz hall hb h;have h1:=Fin.last hf hlen hin h.old (fun i hi => hall i af);exact pZ
 intro fuel;induction fuel with
 | zero =>
  intro listed a w hz hc hb h;have hall : ∀ i,i < ops.size → listed.getD i false = true:=fun i hi => di af i af;refine ⟨?_,hend listed a w hz hall hb h⟩
  cases hr : Region.ready .any ops listed with
  | nil => rfl
  | cons j js =>
   have hm : j ∈ Region.ready .any ops listed:=by rw [hr];simp
   obtain ⟨h1,o,ho,-⟩:=mem_ready.1 hm;have hj:=(Array.getElem?_eq_some_iff.1 ho).1;rw [← bL af,hall j hj] at h1
   cases h1
 | succ fuel ih =>
  intro listed a w hz hc hb h;refine ⟨fun hr => hend listed a w hz (eo hz hlt hr) hb h,fun j hj => ?_⟩;obtain ⟨hun,o,ho,hall⟩:=mem_ready.1 hj;have hjs : j < ops.size:=(Array.getElem?_eq_some_iff.1 ho).1;have hcs:=count_set (listed:=listed) (i:=j) af hun
  by_cases hjf : j < front.length
  ·have hof : front[j]? = some o:=by rw [hops] at ho;simpa [List.getElem?_append_left hjf] using ho
   have hφ : φs[j]? = some (φs[j]'(by omega)):=List.getElem?_eq_getElem _;obtain ⟨hm,hob⟩:=hs j o _ hof hφ
   have hfacts : ∀ t ∈ o.looksAt ops,ai a0 (knAll [] (front.take j) (φs.take j)) a w t:=by
    intro t ht;unfold ai
    cases hk : (knAll [] (front.take j) (φs.take j)).lookup t with
    | some φ =>
     rcases bW _ _ _ hk with ⟨i,p,h1,h2,h3⟩ | h1
     ·have hij : i < j:=by have:=(List.getElem?_eq_some_iff.1 h1).1;simp at this;omega
      rw [List.getElem?_take,if_pos hij] at h1 h3;obtain ⟨-,e,he,hon,hbi⟩:=hdep j o hof t ht i p h1 h2;have hl:=hall e he hbi;rw [hon] at hl;exact h.old.known i p φ h1 h3 t h2 hl
     ·simp at h1
    | none =>
     refine h.old.other t (fun i p hp hd => ?_)
     exfalso
     obtain ⟨hij,-⟩:=hdep j o hof t ht i p hp hd;have hi:=(List.getElem?_eq_some_iff.1 hp).1;exact (bY _ _ _ hk).2 i p (φs[i]'(by omega)) mQ mU hd
   have h1:=hob a w (wpAny P .any ops Q fuel (listed.setIfInBounds j true)) h.old.size h.old.below hfacts (fun v w' hbw hv => by
    refine ih _ _ _ g8 af (fun o' ho' => ?_) ⟨h.old.step hn hin (fun i o φ h1 h2 => (hs i o φ h1 h2).1) hof hφ af hbw hv,fun j' o' ho' hl e he hbe => (by
     by_cases ej : j = j'
     ·subst ej;obtain rfl : o = o':=Option.some.inj (hof.symm.trans ho');exact Gs.tK (hall e he hbe)
     ·exact Gs.tK (h.cl j' o' ho' (Gs.sj ej hl) e he hbe))⟩
    have h2:=hb o' ho'
    have e : ¬ j = front.length:=aaa
    simpa [Array.getD_eq_getD_getElem?,Array.getElem?_setIfInBounds,e] using h2)
   unfold wpOp;rw [ho]
   simp only
   split
   ·rename_i hw;rw [if_pos hw] at h1;exact .inl h1
   ·rename_i hw;rw [if_neg hw] at h1;exact h1
  ·cases hk : back with
   | none => rw [hk] at hsz;simp at hsz;omega
   | some b =>
    have hjn : j = front.length:=by rw [hk] at hsz;simp at hsz;omega
    subst hjn
    have hob : o = b:=by
     rw [hops,hk] at ho
     simp at ho
     exact ho.symm
    subst hob
    have hfl : ∀ i,i < front.length → listed.getD i false = true:=fun i hi => by
     obtain ⟨e,he,hbi,hon⟩:=hback o hk i hi;have hl:=hall e he hbi
     rcases hon with hon | ⟨p,hp,e',he',hon,hbi'⟩
     ·rwa [hon] at hl
     ·have:=h.cl e.on p hp hl e' he' hbi'
      rwa [hon] at this
    have h1:=Fin.last hf hlen hin h.old hfl;rw [hk] at h1
    have h2:=h1 (wpAny P .any ops Q fuel (listed.setIfInBounds front.length true)) (fun a' w' hq => by
     have hr : Region.ready .any ops (listed.setIfInBounds front.length true) = []:=by
      cases hr : Region.ready .any ops (listed.setIfInBounds front.length true) with
      | nil => rfl
      | cons i is =>
       have hm : i ∈ Region.ready .any ops (listed.setIfInBounds front.length true):=by rw [hr];simp
       obtain ⟨h3,o',ho',-⟩:=mem_ready.1 hm;have hi:=(Array.getElem?_eq_some_iff.1 ho').1
       exfalso
       by_cases e : front.length = i
       ·subst e
        simp [Array.getD_eq_getD_getElem?,show front.length < listed.size from by omega] at h3
       ·have h4:=hfl i (by rw [hk] at hsz;simp at hsz;omega);rw [bL af] at h4
        simp [Array.getD_eq_getD_getElem?,e] at h3 h4
        rw [h3] at h4
        cases h4
     cases fuel with
     | zero => exact ⟨hr,hq⟩
     | succ fuel => exact ⟨fun _ => hq,fun i hi => by rw [hr] at hi;cases hi⟩)
    unfold wpOp;rw [ho]
    simp only
    split
    ·rename_i hw;rw [if_pos hw] at h2;exact .inl h2
    ·rename_i hw;rw [if_neg hw] at h2;exact h2
end
theorem aT {P : Program} {id : Nat} {Q : Exit → Act → World → Prop} {a0 : Act} {W : World} {l : List Oper} {front : List Oper} {last : Oper} (hm : P.follows .mixedOrders = true) (hf : l.dropLast = front) (hb : l.getLast? = some last) (hB : growB a0.tmps.size front (some last) = true)
  (h : aw P l.toArray Q W a0 (some last) front []) : (Code.region id l.toArray true).wp P Q a0 W:=by
 obtain ⟨φs,hlen,hs,hfi⟩:=aw.spec _ _ h;have hl : l = front ++ (some last).toList:=by
  exact pG
 refine wp_region_any hm (bZ (by rw [hl]) hB hlen hs hfi _ _ _ _ aN ?_ (fun o ho => ?_) ⟨⟨rfl,rfl,(Below.refl _ _).drew,fun i o φ h1 h2 t ht hx => ?_,fun t _ => rfl⟩,fun j o h1 hx => ?_⟩)
 ·exact np
 ·exact a_ _ _
 ·rw [a_] at hx;cases hx
 ·rw [a_] at hx;cases hx
end Gt
namespace Gu

def waits (front : List Oper) (i : Nat) : Nat → Array Edge → Bool
 | 0,after => after.any fun e => Region.binds .any e && e.on == i
 | f + 1,after => after.any fun e => Region.binds .any e && (e.on == i || match front[e.on]? with | some p => waits front i f p.after | none => false)
theorem iG {front : List Oper} {i : Nat} {listed : Array Bool} (hc : ∀ (j : Nat) (o : Oper),front[j]? = some o → listed.getD j false = true → ∀ e ∈ o.after,Region.binds .any e = true → listed.getD e.on false = true) : ∀ (f : Nat) (after : Array Edge),waits front i f after = true → (∀ e ∈ after,Region.binds .any e = true → listed.getD e.on false = true) → listed.getD i false = true
 | 0,after,h,ha => by
  obtain ⟨k,hk,hx⟩:=Array.any_eq_true.1 h;simp only [Bool.and_eq_true,beq_iff_eq] at hx;have:=ha _ (Array.getElem_mem hk) hx.1
  rwa [hx.2] at this
 | f + 1,after,h,ha => by
  obtain ⟨k,hk,hx⟩:=Array.any_eq_true.1 h;simp only [Bool.and_eq_true,Bool.or_eq_true,beq_iff_eq] at hx;have h1:=ha _ (Array.getElem_mem hk) hx.1
  rcases hx.2 with h2 | h2
  ·rwa [h2] at h1
  ·split at h2
   ·next p hp => exact iG hc f p.after h2 (fun e he hb => hc _ p hp h1 e he hb)
   ·cases h2
def rH (P : Program) (ops : Array Oper) (Q : Exit → Act → World → Prop) (s t : Oper) (a : Act) (w : World) : Prop :=
 ∀ K : Act → World → Prop,(∀ a' w',(∀ K' : Act → World → Prop,(∀ a w,Q .normal a w → K' a w) → if Region.wanted t (yielded ops a'.tmps) = true then t.wp P a' w' K' Q else K' (a'.put t.dst undef) w') → K a' w') → if Region.wanted s (yielded ops a.tmps) = true then s.wp P a w K Q else K (a.put s.dst undef) w
def Fin (P : Program) (ops : Array Oper) (Q : Exit → Act → World → Prop) (W : World) (a0 : Act) (s t : Oper) (known : List (Tmp × Fact)) : Prop :=
 ∀ (x : Tmp → Value) (w : World),Below W.heap.size W w → (∀ p ∈ known,p.2 (x p.1) w) → rH P ops Q s t (aE a0 known x) w
def aw (P : Program) (ops : Array Oper) (Q : Exit → Act → World → Prop) (W : World) (a0 : Act) (s t : Oper) : List Oper → List (Tmp × Fact) → Prop
 | [],known => Fin P ops Q W a0 s t known
 | o :: rest,known => ∃ φ : Fact,φ.bw ∧ Obl P ops Q W a0 known o φ ∧ aw P ops Q W a0 s t rest (kn o.dst φ known)
section
variable {P : Program} {ops : Array Oper} {Q : Exit → Act → World → Prop} {W : World} {a0 : Act} {s t : Oper}
theorem aw.step {o : Oper} {rest : List Oper} {known : List (Tmp × Fact)} {d : Tmp} (φ : Fact) (hd : o.dst = some d) (hφ : φ.bw) (ho : Obl P ops Q W a0 known o φ)
  (h : aw P ops Q W a0 s t rest ((d,φ) :: known)) : aw P ops Q W a0 s t (o :: rest) known:=⟨φ,hφ,ho,(by rw [hd];exact h)⟩
theorem aw.aq {o : Oper} {rest : List Oper} {known : List (Tmp × Fact)} {d : Tmp} (c : Value) (hd : o.dst = some d) (ho : Obl P ops Q W a0 known o (fun v _ => v = c))
  (h : aw P ops Q W a0 s t rest ((d,fun v _ => v = c) :: known)) : aw P ops Q W a0 s t (o :: rest) known:=aw.step _ hd (Fact.bR c) ho h
theorem aw.done {known : List (Tmp × Fact)} (h : Fin P ops Q W a0 s t known) : aw P ops Q W a0 s t [] known:=h
theorem aw.spec : ∀ (l : List Oper) (known : List (Tmp × Fact)),aw P ops Q W a0 s t l known → ∃ φs : List Fact,φs.length = l.length ∧
  (∀ (i : Nat) (o : Oper) (φ : Fact),l[i]? = some o → φs[i]? = some φ → φ.bw ∧ Obl P ops Q W a0 (knAll known (l.take i) (φs.take i)) o φ) ∧ Fin P ops Q W a0 s t (knAll known l φs)
 | [],known,h => ⟨[],rfl,fun i o φ h => by simp at h,by rw [bT];exact h⟩
 | o :: l,known,h => by
  exact uO
def growB (n : Nat) (front : List Oper) (s t : Oper) : Bool :=
 let ops:=(front ++ [s,t]).toArray
 decide ((front.filterMap (·.dst)).Nodup) && front.all (fun o => match o.dst with | some d => decide (d < n) | none => true) &&
 (List.range front.length).all (fun j => match front[j]? with
  | some o => (o.looksAt ops).all (fun d => (List.range front.length).all fun i => match front[i]? with
    | some p => p.dst != some d || (decide (i < j) && o.after.any fun e => e.on == i && Region.binds .any e)
    | none => true)
  | none => true) &&
 (List.range ops.size).all (fun j => match ops[j]? with | some o => o.after.all (fun e => !Region.binds .any e || decide (e.on < j)) | none => true) &&
 (List.range front.length).all (fun i => waits front i 12 s.after) && t.after.any (fun e => Region.binds .any e && e.on == front.length)
theorem ct {n : Nat} {front : List Oper} (h : growB n front s t = true) :
  (front.filterMap (·.dst)).Nodup ∧ (∀ o ∈ front,∀ d,o.dst = some d → d < n) ∧
  (∀ (j : Nat) (o : Oper),front[j]? = some o → ∀ d ∈ o.looksAt (front ++ [s,t]).toArray,∀ (i : Nat) (p : Oper),front[i]? = some p → p.dst = some d → i < j ∧ ∃ e ∈ o.after,e.on = i ∧ Region.binds .any e = true) ∧
  (∀ (j : Nat) o,(front ++ [s,t]).toArray[j]? = some o → ∀ e ∈ o.after,Region.binds .any e = true → e.on < j) ∧
  (∀ i,i < front.length → waits front i 12 s.after = true) ∧ ∃ e ∈ t.after,Region.binds .any e = true ∧ e.on = front.length:=by
 unfold growB at h;simp only [Bool.and_eq_true,decide_eq_true_eq] at h;obtain ⟨⟨⟨⟨⟨h1,h2⟩,h3⟩,h4⟩,h5⟩,h6⟩:=h;refine ⟨h1,?_,?_,?_,?_,?_⟩
 ·intro o ho d hd;have:=List.all_eq_true.1 h2 o ho;rw [hd] at this;simpa using this
 ·exact acG
 ·exact aca
 ·intro i hi;exact List.all_eq_true.1 h5 i (List.mem_range.2 hi)
 ·obtain ⟨k,hk,hx⟩:=Array.any_eq_true.1 h6;exact lI
theorem Fin.last {front : List Oper} {φs : List Fact} {listed : Array Bool} {a : Act} {w : World} (hf : Fin P ops Q W a0 s t (knAll [] front φs)) (hlen : φs.length = front.length) (hin : ∀ o ∈ front,∀ d,o.dst = some d → d < a0.tmps.size)
  (h : At front φs W a0 listed a w) (hall : ∀ i,i < front.length → listed.getD i false = true) : rH P ops Q s t a w:=by
 exact acv
theorem oN {fuel : Nat} {listed : Array Bool} {a : Act} {w : World} {j : Nat} {o : Oper} (ho : ops[j]? = some o) (h1 : if Region.wanted o (yielded ops a.tmps) = true then o.wp P a w (wpAny P .any ops Q fuel (listed.setIfInBounds j true)) Q else wpAny P .any ops Q fuel (listed.setIfInBounds j true) (a.put o.dst undef) w) : wpOp P ops Q j (wpAny P .any ops Q fuel (listed.setIfInBounds j true)) a w:=by
 unfold wpOp;rw [ho];simp only;split
 ·rename_i hw;rw [if_pos hw] at h1;exact .inl h1
 ·rename_i hw;rw [if_neg hw] at h1;exact h1
theorem qh {listed : Array Bool} (hz : listed.size = ops.size) (hall : ∀ i,i < ops.size → listed.getD i false = true) : Region.ready .any ops listed = []:=by
 cases hr : Region.ready .any ops listed with
 | nil => rfl
 | cons j js =>
  have hm : j ∈ Region.ready .any ops listed:=by rw [hr];simp
  obtain ⟨h1,o,ho,-⟩:=mem_ready.1 hm;have hj:=(Array.getElem?_eq_some_iff.1 ho).1;rw [← bL af,hall j hj] at h1
  cases h1
theorem zO {fuel : Nat} {listed : Array Bool} {a : Act} {w : World} (hz : listed.size = ops.size) (hall : ∀ i,i < ops.size → listed.getD i false = true) (hq : Q .normal a w) : wpAny P .any ops Q fuel listed a w:=by
 have hr:=qh hz hall;cases fuel with
 | zero => exact ⟨hr,hq⟩
 | succ fuel => exact ⟨fun _ => hq,fun i hi => by rw [hr] at hi;cases hi⟩
theorem bZ {front : List Oper} {φs : List Fact} (hops : ops = (front ++ [s,t]).toArray) (hB : growB a0.tmps.size front s t = true) (hlen : φs.length = front.length)
  (hs : ∀ (i : Nat) (o : Oper) (φ : Fact),front[i]? = some o → φs[i]? = some φ → φ.bw ∧ Obl P ops Q W a0 (knAll [] (front.take i) (φs.take i)) o φ) (hf : Fin P ops Q W a0 s t (knAll [] front φs)) :
  ∀ (fuel : Nat) (listed : Array Bool) (a : Act) (w : World),listed.size = ops.size → listed.toList.count false ≤ fuel → listed.getD front.length false = false → listed.getD (front.length + 1) false = false → Gt.Ac front φs W a0 listed a w → wpAny P .any ops Q fuel listed a w:=by
 obtain ⟨hn,hin,hdep,hlt,hwait,e2,he2,hb2,hon2⟩:=ct hB;rw [← hops] at hdep hlt;have hsz : ops.size = front.length + 2:=by rw [hops];simp
 have hos : ops[front.length]? = some s:=by rw [hops];simp
 have hot : ops[front.length + 1]? = some t:=by rw [hops];simp
 intro fuel;induction fuel with
 | zero =>
  intro listed a w hz hc hb hb' h;have h9:=di (by omega : listed.toList.count false = 0) front.length af;rw [hb] at h9
  cases h9
 | succ fuel ih =>
  intro listed a w hz hc hb hb' h;refine ⟨fun hr => ?_,fun j hj => ?_⟩
  ·have h9:=Gs.eo hz hlt hr front.length af;rw [hb] at h9
   cases h9
  obtain ⟨hun,o,ho,hall⟩:=mem_ready.1 hj;have hjs : j < ops.size:=(Array.getElem?_eq_some_iff.1 ho).1;have hcs:=count_set (listed:=listed) (i:=j) af hun
  by_cases hjf : j < front.length
  ·have hof : front[j]? = some o:=by rw [hops] at ho;simpa [List.getElem?_append_left hjf] using ho
   have hφ : φs[j]? = some (φs[j]'(by omega)):=List.getElem?_eq_getElem _;obtain ⟨hm,hob⟩:=hs j o _ hof hφ
   have hfacts : ∀ t ∈ o.looksAt ops,ai a0 (knAll [] (front.take j) (φs.take j)) a w t:=by
    intro t ht;unfold ai
    cases hk : (knAll [] (front.take j) (φs.take j)).lookup t with
    | some φ =>
     rcases bW _ _ _ hk with ⟨i,p,h1,h2,h3⟩ | h1
     ·have hij : i < j:=by have:=(List.getElem?_eq_some_iff.1 h1).1;simp at this;omega
      rw [List.getElem?_take,if_pos hij] at h1 h3;obtain ⟨-,e,he,hon,hbi⟩:=hdep j o hof t ht i p h1 h2;have hl:=hall e he hbi;rw [hon] at hl;exact h.old.known i p φ h1 h3 t h2 hl
     ·simp at h1
    | none =>
     refine h.old.other t (fun i p hp hd => ?_)
     exfalso
     obtain ⟨hij,-⟩:=hdep j o hof t ht i p hp hd;have hi:=(List.getElem?_eq_some_iff.1 hp).1;exact (bY _ _ _ hk).2 i p (φs[i]'(by omega)) mQ mU hd
   have hkeep : ∀ i,¬ j = i → listed.getD i false = false → (listed.setIfInBounds j true).getD i false = false:=fun i e h2 => by
    simpa [Array.getD_eq_getD_getElem?,Array.getElem?_setIfInBounds,e] using h2
   exact oN ho (hob a w _ h.old.size h.old.below hfacts (fun v w' hbw hv => ih _ _ _ g8 af (hkeep _ af hb) (hkeep _ af hb') ⟨h.old.step hn hin (fun i o φ h1 h2 => (hs i o φ h1 h2).1) hof hφ af hbw hv,fun j' o' ho' hl e he hbe => (by
     by_cases ej : j = j'
     ·subst ej;obtain rfl : o = o':=Option.some.inj (hof.symm.trans ho');exact Gs.tK (hall e he hbe)
     ·exact Gs.tK (h.cl j' o' ho' (Gs.sj ej hl) e he hbe))⟩))
  ·by_cases hj1 : j = front.length
   ·subst hj1;obtain rfl : s = o:=Option.some.inj (hos.symm.trans ho);have hfl : ∀ i,i < front.length → listed.getD i false = true:=fun i hi => iG h.cl 12 s.after (hwait i hi) (fun e he hbe => hall e he hbe);refine oN ho (Fin.last hf hlen hin h.old hfl _ (fun a' w' ht => ?_))
    have hz2 : (listed.setIfInBounds front.length true).size = ops.size:=by simpa using hz
    have hl2 : ∀ i,i < front.length + 1 → (listed.setIfInBounds front.length true).getD i false = true:=fun i hi => by
     by_cases e : front.length = i
     ·subst e
      simp [Array.getD_eq_getD_getElem?,show front.length < listed.size from by omega]
     ·exact Gs.tK (hfl i af)
    have hu2 : (listed.setIfInBounds front.length true).getD (front.length + 1) false = false:=by
     have e : ¬ front.length = front.length + 1:=aaa
     simpa [Array.getD_eq_getD_getElem?,Array.getElem?_setIfInBounds,e] using hb'
    cases fuel with
    | zero =>
     have h9:=di (by omega : (listed.setIfInBounds front.length true).toList.count false = 0) (front.length + 1) af;rw [hu2] at h9
     cases h9
    | succ fuel =>
     refine ⟨fun hr => ?_,fun i hi => ?_⟩
     ·have h9:=Gs.eo hz2 hlt hr (front.length + 1) af;rw [hu2] at h9
      cases h9
     ·obtain ⟨hun2,o2,ho2,-⟩:=mem_ready.1 hi;have his : i < ops.size:=(Array.getElem?_eq_some_iff.1 ho2).1
      have hie : i = front.length + 1:=Classical.byContradiction fun e => by
       have h9:=hl2 i af;rw [bL af] at h9;rw [h9] at hun2
       cases hun2
      subst hie;obtain rfl : t = o2:=Option.some.inj (hot.symm.trans ho2);refine oN ho2 (ht _ (fun a3 w3 hq => zO (by simpa using hz2) (fun i hi => ?_) hq))
      by_cases e : front.length + 1 = i
      ·subst e
       simp [Array.getD_eq_getD_getElem?,show front.length + 1 < listed.size from by omega]
      ·exact Gs.tK (hl2 i af)
   ·obtain rfl : j = front.length + 1:=aaa
    obtain rfl : t = o:=Option.some.inj (hot.symm.trans ho);have h9:=hall e2 he2 hb2;rw [hon2,bL af] at h9;rw [bL af] at hb;rw [hb] at h9
    cases h9
end
theorem ot {P : Program} {id : Nat} {Q : Exit → Act → World → Prop} {a0 : Act} {W : World} {l : List Oper} {front : List Oper} {s t : Oper} (hm : P.follows .mixedOrders = true) (hfr : l.dropLast.dropLast = front) (hss : l.dropLast.getLast? = some s) (htt : l.getLast? = some t) (hB : growB a0.tmps.size front s t = true)
  (h : aw P l.toArray Q W a0 s t front []) : (Code.region id l.toArray true).wp P Q a0 W:=by
 have hl : l = front ++ [s,t]:=by
  obtain ⟨l',rfl⟩:=List.getLast?_eq_some_iff.1 htt;rw [List.dropLast_concat] at hfr hss;obtain ⟨l2,rfl⟩:=List.getLast?_eq_some_iff.1 hss;rw [List.dropLast_concat] at hfr;rw [← hfr];simp
 obtain ⟨φs,hlen,hs,hfi⟩:=aw.spec _ _ h;refine wp_region_any hm (bZ (by rw [hl]) hB hlen hs hfi _ _ _ _ aN ?_ ?_ ?_ ⟨⟨rfl,rfl,(Below.refl _ _).drew,fun i o φ h1 h2 d hd hx => ?_,fun d _ => rfl⟩,fun j o h1 hx => ?_⟩)
 ·exact np
 ·exact a_ _ _
 ·exact a_ _ _
 ·rw [a_] at hx;cases hx
 ·rw [a_] at hx;cases hx
end Gu
end Go.Proofs.YtdoldaceehdifaaGreatDoor

namespace Go.Proofs.YtdoldaceehdifaaGreatDoor
open Go.RowKit
namespace Rc

theorem bG : (Tryz.prog.info? 76).map (·.size) = some 19:=by kernel_rfl
def HOf (w : World) (T : TypeId) (v tri : Value) (P : Prop) : Prop:=∃ f : FuncId,(∀ W,(Go.method 406 T v "loop.example/g00571/impl.keeps").run Tryz.prog W = .ok (f,v) W) ∧ (∀ args W,(callFunc f args).run Tryz.prog W = .ok (.enter f args) W) ∧ ∀ W,Below w.heap.size w W → Calls Tryz.prog f #[v,tri] W fun e W' => ∃ b : Bool,e = .returned (.bool b) ∧ (b = true ↔ P) ∧ Below W.heap.size W W'

theorem iC (x0 x1 x2 x3 x4 x5 x6 x7 x8 x9 x10 x11 x12 x13 x14 x15 x16 x17 x18 : Value) (b len cap : Nat) (hs : List (TypeId × Value × Prop)) (w : World) (hl : hs.length = len) (hm : len ≤ 3) (hb : b < w.heap.size)
  (hc : ∀ (j : Nat) T v P,hs[j]? = some (T,v,P) → w.cell? ⟨b,j,none⟩ = some (.iface T v) ∧ HOf w T v (.agg #[x0,x1,x2,x3,x4,x5,x6,x7,x8,x9,x10,x11,x12,x13,x14,x15,x16,x17,x18]) P) :
  Calls Tryz.prog 77 #[.agg #[x0,x1,x2,x3,x4,x5,x6,x7,x8,x9,x10,x11,x12,x13,x14,x15,x16,x17,x18],.slice (some ⟨b,0,none⟩) len cap] w fun e w' => (∃ r,e = .returned r ∧ ((∃ (k : Nat) (T : TypeId) (v : Value) (P : Prop),hs[k]? = some (T,v,P) ∧ P ∧ r = .iface T v ∧ ∀ (j : Nat) T' v' P',j < k → hs[j]? = some (T',v',P') → ¬ P') ∨ (r = .nilIface ∧ ∀ (j : Nat) T' v' P',hs[j]? = some (T',v',P') → ¬ P'))) ∧ Below w.heap.size w w':=by
 have HC:=ae hc;clear hc;go_enter Tryz.func77,Tryz.ntmps77;go_wp2;go_loopw [9] (fun i wr => ∃ k : Nat,k ≤ len ∧ i = .int .i64 k ∧ Hid (∀ (j : Nat) T' v' P',j < k → hs[j]? = some (T',v',P') → ¬ P') ∧ Hid (Below w.heap.size w wr) ∧ Hid (wr.heap[w.heap.size]? = some (.cells #[x0,x1,x2,x3,x4,x5,x6,x7,x8,x9,x10,x11,x12,x13,x14,x15,x16,x17,x18] 76 (0,0)))) (fun i _ => len - (intOf i).toNat);case atStart => exact ⟨0,by omega,rfl,fun _ _ _ _ h => absurd h af,an _ _,Array.getElem?_push_size⟩
 case round =>
  obtain ⟨k,hk,rfl,HE,HB,Bk⟩:=hrel;by_cases hlt : k < len
  ·obtain ⟨T,v,P,hx⟩ : ∃ T v P,hs[k]? = some (T,v,P):=⟨_,_,_,List.getElem?_eq_getElem af⟩;obtain ⟨h1,f,hm1,hm2,hm3⟩:=HC.out k T v P hx;have c0 : wr.cell? ⟨b,k,none⟩ = some (.iface T v):=(HB.out.cell hb).trans h1;have HX:=ae hx;have HM:=ae hm3;have hbr : b < wr.heap.size:=Nat.lt_of_lt_of_le hb HB.out.size;have ltk:=aa Bk.out;clear h1 hx hm3;go_wp2_with (refine wpList_load_row (o:=⟨some 14,.load 76 (.tmp 2),_,_,_,none⟩) rfl _ _ rfl w.heap.size rfl _ _ _ _ Bk.out Tryz.underlying76 rfl bG ?_);refine (HM.out wr HB.out).mono ?_;rintro e w1 ⟨r,rfl,hi,hb1⟩;have HI:=ae hi;have Bk1:=ae ((hb1.block _ ltk).trans Bk.out);have HB1:=upB HB hb1;clear hi hb1 c0 Bk HB;cases r
   ·go_wp2;refine ⟨⟨k + 1,by omega,by go_num,fun j T' v' P' hj hz => ?_,HB1.out,Bk1.out⟩,by simp [intOf];omega⟩;by_cases e : j = k
    ·subst e;rw [HX.out] at hz;cases hz;exact fun q => (by have:=HI.out.2 q;cases this)
    ·exact HE.out j T' v' P' af hz
   ·go_wp2;go_ret;exact ⟨⟨_,rfl,.inl ⟨k,T,v,P,HX.out,HI.out.1 bS,rfl,HE.out⟩⟩,HB1.out⟩
  ·obtain rfl : len = k:=aaa
   go_wp2;go_ret;exact ⟨⟨_,rfl,.inr ⟨rfl,fun j T' v' P' hz => HE.out j T' v' P' cG hz⟩⟩,HB.out⟩

end Rc
end Go.Proofs.YtdoldaceehdifaaGreatDoor

namespace Go.Proofs.YtdoldaceehdifaaGreatDoor
open Go.RowKit
namespace Rc
open Mk

theorem Cb (v : Value) (W : World) : (Go.method 406 131 v "loop.example/g00571/impl.keeps").run Tryz.prog W = .ok (245,v) W:=by kernel_rfl
theorem CE (args : Array Value) (W : World) : (callFunc 245 args).run Tryz.prog W = .ok (.enter 245 args) W:=by kernel_rfl
theorem zJ (d : Ad) (c : Cl) (p : Pd) (n : Nd) (pa : Option Addr) (pl pc : Nat) (na : Option Addr) (nl nc : Nat) (w : World) : HOf w 131 (.agg #[]) (.agg #[.slice d.a1 d.l1 d.c1,.slice d.a2 d.l2 d.c2,.slice d.a3 d.l3 d.c3,.slice d.a4 d.l4 d.c4,.slice d.a5 d.l5 d.c5,.int .i64 c.now,.string p.n,.int .i64 p.c,.string p.z,.slice pa pl pc,.string p.d,.int .i64 p.p,.string n.n,.string n.z,.int .i64 n.c,.int .i64 n.s,.int .i64 n.u,.bool n.d,.slice na nl nc]) (iu c n) :=
 ⟨245,Cb _,CE,fun W _ => Da d c p n pa pl pc na nl nc W⟩

theorem B9 (v : Value) (W : World) : (Go.method 406 132 v "loop.example/g00571/impl.keeps").run Tryz.prog W = .ok (248,v) W:=by kernel_rfl
theorem CB (args : Array Value) (W : World) : (callFunc 248 args).run Tryz.prog W = .ok (.enter 248 args) W:=by kernel_rfl
theorem zG (d : Ad) (c : Cl) (p : Pd) (n : Nd) (pa : Option Addr) (pl pc : Nat) (na : Option Addr) (nl nc : Nat) (w : World) : HOf w 132 (.agg #[]) (.agg #[.slice d.a1 d.l1 d.c1,.slice d.a2 d.l2 d.c2,.slice d.a3 d.l3 d.c3,.slice d.a4 d.l4 d.c4,.slice d.a5 d.l5 d.c5,.int .i64 c.now,.string p.n,.int .i64 p.c,.string p.z,.slice pa pl pc,.string p.d,.int .i64 p.p,.string n.n,.string n.z,.int .i64 n.c,.int .i64 n.s,.int .i64 n.u,.bool n.d,.slice na nl nc]) (im p n) :=
 ⟨248,B9 _,CB,fun W _ => C8 d c p n pa pl pc na nl nc W⟩

theorem C5 (v : Value) (W : World) : (Go.method 406 133 v "loop.example/g00571/impl.keeps").run Tryz.prog W = .ok (249,v) W:=by kernel_rfl
theorem Dc (args : Array Value) (W : World) : (callFunc 249 args).run Tryz.prog W = .ok (.enter 249 args) W:=by kernel_rfl
theorem CA (d : Ad) (c : Cl) (p : Pd) (n : Nd) (pa : Option Addr) (pl pc : Nat) (na : Option Addr) (nl nc : Nat) (w : World) (hr : aM w d c.raw) (hT : aC c) (hc : 0 ≤ n.c ∧ n.c ≤ 1000000) : HOf w 133 (.agg #[]) (.agg #[.slice d.a1 d.l1 d.c1,.slice d.a2 d.l2 d.c2,.slice d.a3 d.l3 d.c3,.slice d.a4 d.l4 d.c4,.slice d.a5 d.l5 d.c5,.int .i64 c.now,.string p.n,.int .i64 p.c,.string p.z,.slice pa pl pc,.string p.d,.int .i64 p.p,.string n.n,.string n.z,.int .i64 n.c,.int .i64 n.s,.int .i64 n.u,.bool n.d,.slice na nl nc]) (lZ c p n) :=
 ⟨249,C5 _,Dc,fun W h => DN d c p n pa pl pc na nl nc W (hr.below h) hT hc⟩

theorem zt (v : Value) (W : World) : (Go.method 406 140 v "loop.example/g00571/impl.keeps").run Tryz.prog W = .ok (258,v) W:=by kernel_rfl
theorem zQ (args : Array Value) (W : World) : (callFunc 258 args).run Tryz.prog W = .ok (.enter 258 args) W:=by kernel_rfl
theorem yr (d : Ad) (c : Cl) (p : Pd) (n : Nd) (pa : Option Addr) (pl pc : Nat) (na : Option Addr) (nl nc : Nat) (v : Vd) (ua : Option Addr) (ul uc : Nat) (w : World) : HOf w 140 (.agg #[.string v.n,.int .i64 v.c,.string v.z,.string v.k,.bool v.x,.string v.m,.bool v.y,.slice ua ul uc]) (.agg #[.slice d.a1 d.l1 d.c1,.slice d.a2 d.l2 d.c2,.slice d.a3 d.l3 d.c3,.slice d.a4 d.l4 d.c4,.slice d.a5 d.l5 d.c5,.int .i64 c.now,.string p.n,.int .i64 p.c,.string p.z,.slice pa pl pc,.string p.d,.int .i64 p.p,.string n.n,.string n.z,.int .i64 n.c,.int .i64 n.s,.int .i64 n.u,.bool n.d,.slice na nl nc]) (¬ v.z = n.z) :=
 ⟨258,zt _,zQ,fun W _ => Cm d c p n pa pl pc na nl nc v ua ul uc W⟩

theorem zr (v : Value) (W : World) : (Go.method 406 182 v "loop.example/g00571/impl.keeps").run Tryz.prog W = .ok (260,v) W:=by kernel_rfl
theorem zP (args : Array Value) (W : World) : (callFunc 260 args).run Tryz.prog W = .ok (.enter 260 args) W:=by kernel_rfl
theorem yq (d : Ad) (c : Cl) (p : Pd) (n : Nd) (pa : Option Addr) (pl pc : Nat) (na : Option Addr) (nl nc : Nat) (v : Vd) (ua : Option Addr) (ul uc : Nat) (w : World) (hr : aM w d c.raw) (hv : ay w ua ul uc v.zs) : HOf w 182 (.agg #[.string v.n,.int .i64 v.c,.string v.z,.string v.k,.bool v.x,.string v.m,.bool v.y,.slice ua ul uc]) (.agg #[.slice d.a1 d.l1 d.c1,.slice d.a2 d.l2 d.c2,.slice d.a3 d.l3 d.c3,.slice d.a4 d.l4 d.c4,.slice d.a5 d.l5 d.c5,.int .i64 c.now,.string p.n,.int .i64 p.c,.string p.z,.slice pa pl pc,.string p.d,.int .i64 p.p,.string n.n,.string n.z,.int .i64 n.c,.int .i64 n.s,.int .i64 n.u,.bool n.d,.slice na nl nc]) (fB c v n.n) :=
 ⟨260,zr _,zP,fun W h => Cj d c p n pa pl pc na nl nc v ua ul uc W (hr.below h) (hv.below h)⟩

theorem zu (v : Value) (W : World) : (Go.method 406 138 v "loop.example/g00571/impl.keeps").run Tryz.prog W = .ok (257,v) W:=by kernel_rfl
theorem zR (args : Array Value) (W : World) : (callFunc 257 args).run Tryz.prog W = .ok (.enter 257 args) W:=by kernel_rfl
theorem yt (d : Ad) (c : Cl) (p : Pd) (n : Nd) (pa : Option Addr) (pl pc : Nat) (na : Option Addr) (nl nc : Nat) (k : Kd) (w : World) : HOf w 138 (.agg #[.string k.n,.bool k.x,.bool k.y,.string k.z]) (.agg #[.slice d.a1 d.l1 d.c1,.slice d.a2 d.l2 d.c2,.slice d.a3 d.l3 d.c3,.slice d.a4 d.l4 d.c4,.slice d.a5 d.l5 d.c5,.int .i64 c.now,.string p.n,.int .i64 p.c,.string p.z,.slice pa pl pc,.string p.d,.int .i64 p.p,.string n.n,.string n.z,.int .i64 n.c,.int .i64 n.s,.int .i64 n.u,.bool n.d,.slice na nl nc]) (k.x = false) :=
 ⟨257,zu _,zR,fun W _ => Cq d c p n pa pl pc na nl nc k W⟩

theorem Ca (v : Value) (W : World) : (Go.method 406 142 v "loop.example/g00571/impl.keeps").run Tryz.prog W = .ok (259,v) W:=by kernel_rfl
theorem CD (args : Array Value) (W : World) : (callFunc 259 args).run Tryz.prog W = .ok (.enter 259 args) W:=by kernel_rfl
theorem zI (d : Ad) (c : Cl) (p : Pd) (n : Nd) (pa : Option Addr) (pl pc : Nat) (na : Option Addr) (nl nc : Nat) (e : Int) (w : World) : HOf w 142 (.agg #[.int .i64 e]) (.agg #[.slice d.a1 d.l1 d.c1,.slice d.a2 d.l2 d.c2,.slice d.a3 d.l3 d.c3,.slice d.a4 d.l4 d.c4,.slice d.a5 d.l5 d.c5,.int .i64 c.now,.string p.n,.int .i64 p.c,.string p.z,.slice pa pl pc,.string p.d,.int .i64 p.p,.string n.n,.string n.z,.int .i64 n.c,.int .i64 n.s,.int .i64 n.u,.bool n.d,.slice na nl nc]) (¬ e = 0) :=
 ⟨259,Ca _,CD,fun W _ => C_ d c p n pa pl pc na nl nc e W⟩

theorem B_ (v : Value) (W : World) : (Go.method 406 136 v "loop.example/g00571/impl.keeps").run Tryz.prog W = .ok (251,v) W:=by kernel_rfl
theorem CC (args : Array Value) (W : World) : (callFunc 251 args).run Tryz.prog W = .ok (.enter 251 args) W:=by kernel_rfl
theorem zH (d : Ad) (c : Cl) (p : Pd) (n : Nd) (pa : Option Addr) (pl pc : Nat) (na : Option Addr) (nl nc : Nat) (w : World) (hr : aM w d c.raw) (hv : c.vs.length ≤ 8) : HOf w 136 (.agg #[]) (.agg #[.slice d.a1 d.l1 d.c1,.slice d.a2 d.l2 d.c2,.slice d.a3 d.l3 d.c3,.slice d.a4 d.l4 d.c4,.slice d.a5 d.l5 d.c5,.int .i64 c.now,.string p.n,.int .i64 p.c,.string p.z,.slice pa pl pc,.string p.d,.int .i64 p.p,.string n.n,.string n.z,.int .i64 n.c,.int .i64 n.s,.int .i64 n.u,.bool n.d,.slice na nl nc]) (n.s < ((dm c n.n c.vs).length : Int)) :=
 ⟨251,B_ _,CC,fun W h => C9 d c p n pa pl pc na nl nc W (hr.below h) hv⟩

def gp (hv : Value) (e : Int) : Prop:=(hv = .nilIface ∧ e = 0) ∨ (¬ e = 0 ∧ ((∃ v,hv = .iface 131 v ∧ e = 11) ∨ (∃ v,hv = .iface 132 v ∧ e = 8) ∨ (∃ v,hv = .iface 133 v ∧ e = 9) ∨ (∃ v,hv = .iface 140 v ∧ e = 8) ∨ (∃ v,hv = .iface 182 v ∧ e = 10) ∨ (∃ v,hv = .iface 138 v ∧ e = 11) ∨ hv = .iface 142 (.agg #[.int .i64 e]) ∨ (∃ v,hv = .iface 136 v ∧ e = 9)))

end Rc
end Go.Proofs.YtdoldaceehdifaaGreatDoor

namespace Go.Proofs.YtdoldaceehdifaaGreatDoor
open Go.RowKit
namespace Rc

section
variable {P : Program}
theorem iP (w : World) (g o : Nat) (t ty : TypeId) (cur cells new : Array Value) (hg : w.heap[g]? = some (.cells cur t (0,0))) (hi : (P.info? ty).map (·.size) = some cells.size)
  (hl : o + cells.size ≤ cur.size) (h1 : cells.all (·.oneCell') = true) (hn : (cur.toList.take o ++ cells.toList ++ cur.toList.drop (o + cells.size)).toArray = new) :
  (storeVar ty ⟨g,o,none⟩ (.agg cells)).run P w = .ok () (w.setRow g new):=by
 have:=run_storeCells_at P g o t cells.toList 0 cur w hg (by simpa using hl) (fun v hv => (Array.all_eq_true_iff_forall_mem.1 h1) v (by simpa using hv));simp only [Nat.add_zero,Array.length_toList,hn] at this;cases hq : P.info? ty with
 | none => simp [hq] at hi
 | some i =>
  have hs : cells.size = i.size:=by simp [hq] at hi;omega
  simp [storeVar,sizeOf,typeInfo,hq,Value.cells,hs,this]
theorem dG {ops : Array Oper} {rest : List Oper} {op : Oper} {a : Act} {w : World} {Q : Exit → Act → World → Prop} (hgd : op.guard = none) (ty : TypeId) (x y : Operand) (ho : op.op = .store ty x y)
  (g o : Nat) (cells new : Array Value) (hx : a.eval x = .pointer (some ⟨g,o,none⟩)) (hy : a.eval y = .agg cells)
  (t : TypeId) (cur : Array Value) (hg : w.heap[g]? = some (.cells cur t (0,0))) (hi : (P.info? ty).map (·.size) = some cells.size)
  (hl : o + cells.size ≤ cur.size) (h1 : cells.all (·.oneCell') = true) (hn : (cur.toList.take o ++ cells.toList ++ cur.toList.drop (o + cells.size)).toArray = new)
  (h : wpList P ops Q rest (a.put op.dst undef) (w.setRow g new)) : wpList P ops Q (op :: rest) a w:=by
 refine wpList_plain hgd fun K hK => ?_;unfold Oper.wp execOp;simp only [ho,hx,hy,Instr.storeAt,Instr.sureAddr,Sem.run_bind,Sem.run_pure,Result.andThen_ok,iP w g o t ty cur cells new hg hi hl h1 hn];exact hK _ _ h
theorem results_cell_tmp {fn : Func} {p q : Tmp} {ty : TypeId} (h : fn.results = #[.cell p ty,.tmp q]) (tmps : Array Value) (w : World) (g : Nat) (t : TypeId) (cs : Array Value) (v : Value) (fr : Nat × Nat) (d : TypeDesc)
  (hp : tmps.getD p undef = .pointer (some ⟨g,0,none⟩)) (hv : tmps.getD q undef = v) (hg : w.heap[g]? = some (.cells cs t fr))
  (hu : P.underlying ty = some d) (hd : (match d with | .struct _ | .array _ _ => true | _ => false) = true) (hi : (P.info? ty).map (·.size) = some cs.size) :
  (results fn tmps).run P w = .ok (.tuple #[.agg cs,v]) w:=by
 have hp' : tmps[p]?.getD undef = .pointer (some ⟨g,0,none⟩):=by simpa using hp
 have hv' : tmps[q]?.getD undef = v:=by simpa using hv
 simp [results,h,hp',hv',asAddr,run_loadVar_row w g t ty cs fr d hg hu hd hi]
end

end Rc
end Go.Proofs.YtdoldaceehdifaaGreatDoor

namespace Go.Proofs.YtdoldaceehdifaaGreatDoor
open Go.RowKit

theorem BQ {a b : Bool} (h : a = b) : Ending.returned (.bool a) = .returned (.bool b):=by rw [h]

theorem qS (v u : Vd) (va ua : Option Addr) (vl vc ul uc : Nat) (w : World) :
  Calls Tryz.prog 187 #[.agg #[.string v.n,.int .i64 v.c,.string v.z,.string v.k,.bool v.x,.string v.m,.bool v.y,.slice va vl vc],.agg #[.string u.n,.int .i64 u.c,.string u.z,.string u.k,.bool u.x,.string u.m,.bool u.y,.slice ua ul uc]] w fun e w' => e = .returned (.bool (ey v u)) ∧ Below w.heap.size w w':=by
 have HB:=ae (aF w (.cells #[.string v.n,.int .i64 v.c,.string v.z,.string v.k,.bool v.x,.string v.m,.bool v.y,.slice va vl vc] 118) (.cells #[.string u.n,.int .i64 u.c,.string u.z,.string u.k,.bool u.x,.string u.m,.bool u.y,.slice ua ul uc] 118));by_cases h : v.c = u.c
 ·have h1 : (v.c != u.c) = false:=by simp [h]
  have HX:=ae (show Op.bytesLess v.n.toList u.n.toList = ey v u by simp [ey,h]);exact acB
 ·have h1 : (v.c != u.c) = true:=by simp [h]
  have HX:=ae (show decide (v.c < u.c) = ey v u by simp [ey,h]);exact acB

theorem kL (a : Option Addr) (len cap : Nat) (vs : List Vd) (w : World) (hr : dV w a len cap vs) :
  Calls Tryz.prog 184 #[.slice a len cap] w (ar (vs.length ≤ 8 ∧ ∀ (j : Nat) v,vs[j]? = some v → v.Ok) w):=by
 obtain ⟨HR,hvl,hlc⟩:=tW;clear hr;by_cases h8 : 8 < len
 ·go_enter Tryz.func184,Tryz.ntmps184;go_wp2;go_ret;exact ⟨false,rfl,⟨fun h => bM,fun h => absurd h.1 af⟩,Below.refl _ _⟩
 go_enter Tryz.func184,Tryz.ntmps184;go_wp2;go_loopw [10] (fun vi wr => ∃ (i : Nat),i ≤ len ∧ vi = .int .i64 i ∧ Hid (∀ (j : Nat) v,j < i → vs[j]? = some v → v.Ok) ∧ Hid (Below w.heap.size w wr)) (fun vi _ => len - (intOf vi).toNat);case atStart => exact ⟨0,by omega,rfl,fun j v hj => by omega,Below.refl _ _⟩
 case round =>
  obtain ⟨i,hi,rfl,HA,HB⟩:=hrel;by_cases hlt : i < len
  ·obtain ⟨b,o,v,rfl,hb,hv,hf,va,vl,vc,hvr,c0,c1,c2,c3,c4,c5,c6,c7⟩:=(HR.out.below HB.out).at hlt;have HV:=ae hv;have HT:=ae hvr;have HF:=ae hf;clear hv hvr hf;go_wp2_with fail;refine (n8 v.n v.c v.z v.k v.x v.m v.y va vl vc v.zs _ HF.out.1 HF.out.2.1 HF.out.2.2.1 HF.out.2.2.2 (HT.out.below (an _ _))).mono ?_;rintro e w3 ⟨r,rfl,hr,hb3⟩;have HB3:=ae (HB.out.trans ((b_ hb3).2.1.mono HB.out.size));by_cases hq : r = true;case neg =>
    obtain ⟨HN,hrf⟩:=dB;clear hr hb3 c0 c1 c2 c3 c4 c5 c6 c7;go_wp2_with fail;go_ret;exact ⟨false,rfl,⟨fun h => bM,fun h => (HN.out (h.2 i v HV.out)).elim⟩,HB3.out⟩
   have hok:=hr.1 hq;subst hq;clear hr hb3 c0 c1 c2 c3 c4 c5 c6 c7;go_wp2_with fail;refine ⟨⟨i + 1,by omega,by go_num,fun j u hj hu => ?_,HB3⟩,by simp [intOf];omega⟩;by_cases e : j = i
   ·subst e;rw [HV.out] at hu;obtain rfl:=Option.some.inj hu;exact hok
   ·exact HA.out j u af hu
  ·obtain rfl : i = len:=aaa
   go_wp2;go_ret;exact ⟨true,rfl,⟨fun _ => ⟨by omega,fun j v hv => HA.out j v (by have:=(List.getElem?_eq_some_iff.1 hv).1;omega) hv⟩,fun _ => rfl⟩,HB.out⟩

theorem kJ (a : Option Addr) (len cap : Nat) (vs : List Vd) (n' : ByteArray) (c' : Int) (k' : ByteArray) (x' : Bool) (v' : ByteArray) (t : ByteArray) (w : World) (hn' : n'.size ≤ 9223372036854775807) (hk' : k'.size ≤ 9223372036854775807) (hv' : v'.size ≤ 9223372036854775807) (ht : t.size ≤ 9223372036854775807) (hr : dV w a len cap vs) (hbad : (400 < vs.length ∨ 8000 < t.size) ∨ ¬ ir vs n' c' k' v' t) :
  Calls Tryz.prog 172 #[.slice a len cap,.agg #[.string n',.int .i64 c',.string k',.bool x',.string v'],.string t] w (dx vs n' c' k' x' v' t w):=by
 obtain ⟨HR,hvl,hlc⟩:=tW;have HBAD:=ae hbad;clear hr hbad;by_cases hl4 : 400 < len
 ·have HL:=ae (show l8 vs n' c' k' x' v' t vZ 2 from .inl ⟨.inl af,rfl,rfl⟩);go_enter Tryz.func172,Tryz.ntmps172;exact acO
 by_cases hl8 : 8000 < t.size
 ·have HL:=ae (show l8 vs n' c' k' x' v' t vZ 2 from .inl ⟨.inr hl8,rfl,rfl⟩);go_enter Tryz.func172,Tryz.ntmps172;go_wp2_with fail;refine (fV t _ hl8).mono ?_;rintro e w1 ⟨rfl,rfl⟩;exact acO
 have HL:=ae (show ¬ (400 < vs.length ∨ 8000 < t.size) by omega);have HBR:=ae (HBAD.out.resolve_left HL.out);go_enter Tryz.func172,Tryz.ntmps172;go_wp2_with fail;refine (fW t _ hl8).mono ?_;rintro e w1 ⟨rfl,rfl⟩;go_wp2_with fail;refine (ee n' c' k' x' v' _ hn' hk' hv').mono ?_;rintro e w1 ⟨r,rfl,hr,hb⟩;have g1:=(hb.block (w.heap.size + 1) aN).trans (bK _ _ _);have HB:=ae ((aF w _ _).trans (hb.mono bF));have HG1:=ae g1;have r0 : w1.cell? ⟨w.heap.size + 1,0,none⟩ = some (.string ⟨#[]⟩):=ah g1 0;have r1 : w1.cell? ⟨w.heap.size + 1,1,none⟩ = some (.int .i64 0):=ah g1 1;have r2 : w1.cell? ⟨w.heap.size + 1,2,none⟩ = some (.string ⟨#[]⟩):=ah g1 2;have r3 : w1.cell? ⟨w.heap.size + 1,3,none⟩ = some (.string ⟨#[]⟩):=ah g1 3;have r4 : w1.cell? ⟨w.heap.size + 1,4,none⟩ = some (.bool false):=ah g1 4;have r5 : w1.cell? ⟨w.heap.size + 1,5,none⟩ = some (.string ⟨#[]⟩):=ah g1 5;have r6 : w1.cell? ⟨w.heap.size + 1,6,none⟩ = some (.bool false):=ah g1 6;have r7 : w1.cell? ⟨w.heap.size + 1,7,none⟩ = some (.slice none 0 0):=ah g1 7;have r8 : w1.cell? ⟨w.heap.size + 1,8,none⟩ = some (.int .i64 0):=ah g1 8;have q0:=au g1 0;have q1:=au g1 1;have q2:=au g1 2;have q3:=au g1 3;have q4:=au g1 4;have q5:=au g1 5;have q6:=au g1 6;have q7:=au g1 7;have q8:=au g1 8;clear g1 hb;by_cases hq : r = true;case neg =>
  exact acC
 have h0:=ae (hr.1 hq);subst hq;clear hr;go_wp2_with fail;refine (cy t _ ht).mono ?_;rintro e w2 ⟨r,rfl,hr,rfl⟩;by_cases hq : r = true;case neg =>
  exact acC
 have h1:=ae (hr.1 hq);subst hq;clear hr r0 q0 r1 q1 r2 q2 r3 q3 r4 q4 r5 q5 r6 q6 r7 q7 r8 q8;go_wp2_with fail;refine (kL a len cap vs _ (HR.out.below HB.out)).mono ?_;rintro e w3 ⟨r,rfl,hr,hb⟩;have hrf : r = false:=by
  cases r with
  | false => rfl
  | true => exact absurd ⟨h0.out,h1.out,(hr.1 rfl).1,(hr.1 rfl).2⟩ HBR.out
 subst hrf;have g1:=(hb.block _ (aa HG1.out)).trans HG1.out;have HB2:=upB HB hb;have r0 : w3.cell? ⟨w.heap.size + 1,0,none⟩ = some (.string ⟨#[]⟩):=ah g1 0;have r1 : w3.cell? ⟨w.heap.size + 1,1,none⟩ = some (.int .i64 0):=ah g1 1;have r2 : w3.cell? ⟨w.heap.size + 1,2,none⟩ = some (.string ⟨#[]⟩):=ah g1 2;have r3 : w3.cell? ⟨w.heap.size + 1,3,none⟩ = some (.string ⟨#[]⟩):=ah g1 3;have r4 : w3.cell? ⟨w.heap.size + 1,4,none⟩ = some (.bool false):=ah g1 4;have r5 : w3.cell? ⟨w.heap.size + 1,5,none⟩ = some (.string ⟨#[]⟩):=ah g1 5;have r6 : w3.cell? ⟨w.heap.size + 1,6,none⟩ = some (.bool false):=ah g1 6;have r7 : w3.cell? ⟨w.heap.size + 1,7,none⟩ = some (.slice none 0 0):=ah g1 7;have r8 : w3.cell? ⟨w.heap.size + 1,8,none⟩ = some (.int .i64 0):=ah g1 8;have q0:=au g1 0;have q1:=au g1 1;have q2:=au g1 2;have q3:=au g1 3;have q4:=au g1 4;have q5:=au g1 5;have q6:=au g1 6;have q7:=au g1 7;have q8:=au g1 8;clear hr hb g1;go_wp2_with fail;exact bodyPost_ret (v:=.agg #[.string ⟨#[]⟩,.int .i64 0,.string ⟨#[]⟩,.string ⟨#[]⟩,.bool false,.string ⟨#[]⟩,.bool false,.slice none 0 0,.int .i64 1]) (by simp [results,Tryz.results172,go_sem, *]) rfl (dx.bad (.inr (.inl ⟨HL.out,HBR.out,rfl,rfl⟩)) (eB af HB2.out))

theorem qb (a : Option Addr) (len cap : Nat) (v : Value) (fs : Array Value) (fn : Fn) (hv : v = .func fn #[] fs) (w : World) :
  Calls Tryz.prog 185 #[.slice a len cap,v] w fun e w' => e = .returned (.func (.func 198) #[] #[.pointer (some ⟨w.heap.size,0,none⟩),.pointer (some ⟨w.heap.size + 1,0,none⟩)]) ∧
   w'.heap[w.heap.size]? = some (.cells #[.slice a len cap] 33 (0,0)) ∧ w'.heap[w.heap.size + 1]? = some (.cells #[v] 158 (0,0)) ∧ Below w.heap.size w w':=by
 subst hv;go_enter Tryz.func185,Tryz.ntmps185;go_wp2;go_ret;exact ⟨rfl,cK _ _ _,bK _ _ _,aF _ _ _⟩

end Go.Proofs.YtdoldaceehdifaaGreatDoor

namespace Go.Proofs.YtdoldaceehdifaaGreatDoor
open Go.RowKit Go.Shelf

attribute [local go_sem] Oper.semAt_some

structure Vx where
 v : Vd
 a : Option Addr
 len : Nat
 cap : Nat
def Vx.val (x : Vx) : Value:=.agg #[.string x.v.n,.int .i64 x.v.c,.string x.v.z,.string x.v.k,.bool x.v.x,.string x.v.m,.bool x.v.y,.slice x.a x.len x.cap]
def KpB (h n₀ : Nat) (W W' : World) : Prop:=W.heap.size ≤ W'.heap.size ∧ ∀ k,k < n₀ → ¬ k = h → ¬ k = h + 1 → W'.heap[k]? = W.heap[k]?
theorem KpB.refl (h n₀ : Nat) (W : World) : KpB h n₀ W W:=⟨Nat.le_refl _,fun _ _ _ _ => rfl⟩
theorem KpB.trans {h n₀ : Nat} {A B C : World} (p : KpB h n₀ A B) (q : KpB h n₀ B C) : KpB h n₀ A C:=⟨Nat.le_trans p.1 q.1,fun k h1 h2 h3 => (q.2 k h1 h2 h3).trans (p.2 k h1 h2 h3)⟩
theorem KpB.below {h n₀ : Nat} {A B : World} (q : Below A.heap.size A B) (hn : n₀ ≤ A.heap.size) : KpB h n₀ A B:=⟨q.size,fun k h1 _ _ => q.block k (by omega)⟩
theorem KpB.put {h n₀ : Nat} {w : World} (hn : n₀ ≤ w.heap.size) (W : World) (l : Nat) (o o' : Obj) (hl : w.heap.size ≤ l) (_ : W.heap[l]? = some o) (_ : o.isCells = false) (_ : o.isWalk = false) : KpB h n₀ W (W.putObj l o') :=
 ⟨by simp,fun k h1 _ _ => World.putObj_heap_other (fun e => by omega)⟩
theorem bI {w w' : World} (h : Below w.heap.size w w') : w.grownBy w' none:=⟨h.os,h.tape,h.output,h.size,fun k hk _ => h.block k hk⟩
structure yN (W : World) (a : Option Addr) (h lb fb cb zb b o len cap : Nat) (xl : List Vx) (n' : ByteArray) (c' : Int) (k' : ByteArray) (x' : Bool) (v' : ByteArray) (t : ByteArray) : Prop where
 l0 : W.heap[lb]? = some (.cells #[.slice a len cap] 33 (0,0))
 f0 : W.heap[fb]? = some (.cells #[.func (.func 199) #[] #[.pointer (some ⟨cb,0,none⟩),.pointer (some ⟨zb,0,none⟩)]] 158 (0,0))
 held : gT W cb zb n' c' k' x' v' t
 ll : xl.length = len
 ha : xl = [] ∨ a = some ⟨b,o,none⟩
 bl : b < W.heap.size
 ne : ¬ lb = h ∧ ¬ lb = h + 1 ∧ ¬ fb = h ∧ ¬ fb = h + 1 ∧ ¬ cb = h ∧ ¬ cb = h + 1 ∧ ¬ zb = h ∧ ¬ zb = h + 1 ∧ ¬ b = h ∧ ¬ b = h + 1
 cell : ∀ (j : Nat) x,xl[j]? = some x → W.cell? ⟨b,o + j * 8,none⟩ = some (.string x.v.n) ∧ W.cell? ⟨b,o + j * 8 + 1,none⟩ = some (.int .i64 x.v.c) ∧ W.cell? ⟨b,o + j * 8 + 2,none⟩ = some (.string x.v.z) ∧ W.cell? ⟨b,o + j * 8 + 3,none⟩ = some (.string x.v.k) ∧
  W.cell? ⟨b,o + j * 8 + 4,none⟩ = some (.bool x.v.x) ∧ W.cell? ⟨b,o + j * 8 + 5,none⟩ = some (.string x.v.m) ∧ W.cell? ⟨b,o + j * 8 + 6,none⟩ = some (.bool x.v.y) ∧ W.cell? ⟨b,o + j * 8 + 7,none⟩ = some (.slice x.a x.len x.cap)
theorem yN.kept {W W' : World} {a : Option Addr} {h lb fb cb zb b o len cap n₀ : Nat} {xl : List Vx} {n' : ByteArray} {c' : Int} {k' : ByteArray} {x' : Bool} {v' t : ByteArray} (i : yN W a h lb fb cb zb b o len cap xl n' c' k' x' v' t) (hn : lb < n₀ ∧ fb < n₀ ∧ cb < n₀ ∧ zb < n₀ ∧ b < n₀) (k : KpB h n₀ W W') :
  yN W' a h lb fb cb zb b o len cap xl n' c' k' x' v' t:=by
 obtain ⟨e1,e2,e3,e4,e5,e6,e7,e8,e9,e10⟩:=i.ne;have hc : ∀ j,W'.cell? ⟨b,j,none⟩ = W.cell? ⟨b,j,none⟩:=fun j => by simp [World.cell?,k.2 b hn.2.2.2.2 e9 e10]
 refine ⟨(k.2 _ hn.1 e1 e2).trans i.l0,(k.2 _ hn.2.1 e3 e4).trans i.f0,⟨(k.2 _ hn.2.2.1 e5 e6).trans i.held.1,(k.2 _ hn.2.2.2.1 e7 e8).trans i.held.2⟩,i.ll,i.ha,Nat.lt_of_lt_of_le i.bl k.1,i.ne,fun j x hx => ?_⟩;simp only [hc];exact i.cell j x hx

theorem qd (n : Nat) (hn1 : 1 ≤ n) (a : Option Addr) (h lb fb cb zb b o len cap n₀ : Nat) (xl : List Vx) (n' : ByteArray) (c' : Int) (k' : ByteArray) (x' : Bool) (v' : ByteArray) (t : ByteArray) (w : World) (hlen : len ≤ 1000) (hi : yN w a h lb fb cb zb b o len cap xl n' c' k' x' v' t) (hw : n₀ = w.heap.size) (hn : lb < n₀ ∧ fb < n₀ ∧ cb < n₀ ∧ zb < n₀ ∧ b < n₀) :
  SeqStopsK Fence.wide n Tryz.prog 198 #[.pointer (some ⟨lb,0,none⟩),.pointer (some ⟨fb,0,none⟩)] (fun x : Vx => #[x.val]) (KpB h n₀) (fun xs => xs = xl.filter fun x => svV c' k' x' t x.v) (fun _ => True) len w:=fun l J Jx W hW hJ hJx hY h0 => by
 have hiW:=hi.kept hn (KpB.below hW af);have hz : n₀ ≤ W.heap.size:=by have:=hW.size;omega
 clear hi hW;have HI:=ae hiW;have HAJ:=ae hJ;have HY:=ae hY;clear hJ hJx hY;have c0:=ah hiW.l0 0;simp only [List.getElem?_toArray,List.getElem?_cons_zero] at c0;clear hiW;refine callsIn_of_wp Tryz.func198 rfl trivial ?_ rfl;simp only [Tryz.ntmps198,List.size_toArray,List.length_cons,List.length_nil,Nat.reduceAdd,Nat.reduceSub,Array.replicate_succ,Array.replicate_zero,List.push_toArray,List.append_toArray,List.nil_append,List.cons_append];gi_wp2;gi_loopw [8] (fun p wr => ∃ i : Nat,i ≤ len ∧ p = .int .i64 i ∧ Hid (KpB h n₀ W wr) ∧ Hid (J ((xl.take i).filter fun x => svV c' k' x' t x.v) wr)) (fun p _ => len - (intOf p).toNat);case atStart => exact ⟨0,by omega,rfl,KpB.refl _ _ _,h0⟩
 case round =>
  obtain ⟨i,hi,rfl,HK,HJ⟩:=hrel;have hI:=HI.out.kept hn HK.out;have hzr : n₀ ≤ wr.heap.size:=Nat.le_trans hz HK.out.1;by_cases hlt : i < len;case neg =>
   obtain rfl : i = len:=aaa
   have HE : Hid (J (xl.filter fun x => svV c' k' x' t x.v) wr):=by have:=HJ.out;rw [List.take_of_length_le (by have:=hI.ll;omega)] at this;exact this
   clear hI c0;gi_wp2;go_end0;exact ⟨⟨_,rfl⟩,.inl ⟨_,rfl,HE.out⟩⟩
  have hxl:=hI.ll;obtain rfl : a = some ⟨b,o,none⟩:=by
   rcases hI.ha with h | h
   ·rw [h] at hxl;simp at hxl;omega
   ·exact h
  obtain ⟨x,hx⟩ : ∃ x,xl[i]? = some x:=⟨_,List.getElem?_eq_getElem af⟩;obtain ⟨p0,p1,p2,p3,p4,p5,p6,p7⟩:=hI.cell i x hx;have hbf:=an wr (.cells #[.string x.v.n,.int .i64 x.v.c,.string x.v.z,.string x.v.k,.bool x.v.x,.string x.v.m,.bool x.v.y,.slice x.a x.len x.cap] 118);have f0:=(ak hbf (aa hI.f0)).trans (ah hI.f0 0);simp only [List.getElem?_toArray,List.getElem?_cons_zero] at f0;have HH:=ae hI.held;have HX:=ae hx;have hlt' : (i : Int) < len:=aaa
  clear hI hx hbf c0;gi_wp2_with fail;refine ⟨trivial,(callsIn_wide.2 (zU x.v.n x.v.c x.v.z x.v.k x.v.x x.v.m x.v.y x.a x.len x.cap cb zb n' c' k' x' v' t _ (HH.out.below (an _ _)))).mono ?_⟩;rintro e w2 ⟨rfl,hb2⟩;obtain ⟨gv,hb3,-⟩:=b_ hb2;obtain ⟨y0,y1,y2,y3,y4,y5,y6,y7⟩:=cs8 gv;have HK2:=ae (HK.out.trans (KpB.below (h:=h) hb3 hzr));have HJ2:=ae (HAJ.out _ _ _ _ HJ.out (bI hb3) (fun r e => by cases e));clear gv hb2 hb3 HK HJ p0 p1 p2 p3 p4 p5 p6 p7 f0;have hsv : svB x.v.c x.v.z x.v.k x.v.x x.v.m x.v.y c' k' x' t = svV c' k' x' t x.v:=rfl;rw [hsv];clear hsv;cases hs : svV c' k' x' t x.v
  ·have he : J ((xl.take (i + 1)).filter fun x => svV c' k' x' t x.v) w2:=by have:=HJ2.out;rw [List.take_add_one,HX.out,List.filter_append];simpa [hs] using this
   have HE:=ae he;clear hs he;gi_wp2;refine ⟨fun _ h => bM,?_⟩;gi_wp2;go_roundw;case rel => exact ⟨i + 1,by omega,by go_num,HK2,HE⟩
   case measure => simp [intOf];omega
  have hfl : ((xl.take i).filter fun x => svV c' k' x' t x.v).length < len:=by
   have h1:=List.length_filter_le (fun x : Vx => svV c' k' x' t x.v) (xl.take i);have h2 : (xl.take i).length ≤ i:=List.length_take_le _ _;omega
  obtain ⟨fn,tmps,assign,body,hy,hR⟩:=HY.out _ x w2 HJ2.out hfl;dsimp only [Vx.val] at hy;have HS:=ae hs;clear hs;gi_wp2;refine hR.mono ?_;rintro e W3 (⟨rfl,hJ3,hk3⟩ | ⟨rfl,hJx3⟩)
  ·have he : J ((xl.take (i + 1)).filter fun x => svV c' k' x' t x.v) W3:=by rw [List.take_add_one,HX.out,List.filter_append];simpa [HS.out] using hJ3
   have HE:=ae he;clear he;have HK3:=ae (HK2.out.trans hk3);clear hJ3 hk3 hR hy y0 y1 y2 y3 y4 y5 y6 y7;gi_wp2;go_roundw;case rel => exact ⟨i + 1,by omega,by go_num,HK3,HE⟩
   case measure => simp [intOf];omega
  ·have HE:=ae hJx3;clear hJx3 hR hy y0 y1 y2 y3 y4 y5 y6 y7;gi_wp2;refine bodyPost_ret (results_none rfl _ _ _) rfl ?_;exact ⟨⟨_,rfl⟩,.inr ⟨_,trivial,HE.out⟩⟩

attribute [local go_sem] Oper.semAt_some

theorem dV.xs {w : World} {a : Option Addr} {len cap : Nat} {vs : List Vd} (h : dV w a len cap vs) : ∃ (xl : List Vx) (b o : Nat),xl.map Vx.v = vs ∧ xl.length = len ∧ (xl = [] ∨ (a = some ⟨b,o,none⟩ ∧ b < w.heap.size)) ∧
  ∀ (j : Nat) x,xl[j]? = some x → ay w x.a x.len x.cap x.v.zs ∧ w.cell? ⟨b,o + j * 8,none⟩ = some (.string x.v.n) ∧ w.cell? ⟨b,o + j * 8 + 1,none⟩ = some (.int .i64 x.v.c) ∧ w.cell? ⟨b,o + j * 8 + 2,none⟩ = some (.string x.v.z) ∧ w.cell? ⟨b,o + j * 8 + 3,none⟩ = some (.string x.v.k) ∧
   w.cell? ⟨b,o + j * 8 + 4,none⟩ = some (.bool x.v.x) ∧ w.cell? ⟨b,o + j * 8 + 5,none⟩ = some (.string x.v.m) ∧ w.cell? ⟨b,o + j * 8 + 6,none⟩ = some (.bool x.v.y) ∧ w.cell? ⟨b,o + j * 8 + 7,none⟩ = some (.slice x.a x.len x.cap):=by
 obtain ⟨h1,h2,h3,h5⟩:=h;rcases h5 with rfl | ⟨b,o,rfl,hlt,hc⟩
 ·exact ⟨[],0,0,rfl,by simpa using h1,.inl rfl,fun j x hx => by simp at hx⟩
 ·have hh : ∀ (j : Nat) v,vs[j]? = some v → ∃ x : Vx,x.v = v ∧ (ay w x.a x.len x.cap x.v.zs ∧ w.cell? ⟨b,o + j * 8,none⟩ = some (.string x.v.n) ∧ w.cell? ⟨b,o + j * 8 + 1,none⟩ = some (.int .i64 x.v.c) ∧ w.cell? ⟨b,o + j * 8 + 2,none⟩ = some (.string x.v.z) ∧ w.cell? ⟨b,o + j * 8 + 3,none⟩ = some (.string x.v.k) ∧
    w.cell? ⟨b,o + j * 8 + 4,none⟩ = some (.bool x.v.x) ∧ w.cell? ⟨b,o + j * 8 + 5,none⟩ = some (.string x.v.m) ∧ w.cell? ⟨b,o + j * 8 + 6,none⟩ = some (.bool x.v.y) ∧ w.cell? ⟨b,o + j * 8 + 7,none⟩ = some (.slice x.a x.len x.cap)):=fun j v hv => by
   obtain ⟨-,a',l',c',q⟩:=hc j v hv;exact ⟨⟨v,a',l',c'⟩,rfl,q⟩
  have key : ∀ (n : Nat),n ≤ vs.length → ∃ xl : List Vx,xl.map Vx.v = vs.take n ∧ ∀ (j : Nat) x,xl[j]? = some x → (ay w x.a x.len x.cap x.v.zs ∧ w.cell? ⟨b,o + j * 8,none⟩ = some (.string x.v.n) ∧ w.cell? ⟨b,o + j * 8 + 1,none⟩ = some (.int .i64 x.v.c) ∧ w.cell? ⟨b,o + j * 8 + 2,none⟩ = some (.string x.v.z) ∧ w.cell? ⟨b,o + j * 8 + 3,none⟩ = some (.string x.v.k) ∧
    w.cell? ⟨b,o + j * 8 + 4,none⟩ = some (.bool x.v.x) ∧ w.cell? ⟨b,o + j * 8 + 5,none⟩ = some (.string x.v.m) ∧ w.cell? ⟨b,o + j * 8 + 6,none⟩ = some (.bool x.v.y) ∧ w.cell? ⟨b,o + j * 8 + 7,none⟩ = some (.slice x.a x.len x.cap)):=by
   intro n
   induction n with
   | zero => exact fun _ => ⟨[],by simp,fun j x hx => by simp at hx⟩
   | succ n ih =>
    intro hn;obtain ⟨xl,e1,e2⟩:=ih af
    have hl : xl.length = n:=by have:=congrArg List.length e1;simp at this;omega
    obtain ⟨x,hxv,hx⟩:=hh n (vs[n]'(by omega)) (List.getElem?_eq_getElem _);refine ⟨xl ++ [x],?_,fun j y hy => ?_⟩
    ·rw [List.take_add_one,← e1,List.getElem?_eq_getElem (show n < vs.length by omega)]
     simp [hxv]
    ·by_cases e : j < xl.length
     ·rw [List.getElem?_append_left e] at hy;exact e2 j y hy
     ·rw [List.getElem?_append_right af] at hy
      have hj : j - xl.length = 0:=by
       rcases Nat.eq_zero_or_pos (j - xl.length) with h | h
       ·exact h
       ·rw [List.getElem?_eq_none bF] at hy;cases hy
      rw [hj] at hy;obtain rfl:=Option.some.inj (show some x = some y from hy)
      obtain rfl : j = n:=aaa
      exact hx
  obtain ⟨xl,e1,e2⟩:=key vs.length (Nat.le_refl _);rw [List.take_length] at e1;refine ⟨xl,b,o,e1,by have:=congrArg List.length e1;simp at this;omega,.inr ⟨rfl,hlt⟩,e2⟩

def stepX (acc : Option Vx) (x : Vx) : Option Vx:=match acc with | none => some x | some u => if ey x.v u.v = true then some x else some u
def eJ (xs : List Vx) : Option Vx:=xs.foldl stepX none
theorem jw (xs : List Vx) (x : Vx) : eJ (xs ++ [x]) = stepX (eJ xs) x:=by simp [eJ]
theorem sX (sv : Vd → Bool) (xs : List Vx) : ∀ acc : Option Vx,((xs.filter fun x => sv x.v).foldl stepX acc).map Vx.v = (xs.map Vx.v).foldl (stepB sv) (acc.map Vx.v):=by
 induction xs with
 | nil => intro acc;simp
 | cons x xs ih =>
  intro acc
  cases hs : sv x.v
  ·simp only [List.filter_cons,hs,Bool.false_eq_true,if_false,List.map_cons,List.foldl_cons];rw [ih acc]
   congr 1
   simp [stepB,hs]
  ·simp only [List.filter_cons,hs,if_true,List.map_cons,List.foldl_cons];rw [ih]
   congr 1
   cases acc with
   | none => simp [stepX,stepB,hs]
   | some u =>
    simp only [stepX,stepB,hs,Option.map_some,Bool.true_and]
    split <;> simp
theorem sW (sv : Vd → Bool) (xs : List Vx) : (eJ (xs.filter fun x => sv x.v)).map Vx.v = cJ sv (xs.map Vx.v):=sX sv xs none
theorem sY (xs : List Vx) : ∀ acc x,xs.foldl stepX acc = some x → x ∈ xs ∨ acc = some x:=by
 induction xs with
 | nil => intro acc x h;exact .inr h
 | cons y ys ih =>
  intro acc x h
  rcases ih _ _ h with h1 | h1
  ·exact .inl (List.mem_cons_of_mem _ h1)
  ·cases acc with
   | none => simp [stepX] at h1;subst h1;exact .inl List.mem_cons_self
   | some u =>
    simp only [stepX] at h1
    split at h1
    ·obtain rfl:=Option.some.inj h1;exact .inl List.mem_cons_self
    ·exact .inr h1

theorem CY {w : World} {b : Nat} {T : TypeId} {u0 u1 u2 u3 u4 u5 u6 u7 v0 v1 v2 v3 v4 v5 v6 v7 : Value} (h : w.heap[b]? = some (.cells #[u0,u1,u2,u3,u4,u5,u6,u7] T (0,0))) :
  ((((((((w.setCell ⟨b,0,none⟩ v0).setCell ⟨b,1,none⟩ v1).setCell ⟨b,2,none⟩ v2).setCell ⟨b,3,none⟩ v3).setCell ⟨b,4,none⟩ v4).setCell ⟨b,5,none⟩ v5).setCell ⟨b,6,none⟩ v6).setCell ⟨b,7,none⟩ v7).heap[b]? = some (.cells #[v0,v1,v2,v3,v4,v5,v6,v7] T (0,0)):=by
 have h0 : (w.setCell ⟨b,0,none⟩ v0).heap[b]? = some (.cells #[v0,u1,u2,u3,u4,u5,u6,u7] T (0,0)):=az h v0;have h1 : ((w.setCell ⟨b,0,none⟩ v0).setCell ⟨b,1,none⟩ v1).heap[b]? = some (.cells #[v0,v1,u2,u3,u4,u5,u6,u7] T (0,0)):=az h0 v1;have h2 : (((w.setCell ⟨b,0,none⟩ v0).setCell ⟨b,1,none⟩ v1).setCell ⟨b,2,none⟩ v2).heap[b]? = some (.cells #[v0,v1,v2,u3,u4,u5,u6,u7] T (0,0)):=az h1 v2;have h3 : ((((w.setCell ⟨b,0,none⟩ v0).setCell ⟨b,1,none⟩ v1).setCell ⟨b,2,none⟩ v2).setCell ⟨b,3,none⟩ v3).heap[b]? = some (.cells #[v0,v1,v2,v3,u4,u5,u6,u7] T (0,0)):=az h2 v3;have h4 : (((((w.setCell ⟨b,0,none⟩ v0).setCell ⟨b,1,none⟩ v1).setCell ⟨b,2,none⟩ v2).setCell ⟨b,3,none⟩ v3).setCell ⟨b,4,none⟩ v4).heap[b]? = some (.cells #[v0,v1,v2,v3,v4,u5,u6,u7] T (0,0)):=az h3 v4;have h5 : ((((((w.setCell ⟨b,0,none⟩ v0).setCell ⟨b,1,none⟩ v1).setCell ⟨b,2,none⟩ v2).setCell ⟨b,3,none⟩ v3).setCell ⟨b,4,none⟩ v4).setCell ⟨b,5,none⟩ v5).heap[b]? = some (.cells #[v0,v1,v2,v3,v4,v5,u6,u7] T (0,0)):=az h4 v5;have h6 : (((((((w.setCell ⟨b,0,none⟩ v0).setCell ⟨b,1,none⟩ v1).setCell ⟨b,2,none⟩ v2).setCell ⟨b,3,none⟩ v3).setCell ⟨b,4,none⟩ v4).setCell ⟨b,5,none⟩ v5).setCell ⟨b,6,none⟩ v6).heap[b]? = some (.cells #[v0,v1,v2,v3,v4,v5,v6,u7] T (0,0)):=az h5 v6;have h7 : ((((((((w.setCell ⟨b,0,none⟩ v0).setCell ⟨b,1,none⟩ v1).setCell ⟨b,2,none⟩ v2).setCell ⟨b,3,none⟩ v3).setCell ⟨b,4,none⟩ v4).setCell ⟨b,5,none⟩ v5).setCell ⟨b,6,none⟩ v6).setCell ⟨b,7,none⟩ v7).heap[b]? = some (.cells #[v0,v1,v2,v3,v4,v5,v6,v7] T (0,0)):=az h6 v7;exact h7
def CH : Option Vx → Array Value
 | none => #[.string ⟨#[]⟩,.int .i64 0,.string ⟨#[]⟩,.string ⟨#[]⟩,.bool false,.string ⟨#[]⟩,.bool false,.slice none 0 0]
 | some x => #[.string x.v.n,.int .i64 x.v.c,.string x.v.z,.string x.v.k,.bool x.v.x,.string x.v.m,.bool x.v.y,.slice x.a x.len x.cap]
def BI (w w5 : World) (h : Nat) (pre : List Vx) (W : World) : Prop :=
 (W.heap[h]? = some (.cells (CH (eJ pre)) 118 (0,0)) ∧ W.heap[h + 1]? = some (.cells #[.bool (eJ pre).isSome] 4 (0,0))) ∧ KpB h w5.heap.size w5 W ∧ Below w.heap.size w W
theorem BI.own (w w5 : World) (h : Nat) (hh : h + 1 < w5.heap.size) (hw : w.heap.size ≤ w5.heap.size) : OwnFrom w5.heap.size (BI w w5 h):=by
 intro s A B row hs hg hr;obtain ⟨⟨h1,h2⟩,h3,h4⟩:=hs;have hk : ∀ k,k < w5.heap.size → B.heap[k]? = A.heap[k]?:=fun k hk => hg.block k (Nat.lt_of_lt_of_le hk h3.1) (fun e => by have:=(hr k e.symm).1;omega);exact ⟨⟨(hk h af).trans h1,(hk (h + 1) hh).trans h2⟩,⟨Nat.le_trans h3.1 hg.size,fun k q1 q2 q3 => (hk k q1).trans (h3.2 k q1 q2 q3)⟩,h4.trans ⟨hg.os,hg.tape,hg.output,hg.size,fun k q => hk k af⟩⟩
theorem BI.below {w w5 W W' : World} {h : Nat} {pre : List Vx} (hi : BI w w5 h pre W) (hh : h + 1 < w5.heap.size) (hw : w.heap.size ≤ w5.heap.size) (hb : Below W.heap.size W W') : BI w w5 h pre W' :=
 BI.own w w5 h hh hw pre W W' none hi (bI hb) (fun r e => by cases e)
theorem nW {B : Nat} {W W' : World} (hb : Below W.heap.size W W') : KeepsFrom B W W':=(KeepsOthers.of_grownBy (bI hb) (fun j o h => by cases h)).from B
theorem BI.put {w w5 W : World} {h : Nat} {pre : List Vx} {x : Vx} (hi : BI w w5 h pre W) (hw : w.heap.size ≤ h) (hs : stepX (eJ pre) x = some x) : BI w w5 h (pre ++ [x]) (((((((((W.setCell ⟨h,0,none⟩ (.string x.v.n)).setCell ⟨h,1,none⟩ (.int .i64 x.v.c)).setCell ⟨h,2,none⟩ (.string x.v.z)).setCell ⟨h,3,none⟩ (.string x.v.k)).setCell ⟨h,4,none⟩ (.bool x.v.x)).setCell ⟨h,5,none⟩ (.string x.v.m)).setCell ⟨h,6,none⟩ (.bool x.v.y)).setCell ⟨h,7,none⟩ (.slice x.a x.len x.cap)).setCell ⟨h + 1,0,none⟩ (.bool true)):=by
 obtain ⟨⟨h1,h2⟩,h3,h4⟩:=hi;have e : eJ (pre ++ [x]) = some x:=by rw [jw];exact hs
 unfold BI;rw [e];have h1' : ∃ u0 u1 u2 u3 u4 u5 u6 u7,W.heap[h]? = some (.cells #[u0,u1,u2,u3,u4,u5,u6,u7] 118 (0,0)):=by
  cases hb : eJ pre with
  | none => rw [hb] at h1;exact ⟨_,_,_,_,_,_,_,_,h1⟩
  | some u => rw [hb] at h1;exact ⟨_,_,_,_,_,_,_,_,h1⟩
 obtain ⟨u0,u1,u2,u3,u4,u5,u6,u7,h1'⟩:=h1';refine ⟨⟨(Below.heap_setCell _ _ _ _ (show h ≠ h + 1 by omega)).trans (CY h1'),?_⟩,⟨by simpa [World.setCell] using h3.1,fun k q1 q2 q3 => ?_⟩,?_⟩
 ·have h2' : ((((((((W.setCell ⟨h,0,none⟩ (.string x.v.n)).setCell ⟨h,1,none⟩ (.int .i64 x.v.c)).setCell ⟨h,2,none⟩ (.string x.v.z)).setCell ⟨h,3,none⟩ (.string x.v.k)).setCell ⟨h,4,none⟩ (.bool x.v.x)).setCell ⟨h,5,none⟩ (.string x.v.m)).setCell ⟨h,6,none⟩ (.bool x.v.y)).setCell ⟨h,7,none⟩ (.slice x.a x.len x.cap)).heap[h + 1]? = W.heap[h + 1]?:=by
   rw [Below.heap_setCell _ _ _ _ (show h + 1 ≠ h by omega),Below.heap_setCell _ _ _ _ (show h + 1 ≠ h by omega),Below.heap_setCell _ _ _ _ (show h + 1 ≠ h by omega),Below.heap_setCell _ _ _ _ (show h + 1 ≠ h by omega),Below.heap_setCell _ _ _ _ (show h + 1 ≠ h by omega),Below.heap_setCell _ _ _ _ (show h + 1 ≠ h by omega),Below.heap_setCell _ _ _ _ (show h + 1 ≠ h by omega),Below.heap_setCell _ _ _ _ (show h + 1 ≠ h by omega)]
  exact az (h2'.trans h2) _
 ·rw [Below.heap_setCell _ _ _ _ (show k ≠ h + 1 by omega),Below.heap_setCell _ _ _ _ (show k ≠ h by omega),Below.heap_setCell _ _ _ _ (show k ≠ h by omega),Below.heap_setCell _ _ _ _ (show k ≠ h by omega),Below.heap_setCell _ _ _ _ (show k ≠ h by omega),Below.heap_setCell _ _ _ _ (show k ≠ h by omega),Below.heap_setCell _ _ _ _ (show k ≠ h by omega),Below.heap_setCell _ _ _ _ (show k ≠ h by omega),Below.heap_setCell _ _ _ _ (show k ≠ h by omega)];exact h3.2 k q1 q2 q3
 ·exact ag af (ag hw (ag hw (ag hw (ag hw (ag hw (ag hw (ag hw (ag hw h4))))))))
theorem BI.kp {W : World} {h n₀ : Nat} {x : Vx} : KpB h n₀ W (((((((((W.setCell ⟨h,0,none⟩ (.string x.v.n)).setCell ⟨h,1,none⟩ (.int .i64 x.v.c)).setCell ⟨h,2,none⟩ (.string x.v.z)).setCell ⟨h,3,none⟩ (.string x.v.k)).setCell ⟨h,4,none⟩ (.bool x.v.x)).setCell ⟨h,5,none⟩ (.string x.v.m)).setCell ⟨h,6,none⟩ (.bool x.v.y)).setCell ⟨h,7,none⟩ (.slice x.a x.len x.cap)).setCell ⟨h + 1,0,none⟩ (.bool true)):=by
 refine ⟨by simp [World.setCell],fun k q1 q2 q3 => ?_⟩;rw [Below.heap_setCell _ _ _ _ (show k ≠ h + 1 by omega),Below.heap_setCell _ _ _ _ (show k ≠ h by omega),Below.heap_setCell _ _ _ _ (show k ≠ h by omega),Below.heap_setCell _ _ _ _ (show k ≠ h by omega),Below.heap_setCell _ _ _ _ (show k ≠ h by omega),Below.heap_setCell _ _ _ _ (show k ≠ h by omega),Below.heap_setCell _ _ _ _ (show k ≠ h by omega),Below.heap_setCell _ _ _ _ (show k ≠ h by omega),Below.heap_setCell _ _ _ _ (show k ≠ h by omega)]
theorem BI.kf {W : World} {h B : Nat} {x : Vx} : KeepsFrom B W (((((((((W.setCell ⟨h,0,none⟩ (.string x.v.n)).setCell ⟨h,1,none⟩ (.int .i64 x.v.c)).setCell ⟨h,2,none⟩ (.string x.v.z)).setCell ⟨h,3,none⟩ (.string x.v.k)).setCell ⟨h,4,none⟩ (.bool x.v.x)).setCell ⟨h,5,none⟩ (.string x.v.m)).setCell ⟨h,6,none⟩ (.bool x.v.y)).setCell ⟨h,7,none⟩ (.slice x.a x.len x.cap)).setCell ⟨h + 1,0,none⟩ (.bool true)) :=
 ((((((((((KeepsOthers.setCell W ⟨h,0,none⟩ _).trans (KeepsOthers.setCell _ ⟨h,1,none⟩ _)).trans (KeepsOthers.setCell _ ⟨h,2,none⟩ _)).trans (KeepsOthers.setCell _ ⟨h,3,none⟩ _)).trans (KeepsOthers.setCell _ ⟨h,4,none⟩ _)).trans (KeepsOthers.setCell _ ⟨h,5,none⟩ _)).trans (KeepsOthers.setCell _ ⟨h,6,none⟩ _)).trans (KeepsOthers.setCell _ ⟨h,7,none⟩ _)).trans (KeepsOthers.setCell _ ⟨h + 1,0,none⟩ _)).from B)

theorem dI {w : World} {b k : Nat} {v0 v1 v2 v3 v4 v5 v6 v7 v8 : Value} (h : ¬ k = b) : (((((((((w.setCell ⟨b,0,none⟩ v0).setCell ⟨b,1,none⟩ v1).setCell ⟨b,2,none⟩ v2).setCell ⟨b,3,none⟩ v3).setCell ⟨b,4,none⟩ v4).setCell ⟨b,5,none⟩ v5).setCell ⟨b,6,none⟩ v6).setCell ⟨b,7,none⟩ v7).setCell ⟨b,8,none⟩ v8).heap[k]? = w.heap[k]?:=by
 rw [Below.heap_setCell _ _ _ _ h,Below.heap_setCell _ _ _ _ h,Below.heap_setCell _ _ _ _ h,Below.heap_setCell _ _ _ _ h,Below.heap_setCell _ _ _ _ h,Below.heap_setCell _ _ _ _ h,Below.heap_setCell _ _ _ _ h,Below.heap_setCell _ _ _ _ h,Below.heap_setCell _ _ _ _ h]
theorem zg {zs : List ByteArray} {w X : World} {a : Option Addr} {l p D : Nat} {o : Obj} (h : Ap.bJ zs w a l p X) (hK : X.heap[D]? = some (.deferred (some []))) (hD : w.heap.size ≤ D) : Ap.bJ zs w a l p (X.putObj D o):=by
 obtain ⟨⟨h1,h2,h3,h4,h5⟩,h6,h7⟩:=h;have hb : Below w.heap.size w (X.putObj D o):=h7.trans (belowK_b (w:=w) (Nat.le_refl _) X D _ _ hD hK rfl rfl);rcases h6 with h6 | ⟨g,cur,rfl,hg,hh⟩
 ·exact ⟨⟨h1,h2,h3,h4,.inl h6⟩,.inl h6,hb⟩
 ·have hne : g ≠ D:=fun e => by subst e;rw [hh] at hK;cases hK
  have hs : (X.putObj D o).heap[g]? = X.heap[g]?:=World.putObj_heap_other hne;refine ⟨⟨h1,h2,h3,h4,?_⟩,.inr ⟨g,cur,rfl,hg,hs.trans hh⟩,hb⟩;rcases h5 with h5 | ⟨g',q,e,hl,hc⟩
  ·exact .inl h5
  ·cases e;exact .inr ⟨g,0,rfl,by simpa using hl,fun j x hx => by have:=hc j x hx;simp only [World.cell?,hs] at this ⊢;exact this⟩

theorem ob (a : Option Addr) (len cap : Nat) (vs : List Vd) (n' : ByteArray) (c' : Int) (k' : ByteArray) (x' : Bool) (v' : ByteArray) (t : ByteArray) (w : World) (hn' : n'.size ≤ 9223372036854775807) (hk' : k'.size ≤ 9223372036854775807) (hv' : v'.size ≤ 9223372036854775807) (ht : t.size ≤ 9223372036854775807) (hr : dV w a len cap vs) (hl : ¬ (400 < vs.length ∨ 8000 < t.size)) (hR : ir vs n' c' k' v' t) :
  Calls Tryz.prog 172 #[.slice a len cap,.agg #[.string n',.int .i64 c',.string k',.bool x',.string v'],.string t] w (dx vs n' c' k' x' v' t w):=by
 have HR:=ae hr;have hvl : vs.length = len:=hr.1;have hl4 : ¬ 400 < len:=aaa
 have hl8 : ¬ 8000 < t.size:=aaa
 have HRR:=ae hR;have HL:=ae hl;clear hr hR hl;refine (callsIn_wide (n:=6)).1 ?_;refine callsIn_of_wp_marks Tryz.func172 rfl trivial ?_ rfl;simp only [Tryz.ntmps172,List.size_toArray,List.length_cons,List.length_nil,Nat.reduceAdd,Nat.reduceSub,Array.replicate_succ,Array.replicate_zero,List.push_toArray,List.append_toArray,List.nil_append,List.cons_append];refine wpIn_wide.2 ?_;go_wp2_with fail;refine (fW t _ hl8).mono ?_;rintro e w1 ⟨rfl,rfl⟩;go_wp2_with fail;refine (ee n' c' k' x' v' _ hn' hk' hv').mono ?_;rintro e w1 ⟨r,rfl,hr,hb⟩;obtain rfl : r = true:=hr.2 HRR.out.1;obtain ⟨g0,g1⟩:=ug;have HB:=ae ((aF w _ _).trans (hb.mono bF));have HG0:=ae g0;have HG1:=ae g1;clear g0 g1 hb hr;go_wp2_with fail;refine (cy t _ ht).mono ?_;rintro e w2 ⟨r,rfl,hr,rfl⟩;obtain rfl : r = true:=hr.2 HRR.out.2.1;clear hr;go_wp2_with fail;refine (kL a len cap vs _ (HR.out.below HB.out)).mono ?_;rintro e w3 ⟨r,rfl,hr,hb⟩;obtain rfl : r = true:=hr.2 HRR.out.2.2;have HB3:=upB HB hb;have HX0:=upK HG0 hb;have HX1:=upK HG1 hb;clear hr hb HB HG0 HG1;have p2:=aF w3 (.cells #[.string ⟨#[]⟩,.int .i64 0,.string ⟨#[]⟩,.string ⟨#[]⟩,.bool false,.string ⟨#[]⟩,.bool false,.slice none 0 0] 118) (.cells #[.bool false] 4);have g0:=(p2.block _ (aa HX0.out)).trans HX0.out;have d0:=ah g0 0;have d1:=ah g0 1;have d2:=ah g0 2;have d3:=ah g0 3;have d4:=ah g0 4;simp only [List.getElem?_toArray,List.getElem?_cons_succ,List.getElem?_cons_zero] at d0 d1 d2 d3 d4;clear p2 g0;go_wp2_with fail;refine (mD n' c' k' x' v' t _).mono ?_;rintro e w4 ⟨rfl,hh4,hb4⟩;simp only [World.size_alloc] at hh4 ⊢;clear d0 d1 d2 d3 d4;have p2:=aF w3 (.cells #[.string ⟨#[]⟩,.int .i64 0,.string ⟨#[]⟩,.string ⟨#[]⟩,.bool false,.string ⟨#[]⟩,.bool false,.slice none 0 0] 118) (.cells #[.bool false] 4);have G7:=ae ((hb4.block w3.heap.size bF).trans (cK _ _ _));have G8:=ae ((hb4.block (w3.heap.size + 1) aN).trans (bK _ _ _));have hb34 : Below w3.heap.size w3 w4:=p2.trans (hb4.mono bF);have HB4:=upB HB3 hb34;have HX4:=upK HX1 hb34;have HH4:=ae hh4;have h34 : w3.heap.size + 1 + 1 ≤ w4.heap.size:=by have:=hb4.size;simp at this;omega
 have HZ4:=ae (aa hh4.2);clear p2 hb4 hh4 hb34 HX0;go_wp2_with fail;refine (qb a len cap _ _ _ rfl _).mono ?_;rintro e w5 ⟨rfl,hl5,hf5,hb5⟩;have G7':=ae ((hb5.block _ (aa G7.out)).trans G7.out);have G8':=ae ((hb5.block _ (aa G8.out)).trans G8.out);have HX5:=upK HX4 hb5;have HB5:=upB HB4 hb5;have HH5:=ae (HH4.out.below hb5);have HL5:=ae hl5;have HF5:=ae hf5;have h45 : w4.heap.size + 1 + 1 ≤ w5.heap.size:=by have:=aa hf5;omega
 have hw3 : w.heap.size + 1 < w3.heap.size:=aa HX1.out;clear hl5 hf5 hb5 G7 G8 HX4 HB4 HH4 HX1;obtain ⟨xl,b,o,hxv,hxl,hab,hcell⟩:=(HR.out).xs;have HXV:=ae hxv;obtain ⟨bb,hbb,hba,hbc⟩ : ∃ bb,bb < w3.heap.size ∧ (xl = [] ∨ a = some ⟨bb,o,none⟩) ∧ ∀ (j : Nat) x,xl[j]? = some x → ay w x.a x.len x.cap x.v.zs ∧ w5.cell? ⟨bb,o + j * 8,none⟩ = some (.string x.v.n) ∧ w5.cell? ⟨bb,o + j * 8 + 1,none⟩ = some (.int .i64 x.v.c) ∧ w5.cell? ⟨bb,o + j * 8 + 2,none⟩ = some (.string x.v.z) ∧ w5.cell? ⟨bb,o + j * 8 + 3,none⟩ = some (.string x.v.k) ∧
   w5.cell? ⟨bb,o + j * 8 + 4,none⟩ = some (.bool x.v.x) ∧ w5.cell? ⟨bb,o + j * 8 + 5,none⟩ = some (.string x.v.m) ∧ w5.cell? ⟨bb,o + j * 8 + 6,none⟩ = some (.bool x.v.y) ∧ w5.cell? ⟨bb,o + j * 8 + 7,none⟩ = some (.slice x.a x.len x.cap):=by
  rcases hab with h | ⟨h,hlt⟩
  ·exact ⟨w.heap.size,by omega,.inl h,fun j x hx => by simp [h] at hx⟩
  ·refine ⟨b,by omega,.inr h,fun j x hx => ?_⟩;obtain ⟨q,q0,q1,q2,q3,q4,q5,q6,q7⟩:=hcell j x hx;exact ⟨q,(ak HB5.out hlt).trans q0,(ak HB5.out hlt).trans q1,(ak HB5.out hlt).trans q2,(ak HB5.out hlt).trans q3,(ak HB5.out hlt).trans q4,(ak HB5.out hlt).trans q5,(ak HB5.out hlt).trans q6,(ak HB5.out hlt).trans q7⟩
 have HTX:=ae (fun (j : Nat) x hx => (hbc j x hx).1);have HIT : Hid (yN w5 a w3.heap.size w4.heap.size (w4.heap.size + 1) (w3.heap.size + 1 + 1) (w3.heap.size + 1 + 1 + 1) bb o len cap xl n' c' k' x' v' t) :=
  ⟨HL5.out,HF5.out,HH5.out,hxl,hba,by omega,⟨by omega,by omega,by omega,by omega,by omega,by omega,by omega,by omega,by omega,by omega⟩,fun j x hx => (hbc j x hx).2⟩
 have hz4 : w3.heap.size + 1 + 1 + 1 < w4.heap.size:=HZ4.out;clear hxv hcell hab hba hbc;go_wp2_with fail;rename_i K0 hK0;refine (wpIn_wide (n:=6)).1 ?_;refine wpIn_rangeFunc_ownH rfl af (gf:=198) (lb:=#[.pointer (some ⟨w4.heap.size,0,none⟩),.pointer (some ⟨w4.heap.size + 1,0,none⟩)]) rfl trivial (enters_of Tryz.func198 av rfl)
  (qd (6 - 1) af a w3.heap.size w4.heap.size (w4.heap.size + 1) (w3.heap.size + 1 + 1) (w3.heap.size + 1 + 1 + 1) bb o len cap w5.heap.size xl n' c' k' x' v' t w5 af HIT.out rfl ⟨by omega,by omega,by omega,by omega,by omega⟩)
  KpB.trans (KpB.put (Nat.le_refl _)) (Below.refl _ _) (fun _ => rfl)
  (BI w w5 w3.heap.size) (fun _ _ _ => False) (BI.own w w5 w3.heap.size af af) (fun _ _ _ _ _ hs _ _ => hs)
  ⟨⟨G7'.out,G8'.out⟩,KpB.refl _ _ _,HB5.out⟩
  (fun x a' W => ∃ Bx,w5.heap.size ≤ Bx ∧ W.heap[Bx]? = some (.cells #[.string x.v.n,.int .i64 x.v.c,.string x.v.z,.string x.v.k,.bool x.v.x,.string x.v.m,.bool x.v.y,.slice x.a x.len x.cap] 118 (0,0)) ∧ a' = { tmps:=#[.slice a len cap,.agg #[.string n',.int .i64 c',.string k',.bool x',.string v'],.string t,undef,.pointer (some ⟨w.heap.size,0,none⟩),undef,.pointer (some ⟨w.heap.size + 1,0,none⟩),.pointer (some ⟨w3.heap.size,0,none⟩),.pointer (some ⟨w3.heap.size + 1,0,none⟩),.pointer (some ⟨Bx,0,none⟩),.slice a len cap,.int .i64 len,.bool (decide (400 < (len : Int))),.bool (decide (400 < (len : Int))),.string t,.bool false,.bool (decide (400 < (len : Int))),undef,.agg #[.string n',.int .i64 c',.string k',.bool x',.string v'],.bool true,.bool false,.bool false,.string t,.bool true,.bool false,.bool false,.bool false,.slice a len cap,.bool true,.bool false,.bool false,undef,.slice a len cap,.agg #[.string n',.int .i64 c',.string k',.bool x',.string v'],.string t,.func (.func 199) #[] #[.pointer (some ⟨w3.heap.size + 1 + 1,0,none⟩),.pointer (some ⟨w3.heap.size + 1 + 1 + 1,0,none⟩)],.func (.func 198) #[] #[.pointer (some ⟨w4.heap.size,0,none⟩),.pointer (some ⟨w4.heap.size + 1,0,none⟩)],x.val,undef,undef,undef,undef,undef,undef,undef,undef,undef,undef,undef,undef,undef,undef],defers:=[] })
  (fun x a' _ X Y row hs hg hr => by
   obtain ⟨Bx,h1,h2,h3⟩:=hs;refine ⟨Bx,h1,(hg.block Bx (aa h2) (fun e => ?_)).trans h2,h3⟩;obtain ⟨-,o,ho,hc⟩:=hr Bx e.symm;rw [h2] at ho
   cases ho
   simp [Obj.isCells] at hc)
  ?assign ?body ?done ?stop
 case assign =>
  rintro l pre x W K hi hK;dsimp only [Vx.val];gi_wp2;refine hK _ _ ((KeepsOthers.alloc _ _).from _) (KpB.below (an _ _) hi.2.1.1) (hi.below af af (an _ _)) ⟨W.heap.size,hi.2.1.1,Array.getElem?_push_size,rfl⟩
 case body =>
  rintro l pre x a' W hl ⟨r,hr⟩ hi ⟨Bx,hBx,bX,rfl⟩ hlt;clear hlt hr;have HI:=ae hi;have hww : w.heap.size ≤ w3.heap.size:=aaa
  cases hbx : eJ pre with
  | none =>
   obtain ⟨⟨q7,q8⟩,-,-⟩:=hi;rw [hbx] at q7 q8;have q7' : W.heap[w3.heap.size]? = some (.cells #[.string ⟨#[]⟩,.int .i64 0,.string ⟨#[]⟩,.string ⟨#[]⟩,.bool false,.string ⟨#[]⟩,.bool false,.slice none 0 0] 118 (0,0)):=q7;have q8' : W.heap[w3.heap.size + 1]? = some (.cells #[.bool false] 4 (0,0)):=q8;have m0 : W.cell? ⟨w3.heap.size,0,none⟩ = some (.string ⟨#[]⟩):=ah q7' 0;have mf0:=au q7' 0;have m1 : W.cell? ⟨w3.heap.size,1,none⟩ = some (.int .i64 0):=ah q7' 1;have mf1:=au q7' 1;have m2 : W.cell? ⟨w3.heap.size,2,none⟩ = some (.string ⟨#[]⟩):=ah q7' 2;have mf2:=au q7' 2;have m3 : W.cell? ⟨w3.heap.size,3,none⟩ = some (.string ⟨#[]⟩):=ah q7' 3;have mf3:=au q7' 3;have m4 : W.cell? ⟨w3.heap.size,4,none⟩ = some (.bool false):=ah q7' 4;have mf4:=au q7' 4;have m5 : W.cell? ⟨w3.heap.size,5,none⟩ = some (.string ⟨#[]⟩):=ah q7' 5;have mf5:=au q7' 5;have m6 : W.cell? ⟨w3.heap.size,6,none⟩ = some (.bool false):=ah q7' 6;have mf6:=au q7' 6;have m7 : W.cell? ⟨w3.heap.size,7,none⟩ = some (.slice none 0 0):=ah q7' 7;have mf7:=au q7' 7;have f0 : W.cell? ⟨w3.heap.size + 1,0,none⟩ = some (.bool false):=ah q8' 0;have ff0:=au q8' 0;have y0 : W.cell? ⟨Bx,0,none⟩ = some (.string x.v.n):=ah bX 0;have y1 : W.cell? ⟨Bx,1,none⟩ = some (.int .i64 x.v.c):=ah bX 1;have y2 : W.cell? ⟨Bx,2,none⟩ = some (.string x.v.z):=ah bX 2;have y3 : W.cell? ⟨Bx,3,none⟩ = some (.string x.v.k):=ah bX 3;have y4 : W.cell? ⟨Bx,4,none⟩ = some (.bool x.v.x):=ah bX 4;have y5 : W.cell? ⟨Bx,5,none⟩ = some (.string x.v.m):=ah bX 5;have y6 : W.cell? ⟨Bx,6,none⟩ = some (.bool x.v.y):=ah bX 6;have y7 : W.cell? ⟨Bx,7,none⟩ = some (.slice x.a x.len x.cap):=ah bX 7;have HP:=ae (HI.out.put (x:=x) hww (by rw [hbx];rfl));clear q7 q8 q7' q8' bX hbx
   gi_wp2
   refine ⟨trivial,?_⟩
   gi_wp2
   exact ⟨BI.kf,BI.kp,HP.out⟩
  | some u =>
   obtain ⟨⟨q7,q8⟩,-,-⟩:=hi;rw [hbx] at q7 q8;have q7' : W.heap[w3.heap.size]? = some (.cells #[.string u.v.n,.int .i64 u.v.c,.string u.v.z,.string u.v.k,.bool u.v.x,.string u.v.m,.bool u.v.y,.slice u.a u.len u.cap] 118 (0,0)):=q7;have q8' : W.heap[w3.heap.size + 1]? = some (.cells #[.bool true] 4 (0,0)):=q8;have m0 : W.cell? ⟨w3.heap.size,0,none⟩ = some (.string u.v.n):=ah q7' 0;have mf0:=au q7' 0;have m1 : W.cell? ⟨w3.heap.size,1,none⟩ = some (.int .i64 u.v.c):=ah q7' 1;have mf1:=au q7' 1;have m2 : W.cell? ⟨w3.heap.size,2,none⟩ = some (.string u.v.z):=ah q7' 2;have mf2:=au q7' 2;have m3 : W.cell? ⟨w3.heap.size,3,none⟩ = some (.string u.v.k):=ah q7' 3;have mf3:=au q7' 3;have m4 : W.cell? ⟨w3.heap.size,4,none⟩ = some (.bool u.v.x):=ah q7' 4;have mf4:=au q7' 4;have m5 : W.cell? ⟨w3.heap.size,5,none⟩ = some (.string u.v.m):=ah q7' 5;have mf5:=au q7' 5;have m6 : W.cell? ⟨w3.heap.size,6,none⟩ = some (.bool u.v.y):=ah q7' 6;have mf6:=au q7' 6;have m7 : W.cell? ⟨w3.heap.size,7,none⟩ = some (.slice u.a u.len u.cap):=ah q7' 7;have mf7:=au q7' 7;have f0 : W.cell? ⟨w3.heap.size + 1,0,none⟩ = some (.bool true):=ah q8' 0;have ff0:=au q8' 0;have y0 : W.cell? ⟨Bx,0,none⟩ = some (.string x.v.n):=ah bX 0;have y1 : W.cell? ⟨Bx,1,none⟩ = some (.int .i64 x.v.c):=ah bX 1;have y2 : W.cell? ⟨Bx,2,none⟩ = some (.string x.v.z):=ah bX 2;have y3 : W.cell? ⟨Bx,3,none⟩ = some (.string x.v.k):=ah bX 3;have y4 : W.cell? ⟨Bx,4,none⟩ = some (.bool x.v.x):=ah bX 4;have y5 : W.cell? ⟨Bx,5,none⟩ = some (.string x.v.m):=ah bX 5;have y6 : W.cell? ⟨Bx,6,none⟩ = some (.bool x.v.y):=ah bX 6;have y7 : W.cell? ⟨Bx,7,none⟩ = some (.slice x.a x.len x.cap):=ah bX 7;clear q7 q8
   gi_wp2_with fail
   refine ⟨trivial,(CallsIn.inRound l (callsIn_wide.2 (qS x.v u.v x.a u.a x.len x.cap u.len u.cap _))).mono ?_⟩;rintro e W2 ⟨rfl,hb2⟩;have hi2:=HI.out.below af af hb2;have HI2:=ae hi2;have HKF:=ae (nW (B:=w5.heap.size) hb2);have HKP:=ae (KpB.below (h:=w3.heap.size) hb2 HI.out.2.1.1);have z7:=(hb2.block _ (aa q7')).trans q7';have z8:=(hb2.block _ (aa q8')).trans q8';have zX:=(hb2.block _ (aa bX)).trans bX;clear hi2 m0 mf0 y0 m1 mf1 y1 m2 mf2 y2 m3 mf3 y3 m4 mf4 y4 m5 mf5 y5 m6 mf6 y6 m7 mf7 y7 f0 ff0;have m0 : W2.cell? ⟨w3.heap.size,0,none⟩ = some (.string u.v.n):=ah z7 0;have mf0:=au z7 0;have m1 : W2.cell? ⟨w3.heap.size,1,none⟩ = some (.int .i64 u.v.c):=ah z7 1;have mf1:=au z7 1;have m2 : W2.cell? ⟨w3.heap.size,2,none⟩ = some (.string u.v.z):=ah z7 2;have mf2:=au z7 2;have m3 : W2.cell? ⟨w3.heap.size,3,none⟩ = some (.string u.v.k):=ah z7 3;have mf3:=au z7 3;have m4 : W2.cell? ⟨w3.heap.size,4,none⟩ = some (.bool u.v.x):=ah z7 4;have mf4:=au z7 4;have m5 : W2.cell? ⟨w3.heap.size,5,none⟩ = some (.string u.v.m):=ah z7 5;have mf5:=au z7 5;have m6 : W2.cell? ⟨w3.heap.size,6,none⟩ = some (.bool u.v.y):=ah z7 6;have mf6:=au z7 6;have m7 : W2.cell? ⟨w3.heap.size,7,none⟩ = some (.slice u.a u.len u.cap):=ah z7 7;have mf7:=au z7 7;have f0 : W2.cell? ⟨w3.heap.size + 1,0,none⟩ = some (.bool true):=ah z8 0;have ff0:=au z8 0;have y0 : W2.cell? ⟨Bx,0,none⟩ = some (.string x.v.n):=ah zX 0;have y1 : W2.cell? ⟨Bx,1,none⟩ = some (.int .i64 x.v.c):=ah zX 1;have y2 : W2.cell? ⟨Bx,2,none⟩ = some (.string x.v.z):=ah zX 2;have y3 : W2.cell? ⟨Bx,3,none⟩ = some (.string x.v.k):=ah zX 3;have y4 : W2.cell? ⟨Bx,4,none⟩ = some (.bool x.v.x):=ah zX 4;have y5 : W2.cell? ⟨Bx,5,none⟩ = some (.string x.v.m):=ah zX 5
   have y6 : W2.cell? ⟨Bx,6,none⟩ = some (.bool x.v.y):=ah zX 6;have y7 : W2.cell? ⟨Bx,7,none⟩ = some (.slice x.a x.len x.cap):=ah zX 7;clear hb2 z7 z8 zX q7' q8' bX
   cases hbe : ey x.v u.v
   ·have HP : Hid (BI w w5 w3.heap.size (pre ++ [x]) W2):=by
     have h9:=HI2.out
     show BI w w5 w3.heap.size (pre ++ [x]) W2
     unfold BI at h9 ⊢;rw [jw,hbx];rw [hbx] at h9
     simpa [stepX,hbe] using h9
    clear hbe hbx
    gi_wp2
    exact ⟨HKF.out,HKP.out,HP.out⟩
   ·have HP:=ae (HI2.out.put (x:=x) hww (by rw [hbx];simp [stepX,hbe]));clear hbe hbx
    gi_wp2
    exact ⟨HKF.out.trans BI.kf,HKP.out.trans BI.kp,HP.out⟩
 case stop =>
  rintro D c pre W _ _ h _;exact h.elim
 case done =>
  rintro D ys W hD rfl hi hK;have hput : ∀ (X : World) (o : Obj) (q : Nat),(X.putObj D o).cell? ⟨w.heap.size + 1,q,none⟩ = X.cell? ⟨w.heap.size + 1,q,none⟩:=fun X o q => by
   simp only [World.cell?];rw [World.putObj_heap_other (show w.heap.size + 1 ≠ D by omega)]
  have hsame:=sW (svV c' k' x' t) xl;rw [HXV.out] at hsame;have go:=(hi.2.1.2 (w.heap.size + 1) af af af).trans HX5.out;have HI:=ae hi;have HKD:=ae hK;have hwW:=hi.2.2.size;obtain ⟨⟨q7,q8⟩,-,-⟩:=hi;refine hK0 _ _ ?_;clear hK0 hK;cases hbx : eJ (xl.filter fun x => svV c' k' x' t x.v) with
  | none =>
   rw [hbx] at q8 hsame;have q8' : W.heap[w3.heap.size + 1]? = some (.cells #[.bool false] 4 (0,0)):=q8;have f0 : W.cell? ⟨w3.heap.size + 1,0,none⟩ = some (.bool false):=ah q8' 0;have HN : Hid (cJ (svV c' k' x' t) vs = none):=hsame.symm;have r0 : W.cell? ⟨w.heap.size + 1,0,none⟩ = some (.string ⟨#[]⟩):=ah go 0;have rf0:=au go 0;have r1 : W.cell? ⟨w.heap.size + 1,1,none⟩ = some (.int .i64 0):=ah go 1;have rf1:=au go 1;have r2 : W.cell? ⟨w.heap.size + 1,2,none⟩ = some (.string ⟨#[]⟩):=ah go 2;have rf2:=au go 2;have r3 : W.cell? ⟨w.heap.size + 1,3,none⟩ = some (.string ⟨#[]⟩):=ah go 3;have rf3:=au go 3;have r4 : W.cell? ⟨w.heap.size + 1,4,none⟩ = some (.bool false):=ah go 4;have rf4:=au go 4;have r5 : W.cell? ⟨w.heap.size + 1,5,none⟩ = some (.string ⟨#[]⟩):=ah go 5;have rf5:=au go 5;have r6 : W.cell? ⟨w.heap.size + 1,6,none⟩ = some (.bool false):=ah go 6;have rf6:=au go 6;have r7 : W.cell? ⟨w.heap.size + 1,7,none⟩ = some (.slice none 0 0):=ah go 7;have rf7:=au go 7;have r8 : W.cell? ⟨w.heap.size + 1,8,none⟩ = some (.int .i64 0):=ah go 8;have rf8:=au go 8;clear q7 q8 q8' go hbx hsame;go_wp2_with fail;refine ⟨by simp,.inl ⟨_,_,rfl,run_takeDeferred ((dI af).trans HKD.out),?_⟩⟩;refine ⟨.agg #[.string ⟨#[]⟩,.int .i64 0,.string ⟨#[]⟩,.string ⟨#[]⟩,.bool false,.string ⟨#[]⟩,.bool false,.slice none 0 0,.int .i64 6],?_,dx.bad (.inr (.inr (.inl ⟨HL.out,HRR.out,HN.out,rfl,rfl⟩))) ((eB af HI.out.2.2).trans (belowK_b (w:=w) (Nat.le_refl _) _ D _ _ af ((dI af).trans HKD.out) rfl rfl))⟩
   simp [results,Tryz.results172,go_sem, *]
  | some x =>
   rw [hbx] at q7 q8 hsame;have q7' : W.heap[w3.heap.size]? = some (.cells #[.string x.v.n,.int .i64 x.v.c,.string x.v.z,.string x.v.k,.bool x.v.x,.string x.v.m,.bool x.v.y,.slice x.a x.len x.cap] 118 (0,0)):=q7;have q8' : W.heap[w3.heap.size + 1]? = some (.cells #[.bool true] 4 (0,0)):=q8;have f0 : W.cell? ⟨w3.heap.size + 1,0,none⟩ = some (.bool true):=ah q8' 0;have HN : Hid (cJ (svV c' k' x' t) vs = some x.v):=hsame.symm;have y0 : W.cell? ⟨w3.heap.size,0,none⟩ = some (.string x.v.n):=ah q7' 0;have y1 : W.cell? ⟨w3.heap.size,1,none⟩ = some (.int .i64 x.v.c):=ah q7' 1;have y2 : W.cell? ⟨w3.heap.size,2,none⟩ = some (.string x.v.z):=ah q7' 2;have y3 : W.cell? ⟨w3.heap.size,3,none⟩ = some (.string x.v.k):=ah q7' 3;have y4 : W.cell? ⟨w3.heap.size,4,none⟩ = some (.bool x.v.x):=ah q7' 4;have y5 : W.cell? ⟨w3.heap.size,5,none⟩ = some (.string x.v.m):=ah q7' 5;have y6 : W.cell? ⟨w3.heap.size,6,none⟩ = some (.bool x.v.y):=ah q7' 6;have y7 : W.cell? ⟨w3.heap.size,7,none⟩ = some (.slice x.a x.len x.cap):=ah q7' 7
   have hmem : x ∈ xl:=by
    rcases sY _ _ _ hbx with h | h
    ·exact (List.mem_filter.1 h).1
    ·cases h
   obtain ⟨j,hj⟩:=List.getElem?_of_mem hmem;have HT:=ae ((HTX.out j x hj).below HI.out.2.2)
   have hvj : vs[j]? = some x.v:=by rw [← HXV.out,List.getElem?_map,hj];rfl
   have hxl6 : x.len ≤ 8001:=by
    have h6:=sy (HRR.out.2.2.2 j x.v hvj).2.2.2.2.2.2;have:=HT.out.1
    omega
   have HGO:=ae go;clear q7 q8 q7' q8' hbx hsame go hmem hj hvj;go_wp2_with fail;refine (Ap.Db x.v.n x.v.c x.v.z x.v.k x.v.x x.v.m x.v.y x.a x.len x.cap x.v.zs _ HT.out hxl6).mono ?_;rintro e W6 ⟨a',l',p',rfl,z1,z2,hb6⟩;have go:=(hb6.block _ (aa HGO.out)).trans HGO.out;have hDl:=aa HKD.out;have HK6:=ae ((hb6.block _ hDl).trans HKD.out);have HQ : Hid (ay W6 a' l' p' x.v.zs ∧ (x.v.zs = [] ∨ ∃ g cur,a' = some ⟨g,0,none⟩ ∧ W.heap.size ≤ g ∧ W6.heap[g]? = some (.cells cur 9 (0,0))) ∧ Below w.heap.size w W6):=⟨z1,z2,HI.out.2.2.trans (hb6.mono HI.out.2.2.size)⟩;have hol : w.heap.size + 1 < W.heap.size:=aa HGO.out;have r0 : W6.cell? ⟨w.heap.size + 1,0,none⟩ = some (.string ⟨#[]⟩):=ah go 0;have rf0:=au go 0;have r1 : W6.cell? ⟨w.heap.size + 1,1,none⟩ = some (.int .i64 0):=ah go 1;have rf1:=au go 1;have r2 : W6.cell? ⟨w.heap.size + 1,2,none⟩ = some (.string ⟨#[]⟩):=ah go 2;have rf2:=au go 2;have r3 : W6.cell? ⟨w.heap.size + 1,3,none⟩ = some (.string ⟨#[]⟩):=ah go 3;have rf3:=au go 3;have r4 : W6.cell? ⟨w.heap.size + 1,4,none⟩ = some (.bool false):=ah go 4;have rf4:=au go 4;have r5 : W6.cell? ⟨w.heap.size + 1,5,none⟩ = some (.string ⟨#[]⟩):=ah go 5;have rf5:=au go 5;have r6 : W6.cell? ⟨w.heap.size + 1,6,none⟩ = some (.bool false):=ah go 6;have rf6:=au go 6;have r7 : W6.cell? ⟨w.heap.size + 1,7,none⟩ = some (.slice none 0 0):=ah go 7;have rf7:=au go 7;have r8 : W6.cell? ⟨w.heap.size + 1,8,none⟩ = some (.int .i64 0):=ah go 8;have rf8:=au go 8;clear go z1 z2 hb6 y0 y1 y2 y3 y4 y5 y6 y7 f0;go_wp2_with fail;refine ⟨by simp,.inl ⟨_,_,rfl,run_takeDeferred ((dI af).trans HK6.out),?_⟩⟩
   refine ⟨.agg #[.string x.v.n,.int .i64 x.v.c,.string x.v.z,.string x.v.k,.bool x.v.x,.string x.v.m,.bool x.v.y,.slice a' l' p',.int .i64 0],?_,x.v,0,a',l',p',rfl,.inr (.inr (.inr ⟨HL.out,HRR.out,HN.out,rfl⟩)),zg (xP HQ.out af hol) ((dI af).trans HK6.out) af⟩
   simp [results,Tryz.results172,go_sem, *]

theorem sN (a : Option Addr) (len cap : Nat) (vs : List Vd) (n' : ByteArray) (c' : Int) (k' : ByteArray) (x' : Bool) (v' : ByteArray) (t : ByteArray) (w : World) (hn' : n'.size ≤ 9223372036854775807) (hk' : k'.size ≤ 9223372036854775807) (hv' : v'.size ≤ 9223372036854775807) (ht : t.size ≤ 9223372036854775807) (hr : dV w a len cap vs) :
  Calls Tryz.prog 172 #[.slice a len cap,.agg #[.string n',.int .i64 c',.string k',.bool x',.string v'],.string t] w (dx vs n' c' k' x' v' t w):=by
 by_cases h1 : 400 < vs.length ∨ 8000 < t.size
 ·exact kJ a len cap vs n' c' k' x' v' t w hn' hk' hv' ht hr (.inl h1)
 by_cases h2 : ir vs n' c' k' v' t
 ·exact ob a len cap vs n' c' k' x' v' t w hn' hk' hv' ht hr h1 h2
 ·exact kJ a len cap vs n' c' k' x' v' t w hn' hk' hv' ht hr (.inr h2)

end Go.Proofs.YtdoldaceehdifaaGreatDoor

namespace Go.Proofs.YtdoldaceehdifaaGreatDoor
open Go.RowKit
namespace Rc
open Mk

theorem kE (a : Option Addr) (n cap i base vb : Nat) (X ys : List Value) (w : World) (ho : w.ownsRow base 118 8 (.slice a n cap) n X) (hn : n ≤ 8) (hin : i ≤ n) (hbs : base ≤ w.heap.size) (hy : w.heap[vb]? = some (.cells ys.toArray 118 (0,0))) (hyl : ys.length = 8) (hy1 : ∀ u ∈ ys,u.oneCell' = true) (hX1 : ∀ u ∈ X,u.oneCell' = true) (hne : ∀ g,a = some ⟨g,0,none⟩ → ¬ vb = g) :
  Calls Tryz.prog 194 #[.slice a n cap,.int .i64 i,.slice (some ⟨vb,0,none⟩) 1 1] w fun e w' => ∃ v',e = .returned v' ∧ w'.ownsRow base 118 8 v' (n + 1) (X.take (i * 8) ++ ys ++ X.drop (i * 8)) ∧ w.grownBy w' ((.slice a n cap : Value).ownBlock):=by
 obtain ⟨i0,hi,hz0,hz1,hz2⟩:=info_parts fy;have HI0:=ae (And.intro hi (And.intro hz0 (And.intro hz1 hz2)));clear hi hz0 hz1 hz2;have hXl : X.length = n * 8:=ho.1;have hnc : n ≤ cap ∧ cap ≤ 9223372036854775807:=by
  exact aa6
 have hyn : ∀ (j : Nat) u,ys[j]? = some u → w.cell? ((⟨vb,0,none⟩ : Addr).add j) = some u:=fun j u hu => by
  rw [Addr.add_lit,ah hy,Nat.zero_add];simpa using hu
 have HYN:=ae hyn;have HO:=ae ho;have HY:=ae hy;have hvl : vb < w.heap.size:=aa hy;have HX1:=ae hX1;have HY1:=ae hy1;clear hyn ho hy hX1 hy1;by_cases hie : i = n
 ·subst hie;have e1 : X.take (i * 8) ++ ys ++ X.drop (i * 8) = X ++ ys:=abv
  rw [e1];clear e1;have hc0 : i ≤ cap:=hnc.1;have hq : cap = i ∨ ¬ cap = i:=Classical.em _;rcases hq with rfl | hcap
  ·exact acH
  ·exact acH
 have hil : i < n:=aaa
 obtain ⟨g,cur,rfl,hbg,hg,hcs,htk⟩ : ∃ g cur,a = some ⟨g,0,none⟩ ∧ base ≤ g ∧ w.heap[g]? = some (.cells cur 118 (0,0)) ∧ cur.size = cap * 8 ∧ cur.toList.take (n * 8) = X:=by
  exact aaY
 have hvg : ¬ vb = g:=hne g rfl;clear hne;have hcell : ∀ (j : Nat) u,X[j]? = some u → w.cell? ⟨g,j,none⟩ = some u:=fun j u hj => by
  exact aa2
 have hdl : (X.drop (i * 8)).length = (n - i) * 8:=aa1
 have hgl : g < w.heap.size:=aa hg;by_cases hroom : n + 1 ≤ cap
 ·have hcp1 : ∀ ty dc sc,(Builtin.copy_ #[191,191] ty #[.slice (some ⟨g,(i + 1) * 8,none⟩) (n - i) dc,.slice (some ⟨g,i * 8,none⟩) (n + 1 - i) sc]).run Tryz.prog w.drew = .ok (goInt (Nat.min (n + 1 - i) (n - i))) (w.drew.setRow g (cur.toList.take ((i + 1) * 8) ++ X.drop (i * 8) ++ cur.toList.drop ((i + 1) * 8 + (X.drop (i * 8)).length)).toArray):=fun ty dc sc =>
   bg w.drew 191 191 ty 118 g ((i + 1) * 8) (n - i) dc ⟨g,i * 8,none⟩ (n + 1 - i) sc 8 cur 118 (X.drop (i * 8)) i0 Tryz.underlying191 HI0.out.1 HI0.out.2.2.1 hg aak (fun j u hj => by
    rw [List.getElem?_drop] at hj;rw [Addr.add_lit]
    exact hcell _ u hj) (by rw [hdl,hcs];omega) (fun u hu => HX1.out u (List.mem_of_mem_drop hu))
  obtain ⟨cur1,hcur1⟩ : ∃ c1 : List Value,c1 = cur.toList.take ((i + 1) * 8) ++ X.drop (i * 8) ++ cur.toList.drop ((i + 1) * 8 + (X.drop (i * 8)).length):=⟨_,rfl⟩;rw [← hcur1] at hcp1;have hc1l : cur1.length = cap * 8:=by rw [hcur1];simp only [List.length_append,List.length_take,List.length_drop,hXl,Array.length_toList,hcs];omega
  obtain ⟨W1,hW1⟩ : ∃ W1,W1 = w.drew.setRow g cur1.toArray:=⟨_,rfl⟩;rw [← hW1] at hcp1;have hg1 : W1.heap[g]? = some (.cells cur1.toArray 118 (0,0)):=by rw [hW1];exact setRow_heap w.drew g _ _ 118 _ hg
  have hv1 : W1.heap[vb]? = w.heap[vb]?:=by rw [hW1];exact setRow_other w.drew g vb _ hvg
  have hcp2 : ∀ ty dc,(Builtin.copy_ #[191,33] ty #[.slice (some ⟨g,i * 8,none⟩) (n + 1 - i) dc,.slice (some ⟨vb,0,none⟩) 1 1]).run Tryz.prog W1 = .ok (goInt (Nat.min 1 (n + 1 - i))) (W1.setRow g (cur1.take (i * 8) ++ ys ++ cur1.drop (i * 8 + ys.length)).toArray):=fun ty dc => by
   have:=bg W1 191 33 ty 118 g (i * 8) (n + 1 - i) dc ⟨vb,0,none⟩ 1 1 8 cur1.toArray 118 ys i0 Tryz.underlying191 HI0.out.1 HI0.out.2.2.1 hg1 aam (fun j u hj => by
    rw [Addr.add_lit,ah (hv1.trans HY.out),Nat.zero_add]
    simpa using hj) abw HY1.out
   simpa using this
  have hov : ∀ lb cb,(callFunc 204 #[.slice (some ⟨vb,0,none⟩) 1 1,.slice (some ⟨g,(i + 1) * 8,none⟩) lb cb]).run Tryz.prog w = .ok (.value (.bool false)) w:=fun lb cb => by
   rw [run_callFunc_extern Tryz.func204 av av av (e:=Extern.SlicesOverlaps.overlaps #[33,33] #[4]) av,
    Lib.run_overlaps_apart w 33 4 118 Tryz.underlying33 8 (fun w => by kernel_rfl) ⟨vb,0,none⟩ ⟨g,(i + 1) * 8,none⟩ 1 1 lb cb hvg 118 118 ys.toArray.size cur.size (by simp [World.shape?,HY.out]) (by simp [World.shape?,hg]) (Nat.ne_of_gt (by rw [hcs];omega)) (au HY.out _) (au HY.out _)]
   rfl
  obtain ⟨hb2,hb4,hb5,hb6⟩:=aa4;obtain ⟨mixed,hw1,hb1⟩:=aal;obtain ⟨hin,htn,hb3⟩:=aaS;have u0:=run_underlying Tryz.underlying191;have HG:=ae hg;have HG1:=ae hg1;have HW1:=ae hW1;have HC1:=ae hcur1;have HTK:=ae htk;clear hg hg1 hW1 hcur1 htk hv1 hcell hdl hie;go_enter Tryz.func194,Tryz.ntmps194;go_wp2_with (simp only [hov]);go_region_law_o (refine cg rfl _ _ 191 191 rfl _ _ aac aac (hcp1 (3) (cap - (i + 1)) (cap - i)) ?_);go_wp2_with (at_builtin;refine bN _ rfl _ _ 191 33 rfl _ _ rfl rfl (hcp2 _ _) ?_);go_ret;refine ⟨_,rfl,⟨?_,Or.inr ⟨g,cap,(cur1.take (i * 8) ++ (ys ++ cur1.drop (i * 8 + 8))).toArray,rfl,hbg,setRow_heap W1 g _ _ _ _ HG1.out,hroom,by unfold maxLen;omega,?_,?_⟩⟩,?_⟩
  ·exact aaq
  ·exact aaO
  ·have e:=jq (a:=i * 8) (b:=n * 8) (c:=cap * 8) (m:=8) (c1:=cur1) HTK.out (by rw [Array.length_toList,hcs]) af af hyl (by rw [HC1.out,show (i + 1) * 8 = i * 8 + 8 by omega]);rw [show (n + 1) * 8 = n * 8 + 8 by omega];simpa using e
  ·exact aa8
 have hcn : cap = n:=aaa
 subst hcn;obtain ⟨N,hN⟩ : ∃ N,N = w.heap.size:=⟨_,rfl⟩;obtain ⟨G,hG⟩ : ∃ G,G = grownCap w (cap + 1) cap 118:=⟨_,rfl⟩;obtain ⟨ROW,hROW⟩ : ∃ R : Array Value,R = (X.take (i * 8)).toArray ++ Builtin.zeroCells (.agg #[.string ⟨#[]⟩,.int .i64 0,.string ⟨#[]⟩,.string ⟨#[]⟩,.bool false,.string ⟨#[]⟩,.bool false,.slice none 0 0] : Value).cells (cap + 1 - i) ++ Builtin.zeroCells (.agg #[.string ⟨#[]⟩,.int .i64 0,.string ⟨#[]⟩,.string ⟨#[]⟩,.bool false,.string ⟨#[]⟩,.bool false,.slice none 0 0] : Value).cells (G - (cap + 1)):=⟨_,rfl⟩;obtain ⟨W1,hW1⟩ : ∃ W1,W1 = w.drew.alloc (.cells ROW 118):=⟨_,rfl⟩;have hGn : cap + 1 ≤ G:=by rw [hG];exact grownCap_ge w _ _ _
 have hG63 : G ≤ 9223372036854775807:=by
  have:=grownCap_le_maxLen w (cap + 1) cap 118 cd;rw [← hG] at this;unfold maxLen at this;omega
 have hRs : ROW.size = G * 8:=by
  rw [hROW];simp only [Array.size_append,List.size_toArray,List.length_take,size_zeroCells,hXl];rw [show (.agg #[.string ⟨#[]⟩,.int .i64 0,.string ⟨#[]⟩,.string ⟨#[]⟩,.bool false,.string ⟨#[]⟩,.bool false,.slice none 0 0] : Value).cells.size = 8 from rfl];omega
 have hRt : ROW.toList.take (i * 8) = X.take (i * 8):=by
  exact aaR
 have hrz : ∀ ty,(Builtin.append_ #[191,3] ty #[.slice (some ⟨g,0,none⟩) i cap,.int .i64 ((cap : Int) + 1 - (i : Int))]).run Tryz.prog w = .ok (.slice (some ⟨N,0,none⟩) (cap + 1) G) W1:=fun ty => by
  have hold : (Builtin.firstCells i0.size i (.slice (some ⟨g,0,none⟩) i cap)).run Tryz.prog w.drew = .ok (X.take (i * 8)).toArray w.drew:=by
   rw [HI0.out.2.2.1];exact run_firstCells_some w.drew 8 i ⟨g,0,none⟩ i cap (X.take (i * 8)) iS (fun j v hj => by
    rw [Addr.add_lit,Nat.zero_add];rw [List.getElem?_take] at hj
    split at hj
    ·exact hcell j v hj
    ·cases hj)
  have h:=Lib.run_append_grow_zeros w 191 3 ty 118 i0 _ .i64 .i64 Tryz.underlying191 Tryz.underlying3 HI0.out.1 HI0.out.2.1 (some ⟨g,0,none⟩) i cap (X.take (i * 8)) hold (cap + 1 - i) af (by rw [HI0.out.2.2.1];decide) af af (by rw [HI0.out.2.2.2];omega) aa9;exact aaP
 have hgN : W1.heap[N]? = some (.cells ROW 118 (0,0)):=by rw [hW1,hN];exact Go.heap_alloc_new w.drew _
 obtain ⟨hg1,hv1⟩:=abq;obtain ⟨R2,hR2⟩ : ∃ R2 : List Value,R2 = ROW.toList.take (i * 8) ++ ys ++ ROW.toList.drop (i * 8 + ys.length):=⟨_,rfl⟩;obtain ⟨W2,hW2⟩ : ∃ W2,W2 = W1.setRow N R2.toArray:=⟨_,rfl⟩;have hcpA : ∀ ty dc,(Builtin.copy_ #[191,33] ty #[.slice (some ⟨N,i * 8,none⟩) (cap + 1 - i) dc,.slice (some ⟨vb,0,none⟩) 1 1]).run Tryz.prog W1 = .ok (goInt (Nat.min 1 (cap + 1 - i))) W2:=fun ty dc => by
  rw [hW2,hR2];exact bg W1 191 33 ty 118 N (i * 8) (cap + 1 - i) dc ⟨vb,0,none⟩ 1 1 8 ROW 118 ys i0 Tryz.underlying191 HI0.out.1 HI0.out.2.2.1 hgN aam (fun j u hj => by
   rw [Addr.add_lit,ah (hv1.trans HY.out),Nat.zero_add]
   simpa using hj) (by rw [hRs,hyl];omega) HY1.out
 have hR2l : R2.length = G * 8:=by
  exact aaW
 have hgN2 : W2.heap[N]? = some (.cells R2.toArray 118 (0,0)):=by rw [hW2];exact setRow_heap W1 N _ _ 118 _ hgN
 obtain ⟨hgn,hg2⟩:=abd;obtain ⟨R3,hR3⟩ : ∃ R3 : List Value,R3 = R2.take ((i + 1) * 8) ++ X.drop (i * 8) ++ R2.drop ((i + 1) * 8 + (X.drop (i * 8)).length):=⟨_,rfl⟩;obtain ⟨W3,hW3⟩ : ∃ W3,W3 = W2.drew.setRow N R3.toArray:=⟨_,rfl⟩;have hcpB : ∀ ty dc sc,(Builtin.copy_ #[191,191] ty #[.slice (some ⟨N,(i + 1) * 8,none⟩) (cap - i) dc,.slice (some ⟨g,i * 8,none⟩) (cap - i) sc]).run Tryz.prog W2.drew = .ok (goInt (Nat.min (cap - i) (cap - i))) W3:=fun ty dc sc => by
  have:=bg W2.drew 191 191 ty 118 N ((i + 1) * 8) (cap - i) dc ⟨g,i * 8,none⟩ (cap - i) sc 8 R2.toArray 118 (X.drop (i * 8)) i0 Tryz.underlying191 HI0.out.1 HI0.out.2.2.1 hgN2 aak (fun j u hj => by
   rw [List.getElem?_drop] at hj;have hc:=hcell _ u hj;rw [Addr.add_lit];rw [← hc]
   exact World.cell?_of_block (w:=w) (w':=W2.drew) hg2) abp (fun u hu => HX1.out u (List.mem_of_mem_drop hu))
  rw [hW3,hR3];simpa only [List.toList_toArray] using this
 have hW3o : ∀ k,¬ k = N → W3.heap[k]? = W1.heap[k]?:=fun k hk => by rw [hW3,setRow_other W2.drew N k _ hk];exact (congrArg (fun z : World => z.heap[k]?) hW2).trans (setRow_other W1 N k _ hk)
 have hfin : w.grownBy W3 (some g):=by
  exact aaQ
 have hrow : W3.ownsRow base 118 8 (.slice (some ⟨N,0,none⟩) (cap + 1) G) (cap + 1) (X.take (i * 8) ++ ys ++ X.drop (i * 8)):=by
  refine ⟨?_,Or.inr ⟨N,G,R3.toArray,rfl,by omega,by rw [hW3];exact setRow_heap W2.drew N _ _ 118 _ hgN2,hGn,by unfold maxLen;omega,?_,?_⟩⟩
  ·exact aaq
  ·exact abt
  ·have e:=gQ (a:=i * 8) (b:=cap * 8) (m:=8) (R2:=R2) hRt hXl af hyl hR2 (R2.drop ((i + 1) * 8 + (X.drop (i * 8)).length));rw [hR3,show (cap + 1) * 8 = cap * 8 + 8 by omega,show (i + 1) * 8 = i * 8 + 8 by omega];rw [show (i + 1) * 8 = i * 8 + 8 by omega] at e;simpa using e
 obtain ⟨hGi,hGim,hci,hz2,hz3⟩:=abx;obtain ⟨mixed,hw1,hb1⟩:=aal;obtain ⟨hin,htn,hb3⟩:=abu;have u0:=run_underlying Tryz.underlying191;have HF:=ae (And.intro hrow hfin);clear hN hrow hfin hW3o hW3 hW2 hR3 hg2 hgN2 hR2l hR2 hv1 hg1 hgN hRt hRs hW1 hROW hG hcell hdl hie hg htk hcs HO;go_enter Tryz.func194,Tryz.ntmps194;go_wp2_with (first
  | (at_builtin;refine Lib.wpList_append_run _ rfl _ _ _ _ rfl _ _ rfl rfl _ _ (hrz _) ?_)
  | (at_builtin;refine bN _ rfl _ _ 191 33 rfl _ _ rfl rfl (hcpA _ _) ?_))

 go_region_law_o (refine cg rfl _ _ 191 191 rfl _ _ aac aac (hcpB 3 (G - (i + 1)) (cap - i)) ?_)
 go_wp2
 go_ret;exact ⟨_,rfl,HF.out.1,HF.out.2⟩

theorem ik (a : Option Addr) (n cap : Nat) (X : List Value) (w : World) (hn : n ≤ 8) (hXl : X.length = n * 8) (hX1 : ∀ u ∈ X,u.oneCell' = true) (hXc : ∀ (j : Nat) u,X[j]? = some u → ∃ g,a = some ⟨g,0,none⟩ ∧ w.cell? ⟨g,j,none⟩ = some u) :
  Calls Tryz.prog 195 #[.slice a n cap] w fun e w' => ∃ a' c',e = .returned (.slice a' n c') ∧ w'.ownsRow w.heap.size 118 8 (.slice a' n c') n X ∧ Below w.heap.size w w':=by
 obtain ⟨i0,hi,hz0,hz1,hz2⟩:=info_parts fy;have HI0:=ae (And.intro hi (And.intro hz0 (And.intro hz1 hz2)));clear hi hz0 hz1 hz2;have HX1:=ae hX1;have HXC:=ae hXc;have heq : ∀ w : World,(binOp .eql 191 (.slice a n cap) (.slice none 0 0)).run Tryz.prog w = .ok (.bool a.isNone) w:=fun w => Lib.run_eql_slice_nil w 191 118 a n cap 0 0 Tryz.underlying191;clear hX1 hXc;cases a with
 | none =>
  obtain rfl : X = []:=by
   rcases X with _ | ⟨u,X⟩
   ·rfl
   ·obtain ⟨g,e,_⟩:=HXC.out 0 u rfl
    cases e
  obtain rfl : n = 0:=by simp at hXl;omega
  go_enter Tryz.func195,Tryz.ntmps195
  go_wp2
  go_ret;exact ⟨none,0,rfl,World.ownsRow_nil _ _ _ _,Below.refl _ _⟩
 | some ad =>
  obtain ⟨ab,ao,asp⟩:=ad
  have hnew : ∀ (j : Nat) u,X[j]? = some u → (w.alloc (.cells #[] 118)).cell? ((⟨ab,ao,asp⟩ : Addr).add j) = some u:=fun j u hu => by
   obtain ⟨g,e,hc⟩:=HXC.out j u hu
   cases e
   rw [Addr.add_lit,Nat.zero_add];have hlt:=bq hc;rw [← hc];exact World.cell?_of_block (heap_alloc_old w _ hlt)
  have HN:=ae hnew;have HO : Hid ((w.alloc (.cells #[] 118)).ownsRow w.heap.size 118 8 (.slice (some ⟨w.heap.size,0,none⟩) 0 0) 0 []):=World.ownsRow_made w #[] 0 (Nat.le_refl _) (Nat.zero_le _) aN;clear hnew HXC
  go_enter Tryz.func195,Tryz.ntmps195
  go_wp2_with (at_builtin;refine bm rfl _ _ 191 191 rfl w.heap.size 118 118 i0 (.agg #[.string ⟨#[]⟩,.int .i64 0,.string ⟨#[]⟩,.string ⟨#[]⟩,.bool false,.string ⟨#[]⟩,.bool false,.slice none 0 0]) 8 112 Tryz.underlying191 Tryz.underlying191 HI0.out.1 HI0.out.2.1 HI0.out.2.2.1 HI0.out.2.2.2 rfl al _ _ _ rfl HO.out ⟨ab,ao,asp⟩ n cap X rfl hXl HN.out HX1.out cd af aN ?_)
  intro v' w' h1 h2
  obtain ⟨a',c',rfl⟩ : ∃ a' c',v' = .slice a' n c':=by
   rcases h1.2 with ⟨rfl,h0⟩ | ⟨g,cp,cu,rfl,_⟩
   ·exact ⟨none,0,by rw [h0]⟩
   ·exact ⟨_,_,rfl⟩
  have H1:=ae h1;have H2:=ae h2;clear h1 h2
  go_wp2
  go_ret;refine ⟨a',c',rfl,H1.out,((an w (.cells #[] 118)).grown H2.out aN (fun g hg => ?_))⟩
  simp [Value.ownBlock] at hg
  omega

theorem sq (a : Option Addr) (n cap : Nat) (xs : List Vd) (t : ByteArray) (most : Nat) (E : Nat → Addr) (w : World) (hr : aI w a n cap 8 (xs.map vdF)) (hG : Ers w E) :
  Calls Tryz.prog 174 #[.slice a n cap,.string t,.int .i64 most] w (DQ E (fun i => (i = 3 ∧ hit Vd.n xs t = true) ∨ (i = 4 ∧ hit Vd.n xs t = false ∧ most ≤ xs.length)) (hit Vd.n xs t = false ∧ xs.length < most) w):=by
 have hxl : xs.length = n:=by simpa using hr.1
 have hlc : n ≤ 9223372036854775807:=Nat.le_trans hr.2.1 hr.2.2.1;have HR:=ae hr;have HE:=ae hG;clear hr hG;go_enter Tryz.func174,Tryz.ntmps174;go_wp2_with fail;refine (eG a n cap xs t _ HR.out).mono ?_;rintro e w1 ⟨rfl,hb⟩;have HB:=ae hb;have e3:=(HE.out.below hb).v3;have e4:=(HE.out.below hb).v4;clear hb;generalize pl Vd.n xs t = j;cases hh : hit Vd.n xs t
 ·have HH:=ae hh;clear hh;by_cases hm : most ≤ n
  ·have hm2 : ¬ ((n : Int) < (most : Int)):=aaa
   go_wp2;go_ret;exact ⟨HB.out,.inl ⟨4,by decide,.inr ⟨rfl,HH.out,by omega⟩,rfl⟩⟩
  ·have hm2 : (n : Int) < (most : Int):=aaa
   go_wp2;go_ret;exact ⟨HB.out,.inr ⟨⟨HH.out,by omega⟩,rfl⟩⟩
 ·have HH:=ae hh;clear hh;go_wp2;go_ret;exact ⟨HB.out,.inl ⟨3,by decide,.inl ⟨rfl,HH.out⟩,rfl⟩⟩

theorem ow (a : Option Addr) (n cap : Nat) (xs : List Vd) (x : Vd) (va : Option Addr) (vl vc hh : Nat) (Q Q2 : Nat → Prop) (w : World) (ho : aB w a n cap 8 118 (xs.map vdF) Q) (hn : n ≤ 8) (hxf : ∀ (i : Nat) f,(vdF x)[i]? = some f → ∃ v,[.string x.n,.int .i64 x.c,.string x.z,.string x.k,.bool x.x,.string x.m,.bool x.y,.slice va vl vc][i]? = some v ∧ f.Fr w hh Q2 v) (hq : ∀ k,Q k → Q2 k → False) :
  Calls Tryz.prog 178 #[.slice a n cap,.agg #[.string x.n,.int .i64 x.c,.string x.z,.string x.k,.bool x.x,.string x.m,.bool x.y,.slice va vl vc]] w fun e w' => ∃ a' l' c',e = .returned (.slice a' l' c') ∧ aB w' a' l' c' 8 118 ((bh (pl Vd.n xs x.n) x xs).map vdF) (fun k => (Q k ∨ Q2 k) ∨ w.heap.size ≤ k) ∧ Below w.heap.size w w':=by
 have HR:=ae ho.row;have hxl : xs.length = n:=by simpa using ho.1
 obtain ⟨vss,H,hV,hcell⟩:=ho.lA;have hvl : vss.length = n:=by rw [hV.len,List.length_map,hxl]
 have hfl : vss.flatten.length = n * 8:=by rw [cV hV.all,hvl]
 have HV:=ae hV;have HC:=ae hcell;have HF:=ae hxf;have HQ:=ae hq;clear ho hV hcell hxf hq;have hmcalled : ∀ (v : Value) (w : World),(method 406 118 v "loop.example/g00571/impl.called").run Tryz.prog w = .ok (237,v) w:=fun _ _ => by kernel_rfl
 obtain ⟨j,hj⟩ : ∃ j,j = pl Vd.n xs x.n:=⟨_,rfl⟩;have hjn : j ≤ n:=by rw [hj,← hxl];exact List.findIdx_le_length
 have HJ:=ae hj;have HFIN : Hid (∀ (w4 : World) v4 base,w.heap.size ≤ base → Below w.heap.size w w4 → w4.ownsRow base 118 8 v4 (n + 1) (vss.flatten.take (j * 8) ++ [.string x.n,.int .i64 x.c,.string x.z,.string x.k,.bool x.x,.string x.m,.bool x.y,.slice va vl vc] ++ vss.flatten.drop (j * 8)) → ∃ a' c',v4 = .slice a' (n + 1) c' ∧ aB w4 a' (n + 1) c' 8 118 ((bh (pl Vd.n xs x.n) x xs).map vdF) (fun k => (Q k ∨ Q2 k) ∨ w.heap.size ≤ k)):=fun w4 v4 base hbs hB4 ho4 => by
  rw [← gP HV.out.all af] at ho4;have hV4:=(HV.out.below hB4).aH (w':=w4) (S':=fun k => (Q k ∨ Q2 k) ∨ w.heap.size ≤ k) (fun _ _ _ _ => rfl) (fun _ _ s => .inl (.inl s));obtain ⟨H4,hV5⟩:=hV4.ins (p:=j) (r:=vdF x) (vs:=[.string x.n,.int .i64 x.c,.string x.z,.string x.k,.bool x.x,.string x.m,.bool x.y,.slice va vl vc]) (hh:=fun _ => hh) rfl rfl (fun i f hf => by
   obtain ⟨v,h1,h2⟩:=HF.out i f hf
   exact ⟨v,h1,h2.aH (fun cu _ q => hB4.block _ (aa q)) (fun _ s => .inl (.inr s))⟩) (fun i zs h hz k r i2 zs2 hr2 hz2 hne e => by
  obtain ⟨v,_,h2⟩:=HF.out i _ h;obtain ⟨_,_,_,_,_,_,_,_,h3⟩:=h2;have hkv : k < vss.length:=by rw [HV.out.len];exact (List.getElem?_eq_some_iff.1 hr2).1
  obtain ⟨v',_,h5⟩:=HV.out.cell k r _ hr2 (List.getElem?_eq_getElem hkv) i2 _ hz2;obtain ⟨_,_,_,_,_,_,_,_,h6⟩:=h5;rcases h3 with h3 | ⟨_,h3,_⟩
  ·exact hz h3
  ·rcases h6 with h6 | ⟨_,h6,_⟩
   ·exact hne h6
   ·rw [e] at h6;exact HQ.out _ h6 h3) (fun i i2 zs zs2 h _ h2 _ => by
  rcases i with _ | _ | _ | _ | _ | _ | _ | _ | i <;> simp [vdF] at h <;> rcases i2 with _ | _ | _ | _ | _ | _ | _ | _ | i2 <;> simp [vdF] at h2 <;> rfl) aaC
  exact acy
 have HCL : Hid (∀ W,Below w.heap.size w W → ∀ (k : Nat) u,vss.flatten[k]? = some u → ∃ g,a = some ⟨g,0,none⟩ ∧ W.cell? ⟨g,k,none⟩ = some u):=fun W hW k u hu => by
  exact aaV
 have HV1:=ae HV.out.one;clear HV HC HF HQ hj;go_enter Tryz.func178,Tryz.ntmps178;go_wp2_with fail;refine (eh x va vl vc _).mono ?_;rintro e w1 ⟨rfl,hb1⟩;obtain ⟨hn1,hbx⟩:=aG hb1;have HN1:=ae hn1;have HB1:=ae hbx;clear hb1 hn1 hbx;go_wp2_with fail;refine (eG a n cap xs x.n _ (HR.out.below HB1.out)).mono ?_;rintro e w2 ⟨rfl,hb2⟩;have HN2:=ae ((hb2.block w.heap.size (aa HN1.out)).trans HN1.out);have HB2:=upB HB1 hb2;clear hb2 HN1 HB1;rw [← HJ.out];generalize hit Vd.n xs x.n = bb;obtain ⟨hs2,HBD⟩:=abk;obtain ⟨n0,n1,n2,n3,n4,n5,n6,n7⟩:=cs8 (show w2.drew.heap[w.heap.size]? = _ from HN2.out);have hcl1 : Calls Tryz.prog 195 #[.slice a n cap] w2.drew fun e w3 => ∃ a3 c3,e = .returned (.slice a3 n c3) ∧ Hid (w3.ownsRow w2.heap.size 118 8 (.slice a3 n c3) n vss.flatten) ∧ Hid (Below w.heap.size w w3) ∧ w2.heap.size ≤ w3.heap.size ∧ w.heap.size < w3.heap.size ∧ w3.heap[w.heap.size]? = some (.cells #[.string x.n,.int .i64 x.c,.string x.z,.string x.k,.bool x.x,.string x.m,.bool x.y,.slice va vl vc] 118 (0,0)):=by
  refine (ik a n cap vss.flatten w2.drew hn hfl HV1.out (HCL.out _ HBD.out)).mono ?_;exact aby
 have hcl2 : Calls Tryz.prog 195 #[.slice a n cap] (w2.alloc (.cells #[.string x.n,.int .i64 x.c,.string x.z,.string x.k,.bool x.x,.string x.m,.bool x.y,.slice va vl vc] 118)).drew fun e w3 => ∃ a3 c3,e = .returned (.slice a3 n c3) ∧ Hid (w3.ownsRow (w2.heap.size + 1) 118 8 (.slice a3 n c3) n vss.flatten) ∧ Hid (Below w.heap.size w w3) ∧ w2.heap.size + 1 ≤ w3.heap.size ∧ Hid (w3.heap[w2.heap.size]? = some (.cells #[.string x.n,.int .i64 x.c,.string x.z,.string x.k,.bool x.x,.string x.m,.bool x.y,.slice va vl vc] 118 (0,0))):=by
  have hbl:=Below.gi (HB2.out.alloc HB2.out.size (.cells #[.string x.n,.int .i64 x.c,.string x.z,.string x.k,.bool x.x,.string x.m,.bool x.y,.slice va vl vc] 118));have hsz : (w2.alloc (.cells #[.string x.n,.int .i64 x.c,.string x.z,.string x.k,.bool x.x,.string x.m,.bool x.y,.slice va vl vc] 118)).drew.heap.size = w2.heap.size + 1:=by simp
  refine (ik a n cap vss.flatten _ hn hfl HV1.out (HCL.out _ hbl)).mono ?_;rintro e w3 ⟨a3,c3,rfl,ho3,hb3⟩;have hs3:=hb3.size;rw [hsz] at ho3 hs3;exact ⟨a3,c3,rfl,ho3,hbl.trans (hb3.mono hbl.size),hs3,(hb3.block w2.heap.size (by rw [hsz];omega)).trans (show (w2.alloc (.cells #[.string x.n,.int .i64 x.c,.string x.z,.string x.k,.bool x.x,.string x.m,.bool x.y,.slice va vl vc] 118)).drew.heap[w2.heap.size]? = _ from heap_alloc_new w2 _)⟩
 have hin1 : ∀ (w3 : World) a3 c3,w3.ownsRow w2.heap.size 118 8 (.slice a3 n c3) n vss.flatten → Below w.heap.size w w3 → w2.heap.size ≤ w3.heap.size → Calls Tryz.prog 194 #[.slice a3 n c3,.int .i64 j,.slice (some ⟨w3.heap.size,0,none⟩) 1 1] (w3.alloc (.cells #[.string x.n,.int .i64 x.c,.string x.z,.string x.k,.bool x.x,.string x.m,.bool x.y,.slice va vl vc] 118)) fun e w4 => ∃ a' c',e = .returned (.slice a' (n + 1) c') ∧ Hid (aB w4 a' (n + 1) c' 8 118 ((bh (pl Vd.n xs x.n) x xs).map vdF) (fun k => (Q k ∨ Q2 k) ∨ w.heap.size ≤ k)) ∧ Hid (Below w.heap.size w w4):=fun w3 a3 c3 ho3 hB3 hs3 => by
  refine (kE a3 n c3 j w2.heap.size w3.heap.size vss.flatten [.string x.n,.int .i64 x.c,.string x.z,.string x.k,.bool x.x,.string x.m,.bool x.y,.slice va vl vc] (w3.alloc (.cells #[.string x.n,.int .i64 x.c,.string x.z,.string x.k,.bool x.x,.string x.m,.bool x.y,.slice va vl vc] 118)) (ho3.alloc _) hn hjn bF (heap_alloc_new w3 _) rfl aab HV1.out (fun g hg e => by
   have h9:=(ho3.lt g (by rw [hg];rfl)).2
   omega)).mono ?_
  rintro e w4 ⟨v4,rfl,ho4,hg4⟩;have hB5:=(hB3.alloc hB3.size (.cells #[.string x.n,.int .i64 x.c,.string x.z,.string x.k,.bool x.x,.string x.m,.bool x.y,.slice va vl vc] 118)).grown hg4 bF (fun g hg => by
   have h9:=(ho3.lt g hg).1
   omega)
  exact aaG
 have hin2 : ∀ (w3 : World) a3 c3,w3.ownsRow (w2.heap.size + 1) 118 8 (.slice a3 n c3) n vss.flatten → Below w.heap.size w w3 → w2.heap.size + 1 ≤ w3.heap.size → w3.heap[w2.heap.size]? = some (.cells #[.string x.n,.int .i64 x.c,.string x.z,.string x.k,.bool x.x,.string x.m,.bool x.y,.slice va vl vc] 118 (0,0)) → Calls Tryz.prog 194 #[.slice a3 n c3,.int .i64 j,.slice (some ⟨w2.heap.size,0,none⟩) 1 1] w3 fun e w4 => ∃ a' c',e = .returned (.slice a' (n + 1) c') ∧ Hid (aB w4 a' (n + 1) c' 8 118 ((bh (pl Vd.n xs x.n) x xs).map vdF) (fun k => (Q k ∨ Q2 k) ∨ w.heap.size ≤ k)) ∧ Hid (Below w.heap.size w w4):=fun w3 a3 c3 ho3 hB3 hs3 hy3 => by
  refine (kE a3 n c3 j (w2.heap.size + 1) w2.heap.size vss.flatten [.string x.n,.int .i64 x.c,.string x.z,.string x.k,.bool x.x,.string x.m,.bool x.y,.slice va vl vc] w3 ho3 hn hjn hs3 hy3 rfl aab HV1.out (fun g hg e => by
   have h9:=(ho3.lt g (by rw [hg];rfl)).1
   omega)).mono ?_
  exact aaN
 have C1:=ae hcl1;have C2:=ae hcl2;have I1:=ae hin1;have I2:=ae hin2;clear hcl1 hcl2 hin1 hin2 HFIN HCL HR HJ HBD HB2;have mixed : Tryz.prog.follows .mixedOrders = true:=aae
 go_wp2;go_region_with (first
  | (go_at_call 195;refine C1.out.mono ?_;rintro e w3 ⟨a3,c3,rfl,HO3,HB3,hs3,hw3l,hx3⟩;obtain ⟨m0,m1,m2,m3,m4,m5,m6,m7⟩:=cs8 hx3;clear hx3)
  | (go_at_call 195;refine C2.out.mono ?_;rintro e w3 ⟨a3,c3,rfl,HO3,HB3,hs3,HY3⟩)
  | (go_at_call 194;refine (I1.out w3 a3 c3 HO3.out HB3.out hs3).mono ?_;rintro e w4 ⟨a',c',rfl,HR5,HB5⟩)
  | (go_at_call 194;refine (I2.out w3 a3 c3 HO3.out HB3.out hs3 HY3.out).mono ?_;rintro e w4 ⟨a',c',rfl,HR5,HB5⟩))
 all_goals (
  go_wp2
  go_ret
  exact ⟨a',_,c',rfl,HR5.out,HB5.out⟩)

end Rc
end Go.Proofs.YtdoldaceehdifaaGreatDoor
