import Derived.Test.YtdfgbboadbnodaaGreatDoorK4
import Derived.Stop.LaidErr
import Derived.ChangeVars
import Derived.Deep.Strs
import Derived.Deep.Fields
import Derived.WideShapes
import Derived.ChangeArms
/-
 One node in the place of the one of its name: where it stands; pods in phases.
-/
set_option maxRecDepth 100000
set_option maxHeartbeats 12800000
namespace Go.Proofs.YtdfgbboadbnodaaGreatDoor
open Go.RowKit
namespace Rc
open Mk

theorem wo_eraseN {α : Type} {nm : α → ByteArray} {t : ByteArray} {xs : List α} {k : Nat} {x : α} (hr : RisBy nm xs) (hx : xs[k]? = some x) (hn : nm x = t) : wo nm t xs = xs.take k ++ xs.drop (k + 1):=by
 have hk : k < xs.length:=(List.getElem?_eq_some_iff.1 hx).1
 have e : xs = xs.take k ++ x :: xs.drop (k + 1):=by
  have h1 : xs.drop k = x :: xs.drop (k + 1):=by rw [List.drop_eq_getElem_cons hk];congr 1;exact (List.getElem?_eq_some_iff.1 hx).2
  rw [← h1,List.take_append_drop]
 have hno : ∀ (j : Nat) y,xs[j]? = some y → ¬ j = k → (!((nm y).toList == t.toList)) = true:=fun j y hj hne => by
  have : ¬ nm y = t:=fun q => hne (hr.inj hj hx (q.trans hn.symm)).1
  simp [tl_no this]
 have h1 : (xs.take k).filter (fun x => !((nm x).toList == t.toList)) = xs.take k:=List.filter_eq_self.2 fun y hy => by
  obtain ⟨j,hj⟩:=List.getElem?_of_mem hy;rw [List.getElem?_take] at hj
  split at hj
  ·exact hno j y hj (by omega)
  ·cases hj
 have h2 : (xs.drop (k + 1)).filter (fun x => !((nm x).toList == t.toList)) = xs.drop (k + 1):=List.filter_eq_self.2 fun y hy => by
  obtain ⟨j,hj⟩:=List.getElem?_of_mem hy;rw [List.getElem?_drop] at hj;exact hno _ y hj (by omega)
 unfold wo
 conv => lhs;rw [e]
 rw [List.filter_append,List.filter_cons,h1,h2,tl_yes hn]
 rfl
theorem put_atN {α : Type} {nm : α → ByteArray} {ps : List α} {t : ByteArray} {k : Nat} {x y : α} (hr : RisBy nm ps) (hx : ps[k]? = some x) (hn : nm x = t) : inAt (pl nm (wo nm t ps) t) y (wo nm t ps) = ps.set k y:=by
 have hk : k < ps.length:=(List.getElem?_eq_some_iff.1 hx).1;have hw:=wo_eraseN hr hx hn
 have hpl : pl nm (wo nm t ps) t = k:=by
  rw [hw]
  have hlt : ∀ (j : Nat) z,j < k → (ps.take k ++ ps.drop (k + 1))[j]? = some z → Op.bytesLess (nm z).toList t.toList = true:=fun j z hj hz => by
   have h1 : (ps.take k).length = k:=by rw [List.length_take];omega
   rw [List.getElem?_append_left (by omega),List.getElem?_take,if_pos hj] at hz;have:=hr.lt hj hz hx;rw [hn] at this;exact this
  by_cases he : k + 1 < ps.length
  ·have h1 : (ps.take k).length = k:=by rw [List.length_take];omega
   have h2 : (ps.take k ++ ps.drop (k + 1))[k]? = some ps[k + 1]:=by
    rw [List.getElem?_append_right (by omega),h1,Nat.sub_self,List.getElem?_drop];exact List.getElem?_eq_getElem he
   refine pl_at hlt h2 ?_;have h3:=hr.lt (Nat.lt_succ_self k) hx (List.getElem?_eq_getElem he);rw [hn] at h3
   cases h9 : Op.bytesLess (nm ps[k + 1]).toList t.toList
   ·rfl
   ·have h8:=less_trans _ _ _ h3 h9;rw [less_irr] at h8
    cases h8
  ·have h4 : ps.take k ++ ps.drop (k + 1) = ps.take k:=by rw [List.drop_eq_nil_of_le (by omega),List.append_nil]
   rw [h4];rw [h4] at hlt
   have h1 : (ps.take k).length = k:=by rw [List.length_take];omega
   rw [pl_end (fun j z hz => hlt j z (by have:=(List.getElem?_eq_some_iff.1 hz).1;omega) hz),h1]
 rw [hpl,hw];unfold inAt
 have h1 : (ps.take k).length = k:=by rw [List.length_take];omega
 rw [List.take_left' h1,List.drop_left' h1,List.set_eq_take_append_cons_drop,if_pos hk]
 simp
theorem putN_set {c : Cl} {n m : Nd} {k : Nat} (hr : RightI c) (hx : c.ns[k]? = some n) (hn : n.n = m.n) : putN c m = ⟨c.ns.set k m,c.ks,c.vs,c.xs,c.ps,c.now⟩:=by
 unfold putN;rw [put_atN hr.2.1.1.2.2 hx hn]

def phF (t : ByteArray) (f : Pd → Int) (p : Pd) : Pd:=if p.d.toList == t.toList then ⟨p.n,p.c,p.z,p.zs,p.d,f p⟩ else p
theorem phF_yes {t : ByteArray} {f : Pd → Int} {p : Pd} (h : p.d = t) : phF t f p = ⟨p.n,p.c,p.z,p.zs,p.d,f p⟩:=by unfold phF;rw [tl_yes h];rfl
theorem phF_no {t : ByteArray} {f : Pd → Int} {p : Pd} (h : ¬ p.d = t) : phF t f p = p:=by unfold phF;rw [tl_no h];rfl
theorem phF_one (t : ByteArray) : phF t (fun _ => 1) = ph1 t:=rfl
def phC (c : Cl) (t : ByteArray) (f : Pd → Int) : Cl:=⟨c.ns,c.ks,c.vs,c.xs,c.ps.map (phF t f),c.now⟩
def mpL (h : Pd → Pd) (ps : List Pd) (k : Nat) : List Pd:=(ps.map h).take k ++ ps.drop k
theorem mpL_at {h : Pd → Pd} {ps : List Pd} {k : Nat} (hk : k < ps.length) : (mpL h ps k)[k]? = ps[k]?:=by
 unfold mpL;rw [List.getElem?_append_right (by simp;omega)]
 simp [Nat.min_eq_left (show k ≤ ps.length by omega)]
theorem mpL_step {h : Pd → Pd} {ps : List Pd} {k : Nat} {x : Pd} (hx : ps[k]? = some x) : mpL h ps (k + 1) = (mpL h ps k).set k (h x):=by
 have hk : k < ps.length:=(List.getElem?_eq_some_iff.1 hx).1;unfold mpL
 have h1 : ((ps.map h).take k).length = k:=by simp;omega
 rw [List.take_add_one,List.getElem?_map,hx,List.set_append_right _ _ (by omega),h1,Nat.sub_self]
 have h2 : ps.drop k = x :: ps.drop (k + 1):=by rw [List.drop_eq_getElem_cons hk];rw [(List.getElem?_eq_some_iff.1 hx).2]
 rw [h2]
 simp
theorem mpL_end {h : Pd → Pd} {ps : List Pd} {k : Nat} (hk : ps.length ≤ k) : mpL h ps k = ps.map h:=by
 unfold mpL;rw [List.take_of_length_le (by simpa using hk),List.drop_eq_nil_of_le hk,List.append_nil]
theorem mpL_zero (h : Pd → Pd) (ps : List Pd) : mpL h ps 0 = ps:=by simp [mpL]
theorem mpL_same {h : Pd → Pd} {ps : List Pd} {k : Nat} {x : Pd} (hx : ps[k]? = some x) (e : h x = x) : mpL h ps (k + 1) = mpL h ps k:=by
 rw [mpL_step hx,e,set_sameK (by rw [mpL_at (List.getElem?_eq_some_iff.1 hx).1];exact hx)]
theorem ROwn.setPh {wr wz : World} {g l cp k : Nat} {h : Pd → Pd} {ps : List Pd} {x : Pd} {v : Int} {S : Nat → Prop} (hO : ROwn wr (some ⟨g,0,none⟩) l cp 6 103 ((mpL h ps k).map pdF) S) (hb : Below wr.heap.size wr wz) (hx : ps[k]? = some x) (hh : h x = ⟨x.n,x.c,x.z,x.zs,x.d,v⟩) : ROwn (wz.setCell ⟨g,k * 6 + 5,none⟩ (.int .i64 v)) (some ⟨g,0,none⟩) l cp 6 103 ((mpL h ps (k + 1)).map pdF) S:=by
 have hk : k < ps.length:=(List.getElem?_eq_some_iff.1 hx).1
 have hLk : ((mpL h ps k).map pdF)[k]? = some (pdF x):=by rw [List.getElem?_map,mpL_at hk,hx];rfl
 obtain ⟨g',e,hS⟩:=(hO.below hb).st (KeptS.refl S wz) hLk
 cases e
 obtain ⟨⟨cur2,H2,h3,_⟩,_,_⟩:=hS.setI (i:=5) rfl v;rw [mpL_step hx,List.map_set,hh];exact ⟨by rw [List.length_set];exact hO.1,hO.2.1,hO.2.2.1,.inr ⟨g,cur2,H2,rfl,h3⟩⟩
theorem ClOwnP.put5K {w2 w3 w4 : World} {d : Ad} {c : Cr} {B : Nat} {P : Nat → Nat} (h : ClOwnP w2 d c (fun k => B ≤ k) P) {a : Option Addr} {l cp : Nat} {rs : List (List Fv)} (hN : ROwn w3 a l cp 6 103 rs (fun k => (B ≤ k ∧ P k = 5) ∧ k < w2.heap.size)) (hb : ∀ k,k < w2.heap.size → ¬ P k = 5 → w3.heap[k]? = w2.heap[k]?) (hk : ∀ k,B ≤ k → k < w2.heap.size → w4.heap[k]? = w3.heap[k]?) : ClOwn w4 ⟨d.a1,d.l1,d.c1,d.a2,d.l2,d.c2,d.a3,d.l3,d.c3,d.a4,d.l4,d.c4,a,l,cp⟩ ⟨c.n,c.k,c.v,c.x,rs⟩ (fun k => B ≤ k):=by
 refine ⟨P,?_,?_,?_,?_,?_⟩
 ·exact h.n.keep (fun k hl s => (hk k s.1 hl).trans (hb k hl (by have:=s.2;omega))) (fun k hl s => s)
 ·exact h.k.keep (fun k hl s => (hk k s.1 hl).trans (hb k hl (by have:=s.2;omega))) (fun k hl s => s)
 ·exact h.v.keep (fun k hl s => (hk k s.1 hl).trans (hb k hl (by have:=s.2;omega))) (fun k hl s => s)
 ·exact h.x.keep (fun k hl s => (hk k s.1 hl).trans (hb k hl (by have:=s.2;omega))) (fun k hl s => s)
 ·exact hN.keep (fun k _ s => hk k s.1.1 s.2) (fun k _ s => s.1)

theorem iphs_any (d : Ad) (c : Cl) (n : Nd) (ma : Option Addr) (ml mc : Nat) (u0 now0 : Int) (f : Pd → Int) (w : World) (hr : ClRow w d c.raw) (hs : Sm c) (hx : TxRow w ma ml mc n.zs) (hvl : ml ≤ 8001) (z0 : n.n.size ≤ 9223372036854775807) (z1 : n.z.size ≤ 9223372036854775807) (hf : ∀ (k : Nat) (p : Pd) (pa : Option Addr) (pq pc : Nat) (W : World),c.ps[k]? = some p → p.d = n.n → Below w.heap.size w W → TxRow W pa pq pc p.zs → Calls Tryz.prog 61 #[.agg #[.int .i64 u0,.int .i64 now0,.string n.n,.string n.z,.int .i64 n.c,.int .i64 n.s,.int .i64 n.u,.bool n.d,.slice ma ml mc,.slice d.a1 d.l1 d.c1,.slice d.a2 d.l2 d.c2,.slice d.a3 d.l3 d.c3,.slice d.a4 d.l4 d.c4,.slice d.a5 d.l5 d.c5,.int .i64 c.now],.agg #[.string p.n,.int .i64 p.c,.string p.z,.slice pa pq pc,.string p.d,.int .i64 p.p]] W fun e W' => e = .returned (.int .i64 (f p)) ∧ Below W.heap.size W W') :
  Calls Tryz.prog 32 #[.agg #[.int .i64 u0,.int .i64 now0,.string n.n,.string n.z,.int .i64 n.c,.int .i64 n.s,.int .i64 n.u,.bool n.d,.slice ma ml mc,.slice d.a1 d.l1 d.c1,.slice d.a2 d.l2 d.c2,.slice d.a3 d.l3 d.c3,.slice d.a4 d.l4 d.c4,.slice d.a5 d.l5 d.c5,.int .i64 c.now]] w fun e w' => ∃ d',e = .returned (.agg #[.slice d'.a1 d'.l1 d'.c1,.slice d'.a2 d'.l2 d'.c2,.slice d'.a3 d'.l3 d'.c3,.slice d'.a4 d'.l4 d'.c4,.slice d'.a5 d'.l5 d'.c5,.int .i64 c.now]) ∧ ClOwn w' d' (phC (putN c n) n.n f).raw (fun k => w.heap.size ≤ k) ∧ Below w.heap.size w w':=by
 have HR:=hidK hr;have HX:=hidK hx;have HF:=hidK hf;have HB:=hidK (Below.refl w.heap.size w);clear hr hx hf
 go_enter Tryz.func32,Tryz.ntmps32
 go_wp2_with fail;refine (irec_any d c n ma ml mc u0 now0 _ (HR.out.below (HB.out.trans ((below2 _ _ _).mono HB.out.size))) hs (HX.out.below (HB.out.trans ((below2 _ _ _).mono HB.out.size))) hvl z0 z1).mono ?_;rintro e w1 ⟨d',rfl,ho,hb⟩;have HQ2:=hidK hb.size;simp only [size1] at HQ2 ho;obtain ⟨HA0,HA1,hbx⟩:=slots2 hb;have Bg:=hidK HA0;have Br:=hidK HA1;replace HB:=upB HB hbx;clear hb hbx HA0 HA1;obtain ⟨P,hP⟩:=ho;obtain ⟨x1,m1,n1,x2,m2,n2,x3,m3,n3,x4,m4,n4,x5,m5,n5⟩:=d';have HP:=hidK hP;have hq2 : w.heap.size + 1 + 1 ≤ w1.heap.size:=HQ2.out
 have hpl : c.ps.length = m5:=by have h6 : (c.ps.map pdF).length = m5:=hP.p.1;rw [List.length_map] at h6;exact h6
 have hlm : m5 ≤ 9223372036854775807:=Nat.le_trans hP.p.2.1 hP.p.2.2.1;clear hP
 have HO0 : Hid (ROwn (w1.alloc (.cells #[.slice x1 m1 n1,.slice x2 m2 n2,.slice x3 m3 n3,.slice x4 m4 n4,.slice x5 m5 n5,.int .i64 c.now] 36)) x5 m5 n5 6 103 ((mpL (phF n.n f) c.ps 0).map pdF) (fun k => (w.heap.size + 1 + 1 ≤ k ∧ P k = 5) ∧ k < w1.heap.size)):=by
  show ROwn _ _ _ _ _ _ _ _
  rw [mpL_zero];exact (HP.out.p.into (S':=(fun k => (w.heap.size + 1 + 1 ≤ k ∧ P k = 5) ∧ k < w1.heap.size)) (fun k hk s => ⟨s,hk⟩)).below (below1 w1 (.cells #[.slice x1 m1 n1,.slice x2 m2 n2,.slice x3 m3 n3,.slice x4 m4 n4,.slice x5 m5 n5,.int .i64 c.now] 36))
 have hnb : ∀ k,¬ ((w.heap.size + 1 + 1 ≤ k ∧ P k = 5) ∧ k < w1.heap.size) → ¬ (0 < m5 ∧ x5 = some ⟨k,0,none⟩):=fun k h1 h2 => by
  rcases HP.out.p.2.2.2 with h9 | ⟨g9,c9,H9,e9,h9⟩
  ·have h8:=HP.out.p.1;have h7:=h2.1;rw [h9] at h8
   simp at h8
   omega
  ·have h7:=h2.2;rw [show x5 = some ⟨g9,0,none⟩ from e9] at h7
   cases h7
   exact h1 ⟨h9.inS,lt_of_some h9.blk⟩
 have HNB:=hidK hnb;have HBV:=hidK (HB.out.trans ((below1 w1 (.cells #[.slice x1 m1 n1,.slice x2 m2 n2,.slice x3 m3 n3,.slice x4 m4 n4,.slice x5 m5 n5,.int .i64 c.now] 36)).mono HB.out.size));have BgV:=hidK ((Below.heap_alloc w1 (.cells #[.slice x1 m1 n1,.slice x2 m2 n2,.slice x3 m3 n3,.slice x4 m4 n4,.slice x5 m5 n5,.int .i64 c.now] 36) _ (lt_of_some Bg.out)).trans Bg.out);have BrV:=hidK ((Below.heap_alloc w1 (.cells #[.slice x1 m1 n1,.slice x2 m2 n2,.slice x3 m3 n3,.slice x4 m4 n4,.slice x5 m5 n5,.int .i64 c.now] 36) _ (lt_of_some Br.out)).trans Br.out);have BoV:=hidK (heap_alloc_new w1 (.cells #[.slice x1 m1 n1,.slice x2 m2 n2,.slice x3 m3 n3,.slice x4 m4 n4,.slice x5 m5 n5,.int .i64 c.now] 36));clear hnb
 go_wp2
 obtain ⟨V,hV⟩ : ∃ V,V = (w1.alloc (.cells #[.slice x1 m1 n1,.slice x2 m2 n2,.slice x3 m3 n3,.slice x4 m4 n4,.slice x5 m5 n5,.int .i64 c.now] 36)):=⟨_,rfl⟩
 have hvs : V.heap.size = w1.heap.size + 1:=by rw [hV];exact size1 _ _
 rw [← hV] at HO0 HBV BgV BrV BoV ⊢;have HVE:=hidK hV;clear hV Bg Br
 go_loopw [11] (fun vi wr => ∃ k : Nat,k ≤ m5 ∧ vi = .int .i64 k ∧ Hid (ROwn wr x5 m5 n5 6 103 ((mpL (phF n.n f) c.ps k).map pdF) (fun k => (w.heap.size + 1 + 1 ≤ k ∧ P k = 5) ∧ k < w1.heap.size)) ∧ Hid (KeptS (fun k => 0 < m5 ∧ x5 = some ⟨k,0,none⟩) V wr)) (fun vi _ => m5 - (intOf vi).toNat)
 case atStart => exact ⟨0,by omega,rfl,HO0,KeptS.refl _ _⟩
 case round =>
  obtain ⟨k,hk,rfl,HO,HK⟩:=hrel;clear HO0;have hks:=HK.out.size;have Bg:=hidK ((HK.out.block _ (lt_of_some BgV.out) (HNB.out _ (fun h => by have:=h.1.1;omega))).trans BgV.out);have Br:=hidK ((HK.out.block _ (lt_of_some BrV.out) (HNB.out _ (fun h => by have:=h.1.1;omega))).trans BrV.out);have Bo:=hidK ((HK.out.block _ (lt_of_some BoV.out) (HNB.out _ (fun h => by have:=h.2;omega))).trans BoV.out);have HB:=hidK (HBV.out.trans (HK.out.low (X:=w.heap.size) HBV.out.size (fun k s => Classical.byContradiction fun hk => HNB.out k (fun h => by have:=h.1.1;omega) s)));clear BgV BrV BoV
  by_cases hlt : k < m5
  ·obtain ⟨x,hx0⟩ : ∃ x,c.ps[k]? = some x:=⟨_,List.getElem?_eq_getElem (by omega)⟩;have HX0:=hidK hx0
   have hLk : ((mpL (phF n.n f) c.ps k).map pdF)[k]? = some (pdF x):=by rw [List.getElem?_map,mpL_at (by omega),hx0];rfl
   obtain ⟨g,hg,hS2⟩:=HO.out.st (KeptS.refl (fun k => (w.heap.size + 1 + 1 ≤ k ∧ P k = 5) ∧ k < w1.heap.size) wr) hLk;subst hg;obtain ⟨b2,o2,x2',hae,hbl,hx2,hat⟩:=pd_at HO.out.row hlt
   cases hae
   rw [mpL_at (by omega),hx0] at hx2;obtain rfl:=Option.some.inj hx2;obtain ⟨pa,pq,pc,hpr,-,-,-,c0,c1,c2,c3,c4,c5⟩:=pd_cells hat;have HPR:=hidK hpr
   have hgS : (w.heap.size + 1 + 1 ≤ g ∧ P g = 5) ∧ g < w1.heap.size:=by obtain ⟨⟨cur,H,h1,_⟩,_⟩:=hS2;exact h1.inS
   obtain ⟨⟨hg1,hg3⟩,hg2⟩:=hgS;rw [Nat.zero_add] at c0 c1 c2 c3 c4 c5;have HC5:=hidK c5;have HFR:=hidK (hS2.fro (k * 6 + 5))
   have hk1 : (k : Int) < m5:=by omega
   have hk0 : ¬ (k : Int) < 0:=by omega
   clear hat hx2 hx0 hS2 hLk hpr;have hol:=lt_of_some Bo.out;have hgl:=lt_of_some Bg.out;obtain ⟨g0,g1,g2,g3,g4,g5,g6,g7,g8,g9,g10,g11,g12,g13,g14⟩:=cs15 Bg.out
   by_cases he : x.d = n.n
   ·have HHE:=hidK he;have hq:=tl_yes he;clear he;go_wp2_with fail;obtain ⟨W,hW0⟩ : ∃ W,W = wr.alloc (.cells #[.string x.n,.int .i64 x.c,.string x.z,.slice pa pq pc,.string x.d,.int .i64 x.p] 103):=⟨_,rfl⟩;have BgW:=hidK ((Below.heap_alloc wr (.cells #[.string x.n,.int .i64 x.c,.string x.z,.slice pa pq pc,.string x.d,.int .i64 x.p] 103) _ (lt_of_some Bg.out)).trans Bg.out);have BoW:=hidK ((Below.heap_alloc wr (.cells #[.string x.n,.int .i64 x.c,.string x.z,.slice pa pq pc,.string x.d,.int .i64 x.p] 103) _ (lt_of_some Bo.out)).trans Bo.out);have BpW:=hidK (heap_alloc_new wr (.cells #[.string x.n,.int .i64 x.c,.string x.z,.slice pa pq pc,.string x.d,.int .i64 x.p] 103));have HBW:=hidK (below1 wr (.cells #[.string x.n,.int .i64 x.c,.string x.z,.slice pa pq pc,.string x.d,.int .i64 x.p] 103));rw [← hW0] at BgW BoW BpW HBW ⊢;clear hW0 c0 c1 c2 c3 c4 c5 g0 g1 g2 g3 g4 g5 g6 g7 g8 g9 g10 g11 g12 g13 g14;rename_i K0 hK0;refine Gt.wp_region_grow_last (by kernel_rfl) rfl rfl (by kernel_rfl) ?_;refine' Grow.stepC _ rfl ?_ ?_;rotate_left 1
    ·refine Obl.plain rfl ?_;intro ac wg K hsz hW hf hK;clear hsz;have e3:=hf 3 (by decide)
     simp [slotFact,List.lookup] at e3
     clear hf;go_simp;refine hK _ _ (Below.refl _ _) ?_;with_reducible rfl
    refine' Grow.stepC _ rfl ?_ ?_;rotate_left 1
    ·refine Obl.plain rfl ?_;intro ac wg K hsz hW hf hK;clear hsz;have e22:=hf 22 (by decide)
     simp [slotFact,List.lookup] at e22
     clear hf;obtain ⟨o0,o1,o2,o3,o4,o5⟩:=cs6 ((hW.block _ (lt_of_some BoW.out)).trans BoW.out);go_simp;refine hK _ _ (Below.refl _ _) ?_;with_reducible rfl
    refine' Grow.stepC _ rfl ?_ ?_;rotate_left 1
    ·refine Obl.plain rfl ?_;intro ac wg K hsz hW hf hK;clear hsz;have e4:=hf 4 (by decide)
     simp [slotFact,List.lookup] at e4
     clear hf;go_simp;refine hK _ _ (Below.refl _ _) ?_;with_reducible rfl
    refine' Grow.stepC _ rfl ?_ ?_;rotate_left 1
    ·refine Obl.plain rfl ?_;intro ac wg K hsz hW hf hK;clear hsz;have e1:=hf 1 (by decide)
     simp [slotFact,List.lookup] at e1
     clear hf;obtain ⟨g0,g1,g2,g3,g4,g5,g6,g7,g8,g9,g10,g11,g12,g13,g14⟩:=cs15 ((hW.block _ (lt_of_some BgW.out)).trans BgW.out);go_simp;refine hK _ _ (Below.refl _ _) ?_;with_reducible rfl
    refine' Grow.stepC _ rfl ?_ ?_;rotate_left 1
    ·refine Obl.plain rfl ?_;intro ac wg K hsz hW hf hK;clear hsz;have e5:=hf 5 (by decide)
     simp [slotFact,List.lookup] at e5
     clear hf;obtain ⟨p0,p1,p2,p3,p4,p5⟩:=cs6 ((hW.block _ (lt_of_some BpW.out)).trans BpW.out);go_simp;refine hK _ _ (Below.refl _ _) ?_;with_reducible rfl
    refine Grow.step (fun v _ => v = .int .i64 (f x)) rfl (Fact.mono_eq _) ?_ ?_
    ·refine Obl.plain rfl ?_;intro ac wg K hsz hW hf hK;clear hsz;have e25:=hf 25 (by decide)
     simp [slotFact,List.lookup] at e25
     have e26:=hf 26 (by decide)
     simp [slotFact,List.lookup] at e26
     clear hf;go_simp;refine (HF.out k x pa pq pc _ HX0.out HHE.out (HB.out.trans ((HBW.out.trans (hW.mono HBW.out.size)).mono HB.out.size)) (HPR.out.below (HBW.out.trans (hW.mono HBW.out.size)))).mono ?_;rintro e w6 ⟨rfl,hb6⟩;exact hK _ _ hb6 rfl
    refine' Grow.stepC _ rfl ?_ ?_;rotate_left 1
    ·refine Obl.plain rfl ?_;intro ac wg K hsz hW hf hK;clear hsz;have e23:=hf 23 (by decide)
     simp [slotFact,List.lookup] at e23
     have e24:=hf 24 (by decide)
     simp [slotFact,List.lookup] at e24
     clear hf;go_simp;refine hK _ _ (Below.refl _ _) ?_;with_reducible rfl
    refine' Grow.stepC _ rfl ?_ ?_;rotate_left 1
    ·refine Obl.plain rfl ?_;intro ac wg K hsz hW hf hK;clear hsz;have e28:=hf 28 (by decide)
     simp [slotFact,List.lookup] at e28
     clear hf;go_simp;refine hK _ _ (Below.refl _ _) ?_;with_reducible rfl
    refine Grow.done ?_;intro q wz hW hf;simp only [List.forall_mem_cons] at hf;obtain ⟨h29,h28,h27,h26,h25,h24,h23,h22,-⟩:=hf;have HWZ:=upB HBW hW
    have hfz : wz.frozen? ⟨g,k * 6 + 5,none⟩ = false:=by
     have h8:=HFR.out;simp only [World.frozen?,HWZ.out.block g (by omega)] at h8 ⊢;exact h8
    have hcz : wz.cell? ⟨g,k * 6 + 5,none⟩ = some (.int .i64 x.p):=(cell_below HWZ.out (by omega)).trans HC5.out;intro K hK;rw [if_pos (by rfl)];simp only [putsAll,List.foldr,Act.put,List.setIfInBounds_toArray,List.set_cons_zero,List.set_cons_succ,h29,h28,h27,h26,h25,h24,h23,h22];simp only [List.getLast];go_simp;refine hK _ _ ?_;refine hK0 _ _ ?_;clear hK hK0 K K0;clear hfz hcz;have HR2:=hidK (ROwn.setPh HO.out HWZ.out HX0.out (phF_yes (f:=f) HHE.out));have HK2:=hidK ((HK.out.below HWZ.out).set (g:=g) (i:=k * 6 + 5) (v:=.int .i64 (f x)) ⟨by omega,rfl⟩)
    go_wp2
    exact ⟨⟨k + 1,by omega,by go_num,HR2,HK2⟩,by simp [intOf];omega⟩
   have HHE:=hidK he;have hq:=tl_no he;clear he
   go_wp2
   refine ⟨⟨k + 1,by omega,by go_num,?_,HK.out.below (below1 wr (.cells #[.string x.n,.int .i64 x.c,.string x.z,.slice pa pq pc,.string x.d,.int .i64 x.p] 103))⟩,by simp [intOf];omega⟩
   show ROwn _ _ _ _ _ _ _ _
   rw [mpL_same HX0.out (phF_no HHE.out)];exact HO.out.below (below1 wr (.cells #[.string x.n,.int .i64 x.c,.string x.z,.slice pa pq pc,.string x.d,.int .i64 x.p] 103))
  have hk1 : ¬ (k : Int) < m5:=by omega
  have HO2:=HO;rw [mpL_end (by omega)] at HO2;obtain ⟨r0,r1,r2,r3,r4,r5⟩:=cs6 Br.out;have fr0:=froK Br.out 0;have fr1:=froK Br.out 1;have fr2:=froK Br.out 2;have fr3:=froK Br.out 3;have fr4:=froK Br.out 4;have fr5:=froK Br.out 5;obtain ⟨o0,o1,o2,o3,o4,o5⟩:=cs6 Bo.out;have hrl:=lt_of_some Br.out;have hol:=lt_of_some Bo.out
  have hne : ¬ w.heap.size + 1 = w1.heap.size:=by omega
  have hne2 : ¬ w1.heap.size = w.heap.size + 1:=by omega
  go_wp2
  refine bodyPost_ret (v:=.agg #[.slice x1 m1 n1,.slice x2 m2 n2,.slice x3 m3 n3,.slice x4 m4 n4,.slice x5 m5 n5,.int .i64 c.now]) (by simp [results,Tryz.results32,go_sem, *]) rfl ⟨⟨x1,m1,n1,x2,m2,n2,x3,m3,n3,x4,m4,n4,x5,m5,n5⟩,rfl,?_,sb1 (sb1 (sb1 (sb1 (sb1 (sb1 (HB.out))))))⟩;have h9:=HP.out.put5K (w3:=wr) (w4:=((((((wr.setCell ⟨w.heap.size + 1,0,none⟩ (.slice x1 m1 n1)).setCell ⟨w.heap.size + 1,1,none⟩ (.slice x2 m2 n2)).setCell ⟨w.heap.size + 1,2,none⟩ (.slice x3 m3 n3)).setCell ⟨w.heap.size + 1,3,none⟩ (.slice x4 m4 n4)).setCell ⟨w.heap.size + 1,4,none⟩ (.slice x5 m5 n5)).setCell ⟨w.heap.size + 1,5,none⟩ (.int .i64 c.now))) HO2.out (fun k h1 h2 => (HK.out.block k (by omega) (HNB.out k (fun h => h2 h.1.2))).trans (by rw [HVE.out];exact Below.heap_alloc _ _ _ h1)) (fun k h1 h2 => by rw [Below.heap_setCell _ _ _ _ (show k ≠ w.heap.size + 1 by omega),Below.heap_setCell _ _ _ _ (show k ≠ w.heap.size + 1 by omega),Below.heap_setCell _ _ _ _ (show k ≠ w.heap.size + 1 by omega),Below.heap_setCell _ _ _ _ (show k ≠ w.heap.size + 1 by omega),Below.heap_setCell _ _ _ _ (show k ≠ w.heap.size + 1 by omega),Below.heap_setCell _ _ _ _ (show k ≠ w.heap.size + 1 by omega)]);exact h9.into (fun k _ s => by have s1 : w.heap.size + 1 + 1 ≤ k:=s;show w.heap.size ≤ k;omega)

theorem iphD_any (d : Ad) (now u0 now0 : Int) (n z : ByteArray) (p s u : Int) (va : Option Addr) (vl vc : Nat) (pn pz pd : ByteArray) (pu pp : Int) (pa : Option Addr) (pq pc : Nat) (w : World) :
  Calls Tryz.prog 61 #[.agg #[.int .i64 u0,.int .i64 now0,.string n,.string z,.int .i64 p,.int .i64 s,.int .i64 u,.bool true,.slice va vl vc,.slice d.a1 d.l1 d.c1,.slice d.a2 d.l2 d.c2,.slice d.a3 d.l3 d.c3,.slice d.a4 d.l4 d.c4,.slice d.a5 d.l5 d.c5,.int .i64 now],.agg #[.string pn,.int .i64 pu,.string pz,.slice pa pq pc,.string pd,.int .i64 pp]] w fun e w' => e = .returned (.int .i64 1) ∧ Below w.heap.size w w':=by
 go_enter Tryz.func61,Tryz.ntmps61
 go_wp2
 go_ret;exact ⟨rfl,below2 _ _ _⟩

theorem kill_eq {c : Cl} {t : ByteArray} {n : Nd} (h : AskNOk c t n) : phC (putN c (dead n)) (dead n).n (fun _ => 1) = killC c t n:=by
 have e : n.n = t:=h.2.2.2;have h1:=putN_set (m:=dead n) h.2.1 h.2.2.1 rfl;unfold phC killC;rw [h1,phF_one]
 show (⟨_,_,_,_,c.ps.map (ph1 n.n),_⟩ : Cl) = _
 rw [e]

theorem ikill_any (d : Ad) (c : Cl) (t : ByteArray) (E : Nat → Addr) (w : World) (hr : ClRow w d c.raw) (hG : Ers w E) :
  Calls Tryz.prog 8 #[.agg #[.slice d.a1 d.l1 d.c1,.slice d.a2 d.l2 d.c2,.slice d.a3 d.l3 d.c3,.slice d.a4 d.l4 d.c4,.slice d.a5 d.l5 d.c5,.int .i64 c.now],.string t] w (OutI (KillIs c t) w):=by
 have HR:=hidK hr;have HE:=hidK hG;have HB:=hidK (Below.refl w.heap.size w);clear hr hG
 go_enter Tryz.func8,Tryz.ntmps8
 go_wp2_with fail;refine (iwin_any d c t false E w _ HR.out (HB.out.trans ((below2 _ _ _).mono HB.out.size)) (HE.out.below (HB.out.trans ((below2 _ _ _).mono HB.out.size)))).mono ?_;rintro e w1 ⟨hb,hf⟩;obtain ⟨HA0,HA1,hbx⟩:=slots2 hb;have Bk:=hidK HA0;have Br:=hidK HA1;replace HB:=upB HB hbx;clear hb hbx HA0 HA1
 rcases hf with ⟨i,hi8,hwhy,rfl⟩ | ⟨n,va,vl,vc,hok,hf⟩
 ·obtain ⟨k0,k1,k2,k3,k4,k5⟩:=cs6 Bk.out;have ltk_1:=lt_of_some Bk.out;have HV : Hid (KillIs c t (co0 (codeOf i))):=.inl ⟨i,hwhy,rfl⟩;obtain ⟨cc,hcc⟩ : ∃ cc,cc = codeOf i:=⟨_,rfl⟩;rw [← hcc] at HV;clear hwhy;go_wp2_with fail;refine (refused_any E i cc hcc _ (HE.out.below (HB.out.trans ((below1 _ _).mono HB.out.size))) (by first | decide | omega)).mono ?_;rintro e w2 ⟨rfl,hb⟩;clear k0 k1 k2 k3 k4 k5 ltk_1;obtain ⟨HA0,hbx⟩:=slots1 hb;replace Bk:=upK Bk hbx;replace Br:=upK Br hbx;have Bg:=hidK HA0;replace HB:=upB HB hbx;clear hb hbx HA0;clear hcc;obtain ⟨r0,r1,r2,r3,r4,r5,r6,r7⟩:=cs8 Br.out;have ltr_2:=lt_of_some Br.out;have fr0:=froK Br.out 0;have fr1:=froK Br.out 1;have fr2:=froK Br.out 2;have fr3:=froK Br.out 3;have fr4:=froK Br.out 4;have fr5:=froK Br.out 5;have fr6:=froK Br.out 6;have fr7:=froK Br.out 7;have hrl : w.heap.size + 1 < w2.heap.size:=lt_of_some Br.out
  go_wp2
  exact bodyPost_ret (v:=.agg #[.slice none 0 0,.slice none 0 0,.slice none 0 0,.slice none 0 0,.slice none 0 0,.int .i64 0,.string ⟨#[]⟩,.int .i64 cc]) (by simp [results,Tryz.results8,go_sem, *]) rfl ⟨ad0,co0 cc,rfl,HV.out,own0 _ _,sb1 (sb1 (sb1 (sb1 (sb1 (sb1 (sb1 (sb1 (HB.out))))))))⟩
 have HOK:=hidK hok;clear hok;have HT : Hid (RightI c):=HOK.out.2.1;have HQ1 : Hid (w.heap.size + 1 < w1.heap.size):=lt_of_some Br.out
 rcases hf with ⟨hd,rfl⟩ | ⟨hd,rfl,hvr⟩
 ·have hd2 : n.d = true:=by cases h : n.d <;> simp_all
  obtain ⟨k0,k1,k2,k3,k4,k5⟩:=cs6 Bk.out;have ltk_1:=lt_of_some Bk.out;have HV : Hid (KillIs c t (co0 (codeOf 8))):=.inr ⟨n,HOK.out,.inl ⟨hd2,rfl⟩⟩;obtain ⟨cc,hcc⟩ : ∃ cc,cc = codeOf 8:=⟨_,rfl⟩;rw [← hcc] at HV;clear hd hd2;go_wp2_with fail;refine (refused_any E 8 cc hcc _ (HE.out.below (HB.out.trans ((below1 _ _).mono HB.out.size))) (by first | decide | omega)).mono ?_;rintro e w2 ⟨rfl,hb⟩;clear k0 k1 k2 k3 k4 k5 ltk_1;obtain ⟨HA0,hbx⟩:=slots1 hb;replace Bk:=upK Bk hbx;replace Br:=upK Br hbx;have Bg:=hidK HA0;replace HB:=upB HB hbx;clear hb hbx HA0;clear hcc;obtain ⟨r0,r1,r2,r3,r4,r5,r6,r7⟩:=cs8 Br.out;have ltr_2:=lt_of_some Br.out;have fr0:=froK Br.out 0;have fr1:=froK Br.out 1;have fr2:=froK Br.out 2;have fr3:=froK Br.out 3;have fr4:=froK Br.out 4;have fr5:=froK Br.out 5;have fr6:=froK Br.out 6;have fr7:=froK Br.out 7;have hrl : w.heap.size + 1 < w2.heap.size:=lt_of_some Br.out
  go_wp2
  exact bodyPost_ret (v:=.agg #[.slice none 0 0,.slice none 0 0,.slice none 0 0,.slice none 0 0,.slice none 0 0,.int .i64 0,.string ⟨#[]⟩,.int .i64 cc]) (by simp [results,Tryz.results8,go_sem, *]) rfl ⟨ad0,co0 cc,rfl,HV.out,own0 _ _,sb1 (sb1 (sb1 (sb1 (sb1 (sb1 (sb1 (sb1 (HB.out))))))))⟩
 have HD:=hidK hd;have HVR:=hidK hvr;clear hd hvr;have HV : Hid (KillIs c t ⟨killC c t n,⟨#[]⟩,0⟩):=.inr ⟨n,HOK.out,.inr ⟨HD.out,rfl⟩⟩;have hno:=HT.out.2.1.1.2.1 _ n HOK.out.2.2.1
 have z0 : n.n.size ≤ 9223372036854775807:=by have h1:=hno.1.2.1;omega
 have z1 : n.z.size ≤ 9223372036854775807:=by have h1:=hno.2.1.2.1;omega
 have hvl : vl ≤ 8001:=by have h1:=HVR.out.1;have h2:=HT.out.sm.ns _ n HOK.out.2.2.1;omega
 clear hno;go_wp2_with fail;have hbx : Below w.heap.size w (w1.alloc (.cells #[.int .i64 n.u,.int .i64 c.now,.string n.n,.string n.z,.int .i64 n.c,.int .i64 n.s,.int .i64 n.u,.bool true,.slice va vl vc,.slice d.a1 d.l1 d.c1,.slice d.a2 d.l2 d.c2,.slice d.a3 d.l3 d.c3,.slice d.a4 d.l4 d.c4,.slice d.a5 d.l5 d.c5,.int .i64 c.now] 68)):=HB.out.trans ((below1 w1 (.cells #[.int .i64 n.u,.int .i64 c.now,.string n.n,.string n.z,.int .i64 n.c,.int .i64 n.s,.int .i64 n.u,.bool true,.slice va vl vc,.slice d.a1 d.l1 d.c1,.slice d.a2 d.l2 d.c2,.slice d.a3 d.l3 d.c3,.slice d.a4 d.l4 d.c4,.slice d.a5 d.l5 d.c5,.int .i64 c.now] 68)).mono HB.out.size);refine (iphs_any d c (dead n) va vl vc n.u c.now (fun _ => 1) _ (HR.out.below hbx) HT.out.sm (HVR.out.below hbx) hvl z0 z1 (fun k p pa pq pc W _ _ _ _ => iphD_any d c.now n.u c.now n.n n.z n.c n.s n.u va vl vc p.n p.z p.d p.c p.p pa pq pc W)).mono ?_;rintro e w5 ⟨d',rfl,ho,hb⟩;rw [kill_eq HOK.out] at ho;have HO:=hidK ho;have hs5:=hb.size;rw [size1] at hs5;have Br5:=hidK ((hb.block (w.heap.size + 1) (by rw [size1];have:=HQ1.out;omega)).trans ((Below.heap_alloc w1 (.cells #[.int .i64 n.u,.int .i64 c.now,.string n.n,.string n.z,.int .i64 n.c,.int .i64 n.s,.int .i64 n.u,.bool true,.slice va vl vc,.slice d.a1 d.l1 d.c1,.slice d.a2 d.l2 d.c2,.slice d.a3 d.l3 d.c3,.slice d.a4 d.l4 d.c4,.slice d.a5 d.l5 d.c5,.int .i64 c.now] 68) _ (lt_of_some Br.out)).trans Br.out));have HB5:=hidK (hbx.trans (hb.mono hbx.size));have hw1 : w.heap.size ≤ w1.heap.size:=HB.out.size;clear hb ho hbx;obtain ⟨r0,r1,r2,r3,r4,r5,r6,r7⟩:=cs8 Br5.out;have fr0:=froK Br5.out 0;have fr1:=froK Br5.out 1;have fr2:=froK Br5.out 2;have fr3:=froK Br5.out 3;have fr4:=froK Br5.out 4;have fr5:=froK Br5.out 5;have fr6:=froK Br5.out 6;have fr7:=froK Br5.out 7;have hrl:=lt_of_some Br5.out;have hq1:=HQ1.out
 go_wp2
 refine bodyPost_ret (v:=.agg #[.slice d'.a1 d'.l1 d'.c1,.slice d'.a2 d'.l2 d'.c2,.slice d'.a3 d'.l3 d'.c3,.slice d'.a4 d'.l4 d'.c4,.slice d'.a5 d'.l5 d'.c5,.int .i64 c.now,.string ⟨#[]⟩,.int .i64 0]) (by simp [results,Tryz.results8,go_sem, *]) rfl ⟨d',⟨killC c t n,⟨#[]⟩,0⟩,rfl,HV.out,?_,sb1 (sb1 (sb1 (sb1 (sb1 (sb1 (sb1 (sb1 (HB5.out))))))))⟩;obtain ⟨P,hP⟩:=HO.out
 exact ⟨P,hP.keep (w':=((((((((w5.setCell ⟨w.heap.size + 1,0,none⟩ (.slice d'.a1 d'.l1 d'.c1)).setCell ⟨w.heap.size + 1,1,none⟩ (.slice d'.a2 d'.l2 d'.c2)).setCell ⟨w.heap.size + 1,2,none⟩ (.slice d'.a3 d'.l3 d'.c3)).setCell ⟨w.heap.size + 1,3,none⟩ (.slice d'.a4 d'.l4 d'.c4)).setCell ⟨w.heap.size + 1,4,none⟩ (.slice d'.a5 d'.l5 d'.c5)).setCell ⟨w.heap.size + 1,5,none⟩ (.int .i64 c.now)).setCell ⟨w.heap.size + 1,6,none⟩ (.string ⟨#[]⟩)).setCell ⟨w.heap.size + 1,7,none⟩ (.int .i64 0))) (fun k hk s => by have s1 : (w1.alloc (.cells #[.int .i64 n.u,.int .i64 c.now,.string n.n,.string n.z,.int .i64 n.c,.int .i64 n.s,.int .i64 n.u,.bool true,.slice va vl vc,.slice d.a1 d.l1 d.c1,.slice d.a2 d.l2 d.c2,.slice d.a3 d.l3 d.c3,.slice d.a4 d.l4 d.c4,.slice d.a5 d.l5 d.c5,.int .i64 c.now] 68)).heap.size ≤ k:=s;rw [size1] at s1;rw [Below.heap_setCell _ _ _ _ (show k ≠ w.heap.size + 1 by omega),Below.heap_setCell _ _ _ _ (show k ≠ w.heap.size + 1 by omega),Below.heap_setCell _ _ _ _ (show k ≠ w.heap.size + 1 by omega),Below.heap_setCell _ _ _ _ (show k ≠ w.heap.size + 1 by omega),Below.heap_setCell _ _ _ _ (show k ≠ w.heap.size + 1 by omega),Below.heap_setCell _ _ _ _ (show k ≠ w.heap.size + 1 by omega),Below.heap_setCell _ _ _ _ (show k ≠ w.heap.size + 1 by omega),Below.heap_setCell _ _ _ _ (show k ≠ w.heap.size + 1 by omega)]) (fun k _ s => by have s1 : (w1.alloc (.cells #[.int .i64 n.u,.int .i64 c.now,.string n.n,.string n.z,.int .i64 n.c,.int .i64 n.s,.int .i64 n.u,.bool true,.slice va vl vc,.slice d.a1 d.l1 d.c1,.slice d.a2 d.l2 d.c2,.slice d.a3 d.l3 d.c3,.slice d.a4 d.l4 d.c4,.slice d.a5 d.l5 d.c5,.int .i64 c.now] 68)).heap.size ≤ k:=s;rw [size1] at s1;show w.heap.size ≤ k;omega)⟩

def BegN (c : Cl) (t : ByteArray) (w : World) (e : Ending) (w' : World) : Prop:=Below w.heap.size w w' ∧ ((∃ i p,AskNWhy c t i ∧ p = codeOf i ∧ ¬ p = 0 ∧ e = .returned (.tuple #[.int .i64 0,.int .i64 p])) ∨ ∃ (j : Nat) (n : Nd),c.ns[j]? = some n ∧ AskNOk c t n ∧ e = .returned (.tuple #[.int .i64 j,.int .i64 0]))

theorem sbegN_any (d : Ad) (c : Cl) (t : ByteArray) (w : World) (hr : ClRow w d c.raw) :
  Calls Tryz.prog 21 #[.agg #[.slice d.a1 d.l1 d.c1,.slice d.a2 d.l2 d.c2,.slice d.a3 d.l3 d.c3,.slice d.a4 d.l4 d.c4,.slice d.a5 d.l5 d.c5,.int .i64 c.now],.string t] w (BegN c t w):=by
 have HR:=hidK hr;have HB:=hidK (Below.refl w.heap.size w);clear hr
 go_enter Tryz.func21,Tryz.ntmps21
 go_wp2_with fail;refine (sbeg_any d c t _ (HR.out.below (HB.out.trans ((below1 _ _).mono HB.out.size)))).mono ?_;rintro e w1 ⟨p,rfl,hp,hb⟩;obtain ⟨HA0,hbx⟩:=slots1 hb;have Bk:=hidK HA0;replace HB:=upB HB hbx;clear hb hbx HA0
 have hp0 : (¬ p = 0 ∧ ∃ i,AskNWhy c t i ∧ p = codeOf i) ∨ (p = 0 ∧ ¬ 8000 < t.size ∧ RightI c):=by
  rcases hp with ⟨h1,rfl⟩ | ⟨h1,h2,rfl⟩ | ⟨h1,h2,rfl⟩
  ·exact .inl ⟨by decide,0,h1,rfl⟩
  ·exact .inl ⟨by decide,1,⟨h1,h2⟩,rfl⟩
  ·exact .inr ⟨rfl,h1,h2⟩
 clear hp
 rcases hp0 with ⟨hp0,i,hw,hpi⟩ | ⟨rfl,hl,hT⟩
 ·have HP:=hidK (And.intro hw (And.intro hpi hp0))
  have hp1 : (p == 0) = false:=by simpa using hp0
  clear hw hpi hp0;obtain ⟨k0,k1,k2,k3,k4,k5⟩:=cs6 Bk.out;have ltk_1:=lt_of_some Bk.out
  go_wp2
  exact bodyPost_ret (v:=.tuple #[.int .i64 0,.int .i64 p]) (by simp [results,Tryz.results21,go_sem]) rfl ⟨HB.out,.inl ⟨i,p,HP.out.1,HP.out.2.1,HP.out.2.2,rfl⟩⟩
 have HT:=hidK hT;clear hT;obtain ⟨k0,k1,k2,k3,k4,k5⟩:=cs6 Bk.out;have ltk_1:=lt_of_some Bk.out;go_wp2_with fail;refine (sxnd_any d c.now c.ns t _ (HR.out.n.below HB.out)).mono ?_;rintro e w2 ⟨hb,hf⟩;clear k0 k1 k2 k3 k4 k5 ltk_1;replace Bk:=upK Bk hb;replace HB:=upB HB hb;clear hb
 rcases hf with ⟨j,n,hn,hnn,rfl⟩ | ⟨hno,rfl⟩
 ·have hj0 : ¬ (j : Int) < 0:=by omega
  have HN:=hidK (And.intro hn hnn);clear hn hnn;obtain ⟨k0,k1,k2,k3,k4,k5⟩:=cs6 Bk.out;have ltk_2:=lt_of_some Bk.out
  go_wp2
  exact bodyPost_ret (v:=.tuple #[.int .i64 j,.int .i64 0]) (by simp [results,Tryz.results21,go_sem]) rfl ⟨HB.out,.inr ⟨j,n,HN.out.1,⟨hl,HT.out,by rw [(hit_at HT.out.2.1.1.2.2 HN.out.1 HN.out.2).1];exact HN.out.1,HN.out.2⟩,rfl⟩⟩
 have HN:=hidK hno;clear hno;obtain ⟨k0,k1,k2,k3,k4,k5⟩:=cs6 Bk.out;have ltk_2:=lt_of_some Bk.out
 go_wp2
 exact bodyPost_ret (v:=.tuple #[.int .i64 0,.int .i64 6]) (by simp [results,Tryz.results21,go_sem]) rfl ⟨HB.out,.inl ⟨2,6,⟨hl,HT.out,hit_no HN.out⟩,rfl,by decide,rfl⟩⟩

theorem skill_any (d : Ad) (c : Cl) (t : ByteArray) (w : World) (hr : ClRow w d c.raw) :
  Calls Tryz.prog 6 #[.agg #[.slice d.a1 d.l1 d.c1,.slice d.a2 d.l2 d.c2,.slice d.a3 d.l3 d.c3,.slice d.a4 d.l4 d.c4,.slice d.a5 d.l5 d.c5,.int .i64 c.now],.string t] w (OutS (KillIs c t) w):=by
 obtain ⟨a1,l1,y1,a2,l2,y2,a3,l3,y3,a4,l4,y4,a5,l5,y5⟩:=d;dsimp only;have HR:=hidK hr
 have hl1 : c.ns.length = l1:=by simpa using (show (c.ns.map ndF).length = l1 from hr.n.1)
 have hm1 : l1 ≤ 9223372036854775807:=Nat.le_trans hr.n.2.1 hr.n.2.2.1
 have hl2 : c.ks.length = l2:=by simpa using (show (c.ks.map kdF).length = l2 from hr.k.1)
 have hm2 : l2 ≤ 9223372036854775807:=Nat.le_trans hr.k.2.1 hr.k.2.2.1
 have hl3 : c.vs.length = l3:=by simpa using (show (c.vs.map vdF).length = l3 from hr.v.1)
 have hm3 : l3 ≤ 9223372036854775807:=Nat.le_trans hr.v.2.1 hr.v.2.2.1
 have hl4 : c.xs.length = l4:=by simpa using (show (c.xs.map xdF).length = l4 from hr.x.1)
 have hm4 : l4 ≤ 9223372036854775807:=Nat.le_trans hr.x.2.1 hr.x.2.2.1
 have hl5 : c.ps.length = l5:=by simpa using (show (c.ps.map pdF).length = l5 from hr.p.1)
 have hm5 : l5 ≤ 9223372036854775807:=Nat.le_trans hr.p.2.1 hr.p.2.2.1;clear hr;have HB:=hidK (Below.refl w.heap.size w)
 go_enter Tryz.func6,Tryz.ntmps6
 go_wp2_with fail;refine (sbegN_any ⟨a1,l1,y1,a2,l2,y2,a3,l3,y3,a4,l4,y4,a5,l5,y5⟩ c t _ (HR.out.below (HB.out.trans ((below2 _ _ _).mono HB.out.size)))).mono ?_;rintro e w1 ⟨hb,hf⟩;obtain ⟨HA0,HA1,hbx⟩:=slots2 hb;have Bk:=hidK HA0;have Br:=hidK HA1;replace HB:=upB HB hbx;clear hb hbx HA0 HA1
 rcases hf with ⟨i,p,hw,hpi,hp0,rfl⟩ | ⟨j,n,hn,hok,rfl⟩
 ·have HV : Hid (KillIs c t (co0 p)):=.inl ⟨i,hw,by rw [hpi]⟩
  have hp1 : (p == 0) = false:=by simpa using hp0
  clear hw hpi hp0;obtain ⟨k0,k1,k2,k3,k4,k5⟩:=cs6 Bk.out;have ltk_1:=lt_of_some Bk.out;go_wp2_with fail;refine (sill_any p _).mono ?_;rintro e w2 ⟨rfl,hb⟩;clear k0 k1 k2 k3 k4 k5 ltk_1;replace Bk:=upK Bk hb;replace Br:=upK Br hb;replace HB:=upB HB hb;clear hb;obtain ⟨r0,r1,r2,r3,r4,r5,r6,r7⟩:=cs8 Br.out;have ltr_2:=lt_of_some Br.out;have fr0:=froK Br.out 0;have fr1:=froK Br.out 1;have fr2:=froK Br.out 2;have fr3:=froK Br.out 3;have fr4:=froK Br.out 4;have fr5:=froK Br.out 5;have fr6:=froK Br.out 6;have fr7:=froK Br.out 7;have hrl : w.heap.size + 1 < w2.heap.size:=lt_of_some Br.out
  go_wp2
  exact bodyPost_ret (v:=.agg #[.slice none 0 0,.slice none 0 0,.slice none 0 0,.slice none 0 0,.slice none 0 0,.int .i64 0,.string ⟨#[]⟩,.int .i64 p]) (by simp [results,Tryz.results6,go_sem, *]) rfl ⟨ad0,co0 p,rfl,HV.out,(own0 _ (fun _ => True)).row,sb1 (sb1 (sb1 (sb1 (sb1 (sb1 (sb1 (sb1 (HB.out))))))))⟩
 have HNJ:=hidK hn;have HOK:=hidK hok;clear hn hok;have HT : Hid (RightI c):=HOK.out.2.1
 have hj1 : j < l1:=by have:=(List.getElem?_eq_some_iff.1 HNJ.out).1;omega
 have hj2 : (j : Int) < l1:=by omega
 have hj0 : ¬ (j : Int) < 0:=by omega
 obtain ⟨b,o,y,rfl,hbl,hy,hat⟩:=nd_at (HR.out.n.below HB.out) hj1;rw [HNJ.out] at hy;obtain rfl:=Option.some.inj hy;obtain ⟨ua,ul,uc,-,-,-,-,-,-,-,-,hd5,-⟩:=nd_cells hat;clear hat hy
 cases hd : n.d
 rotate_left
 ·have HV : Hid (KillIs c t (co0 10)):=.inr ⟨n,HOK.out,.inl ⟨hd,rfl⟩⟩;rw [hd] at hd5;clear hd;obtain ⟨k0,k1,k2,k3,k4,k5⟩:=cs6 Bk.out;have ltk_1:=lt_of_some Bk.out;go_wp2_with fail;refine (sill_any 10 _).mono ?_;rintro e w2 ⟨rfl,hb⟩;clear k0 k1 k2 k3 k4 k5 ltk_1;replace Bk:=upK Bk hb;replace Br:=upK Br hb;replace HB:=upB HB hb;clear hb;obtain ⟨r0,r1,r2,r3,r4,r5,r6,r7⟩:=cs8 Br.out;have ltr_2:=lt_of_some Br.out;have fr0:=froK Br.out 0;have fr1:=froK Br.out 1;have fr2:=froK Br.out 2;have fr3:=froK Br.out 3;have fr4:=froK Br.out 4;have fr5:=froK Br.out 5;have fr6:=froK Br.out 6;have fr7:=froK Br.out 7;have hrl : w.heap.size + 1 < w2.heap.size:=lt_of_some Br.out
  go_wp2
  exact bodyPost_ret (v:=.agg #[.slice none 0 0,.slice none 0 0,.slice none 0 0,.slice none 0 0,.slice none 0 0,.int .i64 0,.string ⟨#[]⟩,.int .i64 10]) (by simp [results,Tryz.results6,go_sem, *]) rfl ⟨ad0,co0 10,rfl,HV.out,(own0 _ (fun _ => True)).row,sb1 (sb1 (sb1 (sb1 (sb1 (sb1 (sb1 (sb1 (HB.out))))))))⟩
 have HV : Hid (KillIs c t ⟨killC c t n,⟨#[]⟩,0⟩):=.inr ⟨n,HOK.out,.inr ⟨hd,rfl⟩⟩;rw [hd] at hd5;clear hd;have HQ1 : Hid (w.heap.size + 1 < w1.heap.size):=lt_of_some Br.out;obtain ⟨k0,k1,k2,k3,k4,k5⟩:=cs6 Bk.out;have ltk_1:=lt_of_some Bk.out;go_wp2_with fail;refine (scopyC_any ⟨(some ⟨b,o,none⟩),l1,y1,a2,l2,y2,a3,l3,y3,a4,l4,y4,a5,l5,y5⟩ c _ (HR.out.below HB.out) HT.out.sm).mono ?_;rintro e w3 ⟨d',rfl,ho,hb⟩;clear hd5 hbl;have HQ2:=hidK hb.size;clear k0 k1 k2 k3 k4 k5 ltk_1;replace Bk:=upK Bk hb;replace Br:=upK Br hb;replace HB:=upB HB hb;clear hb;obtain ⟨x1,m1,n1,x2,m2,n2,x3,m3,n3,x4,m4,n4,x5,m5,n5⟩:=d'
 have hm1 : m1 = l1:=by have h6 : (c.ns.map ndF).length = m1:=ho.n.1;rw [List.length_map] at h6;omega
 subst hm1;obtain ⟨g,hga,hS⟩:=(ho.n.into (S':=fun k => w1.heap.size ≤ k ∧ k < w3.heap.size) (fun k hk s => ⟨s,hk⟩)).st (KeptS.refl _ w3) (i:=j) (r:=ndF n) (show (c.ns.map ndF)[j]? = some (ndF n) by rw [List.getElem?_map,HNJ.out];rfl);have hga' : x1 = some ⟨g,0,none⟩:=hga;subst hga';have hq1 : w.heap.size + 1 < w1.heap.size:=HQ1.out;have hq2 : w1.heap.size ≤ w3.heap.size:=HQ2.out;have hgS:=(by obtain ⟨⟨cur,H,h1,_⟩,_⟩:=hS;exact ⟨h1.inS,lt_of_some h1.blk⟩ : (w1.heap.size ≤ g ∧ g < w3.heap.size) ∧ g < w3.heap.size);obtain ⟨⟨hg1,hg2⟩,-⟩:=hgS;obtain ⟨v5,hv5⟩:=hS.cell (i:=5) rfl;have hf5:=hS.fro (j * 7 + 5);have HST:=hidK hS;have HO:=hidK ho
 have hne : ¬ g = w3.heap.size:=by omega
 have hne2 : ¬ w3.heap.size = g:=by omega
 clear hS ho hga;obtain ⟨k0,k1,k2,k3,k4,k5⟩:=cs6 Bk.out;have ltk_2:=lt_of_some Bk.out;go_wp2_with fail
 have hsw : (w3.setCell ⟨g,j * 7 + 5,none⟩ (.bool true)).heap.size = w3.heap.size:=by simp [World.setCell]
 obtain ⟨⟨cur,H,hbk,_⟩,_⟩:=HST.out
 have hvb : ((w3.setCell ⟨g,j * 7 + 5,none⟩ (.bool true)).alloc (.cells #[.slice (some ⟨g,0,none⟩) m1 n1,.slice x2 m2 n2,.slice x3 m3 n3,.slice x4 m4 n4,.slice x5 m5 n5,.int .i64 c.now] 36)).heap[w3.heap.size]? = some (.cells #[.slice (some ⟨g,0,none⟩) m1 n1,.slice x2 m2 n2,.slice x3 m3 n3,.slice x4 m4 n4,.slice x5 m5 n5,.int .i64 c.now] 36 (0,0)):=by have h9:=heap_alloc_new (w3.setCell ⟨g,j * 7 + 5,none⟩ (.bool true)) (.cells #[.slice (some ⟨g,0,none⟩) m1 n1,.slice x2 m2 n2,.slice x3 m3 n3,.slice x4 m4 n4,.slice x5 m5 n5,.int .i64 c.now] 36);rw [hsw] at h9;exact h9
 have hkV : ∀ k,k < w3.heap.size → ¬ k = g → ((w3.setCell ⟨g,j * 7 + 5,none⟩ (.bool true)).alloc (.cells #[.slice (some ⟨g,0,none⟩) m1 n1,.slice x2 m2 n2,.slice x3 m3 n3,.slice x4 m4 n4,.slice x5 m5 n5,.int .i64 c.now] 36)).heap[k]? = w3.heap[k]?:=fun k h1 h2 => (Below.heap_alloc _ _ _ (by rw [hsw];exact h1)).trans (Below.heap_setCell _ _ _ _ h2);have far : ∀ {a l cp m T rs},ROwn w3 a l cp m T rs (fun k => w1.heap.size ≤ k) → ¬ 56 = T → ROwn ((w3.setCell ⟨g,j * 7 + 5,none⟩ (.bool true)).alloc (.cells #[.slice (some ⟨g,0,none⟩) m1 n1,.slice x2 m2 n2,.slice x3 m3 n3,.slice x4 m4 n4,.slice x5 m5 n5,.int .i64 c.now] 36)) a l cp m T rs (fun k => w1.heap.size ≤ k ∧ k < w3.heap.size):=fun h hT => (h.away hbk.blk hT (by decide)).keep (fun k hk s => hkV k hk s.2) (fun k hk s => ⟨s.1,hk⟩);have f2:=far HO.out.k (by decide);have f3:=far HO.out.v (by decide);have f4:=far HO.out.x (by decide);have f5:=far HO.out.p (by decide);have h2:=HST.out.setB (i:=5) rfl true;obtain ⟨⟨cur2,H2,h3,_⟩,_,_⟩:=h2
 have hns : (killC c t n).raw.n = (c.ns.map ndF).set j (ndF (dead n)):=by
  show (c.ns.set (pl Nd.n c.ns t) (dead n)).map ndF = _
  rw [(hit_at HT.out.2.1.1.2.2 HNJ.out HOK.out.2.2.2).1,List.map_set]
 have hR : ROwn (w3.setCell ⟨g,j * 7 + 5,none⟩ (.bool true)) (some ⟨g,0,none⟩) m1 n1 7 56 (killC c t n).raw.n (fun k => w1.heap.size ≤ k ∧ k < w3.heap.size):=by
  rw [hns];exact ⟨by rw [List.length_set];exact HO.out.n.1,HO.out.n.2.1,HO.out.n.2.2.1,.inr ⟨g,cur2,H2,rfl,h3⟩⟩
 have f1 : ROwn ((w3.setCell ⟨g,j * 7 + 5,none⟩ (.bool true)).alloc (.cells #[.slice (some ⟨g,0,none⟩) m1 n1,.slice x2 m2 n2,.slice x3 m3 n3,.slice x4 m4 n4,.slice x5 m5 n5,.int .i64 c.now] 36)) (some ⟨g,0,none⟩) m1 n1 7 56 (killC c t n).raw.n (fun k => w1.heap.size ≤ k ∧ k < w3.heap.size):=hR.keep (fun k hk s => Below.heap_alloc _ _ _ hk) (fun _ _ s => s);have HF:=hidK (And.intro f1 (And.intro f2 (And.intro f3 (And.intro f4 f5))));have hr2 : ((w3.setCell ⟨g,j * 7 + 5,none⟩ (.bool true)).alloc (.cells #[.slice (some ⟨g,0,none⟩) m1 n1,.slice x2 m2 n2,.slice x3 m3 n3,.slice x4 m4 n4,.slice x5 m5 n5,.int .i64 c.now] 36)).heap[w.heap.size + 1]? = some (.cells #[.slice none 0 0,.slice none 0 0,.slice none 0 0,.slice none 0 0,.slice none 0 0,.int .i64 0,.string ⟨#[]⟩,.int .i64 0] 38 (0,0)):=(hkV _ (by omega) (by omega)).trans Br.out;have HBV : Hid (Below w.heap.size w ((w3.setCell ⟨g,j * 7 + 5,none⟩ (.bool true)).alloc (.cells #[.slice (some ⟨g,0,none⟩) m1 n1,.slice x2 m2 n2,.slice x3 m3 n3,.slice x4 m4 n4,.slice x5 m5 n5,.int .i64 c.now] 36))):=Below.alloc (set_below (show w.heap.size ≤ g by omega) HB.out) (by rw [hsw];exact HB.out.size) _;refine (sphase_any w3.heap.size (some ⟨g,0,none⟩) x2 x3 x4 x5 m1 n1 m2 n2 m3 n3 m4 n4 m5 n5 c.now t c.ps (fun k => w1.heap.size ≤ k ∧ k < w3.heap.size) _ hvb f5 (fun g5 e0 e5 e => ?_)).mono ?_
 ·rcases f5.2.2.2 with h9 | ⟨g9,c9,H9,e9,h9⟩
  ·have h8:=f5.1;rw [h9] at h8
   simp at h8
   omega
  ·rw [e5] at e9
   cases e9
   have:=h9.inS.2
   omega
 rintro e w4 ⟨⟨v,rfl⟩,hP,hK⟩
 have nb : ∀ k,¬ (w1.heap.size ≤ k ∧ k < w3.heap.size) → ¬ (0 < m5 ∧ x5 = some ⟨k,0,none⟩):=fun k h1 h2 => by
  rcases f5.2.2.2 with h9 | ⟨g9,c9,H9,e9,h9⟩
  ·have h8:=f5.1;have h7:=h2.1;rw [h9] at h8
   simp at h8
   omega
  ·have h7:=h2.2;rw [h7] at e9
   cases e9
   exact h1 h9.inS
 have Bo4:=hidK ((hK.block _ (lt_of_some hvb) (nb _ (by omega))).trans hvb);have Br4:=hidK ((hK.block _ (lt_of_some hr2) (nb _ (by omega))).trans hr2);have g1:=f1.beside f5 hK (by decide);have g2:=f2.beside f5 hK (by decide);have g3:=f3.beside f5 hK (by decide);have g4:=f4.beside f5 hK (by decide);have HG:=hidK (And.intro g1 (And.intro g2 (And.intro g3 (And.intro g4 hP))));have HB4 : Hid (Below w.heap.size w w4):=HBV.out.trans (hK.low (X:=w.heap.size) HBV.out.size (fun k s => Classical.byContradiction fun hk => nb k (by omega) s));clear f1 f2 f3 f4 f5 g1 g2 g3 g4 hP hK hR h3 hvb hr2 far hkV HF HBV hns hbk HST HO nb hv5 hf5;obtain ⟨o0,o1,o2,o3,o4,o5⟩:=cs6 Bo4.out;obtain ⟨r0,r1,r2,r3,r4,r5,r6,r7⟩:=cs8 Br4.out;have fr0:=froK Br4.out 0;have fr1:=froK Br4.out 1;have fr2:=froK Br4.out 2;have fr3:=froK Br4.out 3;have fr4:=froK Br4.out 4;have fr5:=froK Br4.out 5;have fr6:=froK Br4.out 6;have fr7:=froK Br4.out 7;have hol:=lt_of_some Bo4.out;have hrl:=lt_of_some Br4.out
 have hne5 : ¬ w.heap.size + 1 = w3.heap.size:=by omega
 have hne6 : ¬ w3.heap.size = w.heap.size + 1:=by omega
 go_wp2
 refine bodyPost_ret (v:=.agg #[.slice (some ⟨g,0,none⟩) m1 n1,.slice x2 m2 n2,.slice x3 m3 n3,.slice x4 m4 n4,.slice x5 m5 n5,.int .i64 c.now,.string ⟨#[]⟩,.int .i64 0]) (by simp [results,Tryz.results6,go_sem, *]) rfl ⟨⟨some ⟨g,0,none⟩,m1,n1,x2,m2,n2,x3,m3,n3,x4,m4,n4,x5,m5,n5⟩,⟨killC c t n,⟨#[]⟩,0⟩,rfl,HV.out,?_,sb1 (sb1 (sb1 (sb1 (sb1 (sb1 (sb1 (sb1 (HB4.out))))))))⟩
 have hk4 : ∀ k,k < w4.heap.size → w1.heap.size ≤ k ∧ k < w3.heap.size → ((((((((w4.setCell ⟨w.heap.size + 1,0,none⟩ (.slice (some ⟨g,0,none⟩) m1 n1)).setCell ⟨w.heap.size + 1,1,none⟩ (.slice x2 m2 n2)).setCell ⟨w.heap.size + 1,2,none⟩ (.slice x3 m3 n3)).setCell ⟨w.heap.size + 1,3,none⟩ (.slice x4 m4 n4)).setCell ⟨w.heap.size + 1,4,none⟩ (.slice x5 m5 n5)).setCell ⟨w.heap.size + 1,5,none⟩ (.int .i64 c.now)).setCell ⟨w.heap.size + 1,6,none⟩ (.string ⟨#[]⟩)).setCell ⟨w.heap.size + 1,7,none⟩ (.int .i64 0)).heap[k]? = w4.heap[k]?:=fun k _ h1 => by rw [Below.heap_setCell _ _ _ _ (show k ≠ w.heap.size + 1 by omega),Below.heap_setCell _ _ _ _ (show k ≠ w.heap.size + 1 by omega),Below.heap_setCell _ _ _ _ (show k ≠ w.heap.size + 1 by omega),Below.heap_setCell _ _ _ _ (show k ≠ w.heap.size + 1 by omega),Below.heap_setCell _ _ _ _ (show k ≠ w.heap.size + 1 by omega),Below.heap_setCell _ _ _ _ (show k ≠ w.heap.size + 1 by omega),Below.heap_setCell _ _ _ _ (show k ≠ w.heap.size + 1 by omega),Below.heap_setCell _ _ _ _ (show k ≠ w.heap.size + 1 by omega)]
 exact ⟨(HG.out.1.keep hk4 (fun _ _ s => s)).row,(HG.out.2.1.keep hk4 (fun _ _ s => s)).row,(HG.out.2.2.1.keep hk4 (fun _ _ s => s)).row,(HG.out.2.2.2.1.keep hk4 (fun _ _ s => s)).row,(HG.out.2.2.2.2.keep hk4 (fun _ _ s => s)).row⟩

end Rc
end Go.Proofs.YtdfgbboadbnodaaGreatDoor

namespace Go.Proofs.YtdfgbboadbnodaaGreatDoor
open Go.RowKit Rc Mk

def KillClV (c : Cl) : Fact:=fun v w => ∃ d : Ad,v = .agg #[.slice d.a1 d.l1 d.c1,.slice d.a2 d.l2 d.c2,.slice d.a3 d.l3 d.c3,.slice d.a4 d.l4 d.c4,.slice d.a5 d.l5 d.c5,.int .i64 c.now] ∧ ClRow w d c.raw
theorem KillClV.mono (c : Cl) : Fact.Mono (KillClV c):=by
 rintro v w w' ⟨d,h1,h2⟩ hb;exact ⟨d,h1,h2.below hb⟩

set_option linter.unusedVariables false in
theorem kill_walk (d : Ad) (c : Cl) (t : ByteArray) (E : Nat → Addr) (w : World) (hr : ClRow w d c.raw) (ht : t.size ≤ maxLen) (hG : Ers w E) :
  Calls Tryz.prog 3 #[.agg #[.slice d.a1 d.l1 d.c1,.slice d.a2 d.l2 d.c2,.slice d.a3 d.l3 d.c3,.slice d.a4 d.l4 d.c4,.slice d.a5 d.l5 d.c5,.int .i64 c.now],.string t] w fun e w' => e = .returned (.bool true) ∧ Below w.heap.size w w':=by
 have HR:=hidK hr;have HE:=hidK hG;have HB:=hidK (Below.refl w.heap.size w);clear hr hG
 by_cases hlongt : 1048576 < t.size
 ·go_enter Tryz.func3,Tryz.ntmps3
  go_wp2
  go_ret;exact ⟨rfl,below1 _ _⟩
 go_enter Tryz.func3,Tryz.ntmps3
 go_wp2_with fail;refine (szCluster_any d c _ (HR.out.below (HB.out.trans ((below1 _ _).mono HB.out.size)))).mono ?_;rintro e w1 ⟨r,rfl,hi,hb⟩;obtain ⟨HA0,hbx⟩:=slots1 hb;have Bk:=hidK HA0;replace HB:=upB HB hbx;clear hb hbx HA0
 rcases hi with rfl | ⟨hr0,-,hft⟩
 ·obtain ⟨k0,k1,k2,k3,k4,k5⟩:=cs6 Bk.out;have ltk_1:=lt_of_some Bk.out
  go_wp2
  go_ret;exact ⟨rfl,HB.out⟩
 have HF:=hidK hft;clear hft;obtain ⟨k0,k1,k2,k3,k4,k5⟩:=cs6 Bk.out;have ltk_1:=lt_of_some Bk.out;go_wp2_with fail;refine (toCluster_any d c _ (HR.out.below HB.out) HF.out).mono ?_;rintro e w2 ⟨d1,rfl,ho,hb⟩;clear k0 k1 k2 k3 k4 k5 ltk_1;replace Bk:=upK Bk hb;replace HB:=upB HB hb;clear hb;have HO:=hidK ho.row;clear ho;go_wp2_with fail;refine (skill_any d1 c t _ HO.out).mono ?_;rintro e w3 ⟨dg0,o,rfl,hI,ho,hb⟩;have R0:=hidK ho;have HIS:=hidK hI;clear ho hI HO;replace Bk:=upK Bk hb;replace HB:=upB HB hb;clear hb;have HY:=hidK (Bw.refl w3);have HQ3:=hidK (show w.heap.size < w3.heap.size from lt_of_some Bk.out);obtain ⟨k0,k1,k2,k3,k4,k5⟩:=cs6 Bk.out;have ltk_3:=lt_of_some Bk.out;go_wp2_with fail;refine (toCluster_any d c _ (HR.out.below (HB.out.trans ((below1 _ _).mono HB.out.size))) HF.out).mono ?_;rintro e w4 ⟨d2,rfl,ho,hb⟩;clear k0 k1 k2 k3 k4 k5 ltk_3;obtain ⟨HA0,hbx⟩:=slots1 hb;replace Bk:=upK Bk hbx;have Ba:=hidK HA0;replace HY:=hidK (HY.out.below hbx);replace HB:=upB HB hbx;clear hb hbx HA0
 have HQ4 : Hid (w3.heap.size + 1 ≤ w4.heap.size):=by have:=HY.out.le;have:=lt_of_some Ba.out;show w3.heap.size + 1 ≤ _;omega
 have HO2:=hidK (ho.into (S':=fun k => w3.heap.size + 1 ≤ k ∧ k < w4.heap.size) (fun k hk s => ⟨(show w3.heap.size + 1 ≤ k by simpa using s),hk⟩));clear ho;obtain ⟨k0,k1,k2,k3,k4,k5⟩:=cs6 Bk.out;have ltk_4:=lt_of_some Bk.out;obtain ⟨a0,a1,a2,a3,a4,a5,a6,a7⟩:=cs8 Ba.out;have lta_4:=lt_of_some Ba.out;go_wp2_with fail;have HOX:=hidK (HO2.out.below (below1 w4 (.cells #[.slice d2.a1 d2.l1 d2.c1,.slice d2.a2 d2.l2 d2.c2,.slice d2.a3 d2.l3 d2.c3,.slice d2.a4 d2.l4 d2.c4,.slice d2.a5 d2.l5 d2.c5,.int .i64 c.now] 36)));refine (ikill_any d2 c t E _ HOX.out.row (HE.out.below (HB.out.trans ((below1 _ _).mono HB.out.size)))).mono ?_;rintro e w5 ⟨dg1,o1,rfl,hI,ho,hb⟩;clear HOX;obtain rfl:=HIS.out.same hI;clear hI;clear k0 k1 k2 k3 k4 k5 ltk_4 a0 a1 a2 a3 a4 a5 a6 a7 lta_4;obtain ⟨HA0,hbx⟩:=slots1 hb;replace Bk:=upK Bk hbx;replace Ba:=upK Ba hbx;have Bx:=hidK HA0;replace HY:=hidK (HY.out.below hbx);replace HO2:=hidK (HO2.out.below hbx);replace HB:=upB HB hbx;clear hb hbx HA0;have HQ5 : Hid (w4.heap.size < w5.heap.size):=lt_of_some Bx.out;have HO1:=hidK (ho.into (S':=fun k => w4.heap.size + 1 ≤ k ∧ k < w5.heap.size) (fun k hk s => ⟨(show w4.heap.size + 1 ≤ k by simpa using s),hk⟩));clear ho;have hlz : mkCn 1 o.c.raw ≤ 1152921504606846976:=HIS.out.marks HF.out;have HH:=hidK (fun (W : World) (hr : ClRow W dg1 (mkC 1 o.c.raw)) => heldCout_any dg1 o 1 W hr (by decide) hlz);obtain ⟨M,hM⟩ : ∃ M : Int,M = mkCn 1 o.c.raw:=⟨_,rfl⟩
 have hM0 : (0 : Int) < M:=by rw [hM];have:=mkCn_ge 1 o.c.raw;omega
 rw [← hM] at HH;have HMM:=hidK hM;clear hM;obtain ⟨k0,k1,k2,k3,k4,k5⟩:=cs6 Bk.out;have ltk_5:=lt_of_some Bk.out;obtain ⟨a0,a1,a2,a3,a4,a5,a6,a7⟩:=cs8 Ba.out;have lta_5:=lt_of_some Ba.out;obtain ⟨x0,x1,x2,x3,x4,x5⟩:=cs6 Bx.out;have ltx_5:=lt_of_some Bx.out;go_wp2_with fail;refine (eqCout_any dg1 dg0 o _ (HO1.out.row.below (below1 _ _)) (R0.out.below (HY.out.below (below1 _ _)).out)).mono ?_;rintro e w6 ⟨rfl,hb⟩;clear k0 k1 k2 k3 k4 k5 ltk_5 a0 a1 a2 a3 a4 a5 a6 a7 lta_5 x0 x1 x2 x3 x4 x5 ltx_5;obtain ⟨HA0,hbx⟩:=slots1 hb;replace Bk:=upK Bk hbx;replace Ba:=upK Ba hbx;replace Bx:=upK Bx hbx;have Bg:=hidK HA0;replace HY:=hidK (HY.out.below hbx);replace HO2:=hidK (HO2.out.below hbx);replace HO1:=hidK (HO1.out.below hbx);replace HB:=upB HB hbx;clear hb hbx HA0;obtain ⟨W,hW0⟩ : ∃ W,W = w6:=⟨_,rfl⟩;rw [← hW0] at HB HY HO2 HO1 Bk Ba Bx Bg;go_wp2_with fail;rw [← hW0];clear hW0;rename_i K0 hK0;refine wp_region_grow (back:=none) (by kernel_rfl) (List.append_nil _).symm (by kernel_rfl) ?_;refine' Grow.stepC _ rfl ?_ ?_;rotate_left 1
 ·refine Obl.plain rfl ?_;intro ac wg K hsz hW hf hK;clear hsz;have e7:=hf 7 (by decide)
  simp [slotFact,List.lookup] at e7
  clear hf;obtain ⟨k0,k1,k2,k3,k4,k5⟩:=cs6 ((hW.block _ (lt_of_some Bx.out)).trans Bx.out);go_simp;refine hK _ _ (Below.refl _ _) ?_;with_reducible rfl
 refine' Grow.stepC _ rfl ?_ ?_;rotate_left 1
 ·refine Obl.plain rfl ?_;intro ac wg K hsz hW hf hK;clear hsz;have e2:=hf 2 (by decide)
  simp [slotFact,List.lookup] at e2
  clear hf;obtain ⟨k0,k1,k2,k3,k4,k5⟩:=cs6 ((hW.block _ (lt_of_some Bk.out)).trans Bk.out);go_simp;refine hK _ _ (Below.refl _ _) ?_;with_reducible rfl
 refine Grow.step (KillClV c) rfl (KillClV.mono c) ?_ ?_
 ·refine Obl.plain rfl ?_;intro ac wg K hsz hW hf hK;clear hsz;have e35:=hf 35 (by decide)
  simp [slotFact,List.lookup] at e35
  clear hf;go_simp;refine (toCluster_any d c _ (HR.out.below (HB.out.trans (hW.mono HB.out.size))) HF.out).mono ?_;rintro e w6 ⟨d3,rfl,ho,hb6⟩;exact hK _ _ hb6 ⟨d3,rfl,ho.row⟩
 refine' Grow.stepC (.bool true) rfl ?_ ?_
 ·refine Obl.plain rfl ?_;intro ac wg K hsz hW hf hK;clear hsz;have e34:=hf 34 (by decide)
  simp [slotFact,List.lookup] at e34
  have e36:=hf 36 (by decide)
  simp [slotFact,List.lookup] at e36
  obtain ⟨d3,e36,hrow⟩:=e36;clear hf;go_simp;refine (eqCluster_any d2 d3 c _ (HO2.out.row.below hW) hrow).mono ?_;rintro e w6 ⟨rfl,hb6⟩;exact hK _ _ hb6 rfl
 refine' Grow.stepC _ rfl ?_ ?_;rotate_left 1
 ·refine Obl.plain rfl ?_;intro ac wg K hsz hW hf hK;clear hsz;have e37:=hf 37 (by decide)
  simp [slotFact,List.lookup] at e37
  clear hf;go_simp;refine hK _ _ (Below.refl _ _) ?_;with_reducible rfl
 refine Grow.done ?_;intro q wz hW hf;simp only [List.forall_mem_cons] at hf;obtain ⟨h38,-⟩:=hf;have hb:=hW;refine hK0 _ _ ?_;simp only [putsAll,List.foldr,Act.put,List.setIfInBounds_toArray,List.set_cons_zero,List.set_cons_succ,h38];clear hK0;replace Bk:=upK Bk hb;replace Ba:=upK Ba hb;replace Bx:=upK Bx hb;replace Bg:=upK Bg hb;replace HY:=hidK (HY.out.below hb);replace HO2:=hidK (HO2.out.below hb);replace HO1:=hidK (HO1.out.below hb);replace HB:=upB HB hb;clear hb;clear hW;obtain ⟨rk,hrk⟩ : ∃ r : Int,r = mkCn 1 c.raw:=⟨_,rfl⟩
 have hrk0 : decide (rk < 0) = false:=by rw [decide_eq_false_iff_not,hrk];have:=mkCn_ge 1 c.raw;omega
 obtain ⟨k0,k1,k2,k3,k4,k5⟩:=cs6 Bk.out;have ltk_7:=lt_of_some Bk.out;obtain ⟨a0,a1,a2,a3,a4,a5,a6,a7⟩:=cs8 Ba.out;have lta_7:=lt_of_some Ba.out;obtain ⟨x0,x1,x2,x3,x4,x5⟩:=cs6 Bx.out;have ltx_7:=lt_of_some Bx.out;obtain ⟨g0,g1,g2,g3,g4,g5,g6,g7⟩:=cs8 Bg.out;have ltg_7:=lt_of_some Bg.out;go_wp2_with fail;refine (markCluster_any d2 c 1 _ wz HO2.out (fun k s => by have s2:=s.2;have q9:=HY.out.le;have q8:=lt_of_some Bx.out;have q3:=HQ3.out;have q4:=HQ4.out;have q5:=HQ5.out;omega) (by decide) HF.out.marks).mono ?_;rintro e w8 ⟨rfl,ho,hk⟩;clear k0 k1 k2 k3 k4 k5 ltk_7 a0 a1 a2 a3 a4 a5 a6 a7 lta_7 x0 x1 x2 x3 x4 x5 ltx_7 g0 g1 g2 g3 g4 g5 g6 g7 ltg_7;have Ck:=hidK ((hk.block (w.heap.size) (lt_of_some Bk.out) (fun s => by have s1:=s.1;have s2:=s.2;have q3:=HQ3.out;have q4:=HQ4.out;have q5:=HQ5.out;omega)).trans Bk.out);have Ca:=hidK ((hk.block (w3.heap.size) (lt_of_some Ba.out) (fun s => by have s1:=s.1;have s2:=s.2;have q3:=HQ3.out;have q4:=HQ4.out;have q5:=HQ5.out;omega)).trans Ba.out);have Cx:=hidK ((hk.block (w4.heap.size) (lt_of_some Bx.out) (fun s => by have s1:=s.1;have s2:=s.2;have q3:=HQ3.out;have q4:=HQ4.out;have q5:=HQ5.out;omega)).trans Bx.out);have Cg:=hidK ((hk.block (w5.heap.size) (lt_of_some Bg.out) (fun s => by have s1:=s.1;have s2:=s.2;have q3:=HQ3.out;have q4:=HQ4.out;have q5:=HQ5.out;omega)).trans Bg.out);have HB8:=hidK (HB.out.trans (hk.low (X:=w.heap.size) HB.out.size (fun k s => by have s1:=s.1;have q3:=HQ3.out;have q4:=HQ4.out;have q5:=HQ5.out;omega)));have CHY:=hidK (HY.out.kept hk (fun k s => by have s1:=s.1;have q3:=HQ3.out;have q4:=HQ4.out;have q5:=HQ5.out;omega));have CHO1:=hidK (HO1.out.kept hk (fun k s s' => by have s1:=s.1;have s2:=s.2;have t1:=s'.1;have t2:=s'.2;have q3:=HQ3.out;have q4:=HQ4.out;have q5:=HQ5.out;omega))
 clear HB HY hk HO2 HO1 Bk Ba Bx Bg;have HB:=HB8;clear HB8;have HY:=CHY;clear CHY;have HO1:=CHO1;clear CHO1;have Bk:=Ck;clear Ck;have Ba:=Ca;clear Ca;have Bx:=Cx;clear Cx;have Bg:=Cg;clear Cg;clear ho;rw [← hrk];clear hrk;obtain ⟨k0,k1,k2,k3,k4,k5⟩:=cs6 Bk.out;have ltk_8:=lt_of_some Bk.out;obtain ⟨a0,a1,a2,a3,a4,a5,a6,a7⟩:=cs8 Ba.out;have lta_8:=lt_of_some Ba.out;obtain ⟨x0,x1,x2,x3,x4,x5⟩:=cs6 Bx.out;have ltx_8:=lt_of_some Bx.out;obtain ⟨g0,g1,g2,g3,g4,g5,g6,g7⟩:=cs8 Bg.out;have ltg_8:=lt_of_some Bg.out;go_wp2_with fail;refine (eqCout_any dg1 dg0 o _ (HO1.out.row) (R0.out.below HY.out.out)).mono ?_;rintro e w9 ⟨rfl,hb⟩;clear k0 k1 k2 k3 k4 k5 ltk_8 a0 a1 a2 a3 a4 a5 a6 a7 lta_8 x0 x1 x2 x3 x4 x5 ltx_8 g0 g1 g2 g3 g4 g5 g6 g7 ltg_8;replace Bk:=upK Bk hb;replace Ba:=upK Ba hb;replace Bx:=upK Bx hb;replace Bg:=upK Bg hb;replace HY:=hidK (HY.out.below hb);replace HO1:=hidK (HO1.out.below hb);replace HB:=upB HB hb;clear hb;clear hrk0;obtain ⟨k0,k1,k2,k3,k4,k5⟩:=cs6 Bk.out;have ltk_9:=lt_of_some Bk.out;obtain ⟨a0,a1,a2,a3,a4,a5,a6,a7⟩:=cs8 Ba.out;have lta_9:=lt_of_some Ba.out;obtain ⟨x0,x1,x2,x3,x4,x5⟩:=cs6 Bx.out;have ltx_9:=lt_of_some Bx.out;obtain ⟨g0,g1,g2,g3,g4,g5,g6,g7⟩:=cs8 Bg.out;have ltg_9:=lt_of_some Bg.out;go_wp2_with fail;refine (markCout_any dg1 o 1 _ _ HO1.out (fun k s => by have s2:=s.2;have q9:=HB.out.size;have q8:=HY.out.le;have q7:=lt_of_some Bg.out;have q3:=HQ3.out;have q4:=HQ4.out;have q5:=HQ5.out; omega) (by decide) hlz).mono ?_;rintro e w10 ⟨rfl,ho,hk⟩;clear k0 k1 k2 k3 k4 k5 ltk_9 a0 a1 a2 a3 a4 a5 a6 a7 lta_9 x0 x1 x2 x3 x4 x5 ltx_9 g0 g1 g2 g3 g4 g5 g6 g7 ltg_9;have Ck:=hidK ((hk.block (w.heap.size) (lt_of_some Bk.out) (fun s => by have s1:=s.1;have s2:=s.2;have q3:=HQ3.out;have q4:=HQ4.out;have q5:=HQ5.out;omega)).trans Bk.out)
 have Ca:=hidK ((hk.block (w3.heap.size) (lt_of_some Ba.out) (fun s => by have s1:=s.1;have s2:=s.2;have q3:=HQ3.out;have q4:=HQ4.out;have q5:=HQ5.out;omega)).trans Ba.out);have Cx:=hidK ((hk.block (w4.heap.size) (lt_of_some Bx.out) (fun s => by have s1:=s.1;have s2:=s.2;have q3:=HQ3.out;have q4:=HQ4.out;have q5:=HQ5.out;omega)).trans Bx.out);have Cg:=hidK ((hk.block (w5.heap.size) (lt_of_some Bg.out) (fun s => by have s1:=s.1;have s2:=s.2;have q3:=HQ3.out;have q4:=HQ4.out;have q5:=HQ5.out;omega)).trans Bg.out);have HB10:=hidK (HB.out.trans (hk.low (X:=w.heap.size) HB.out.size (fun k s => by have s1:=s.1;have q3:=HQ3.out;have q4:=HQ4.out;have q5:=HQ5.out;omega)));have CHY:=hidK (HY.out.kept hk (fun k s => by have s1:=s.1;have q3:=HQ3.out;have q4:=HQ4.out;have q5:=HQ5.out;omega));clear HB HY hk HO1 Bk Ba Bx Bg;have HB:=HB10;clear HB10;have HY:=CHY;clear CHY;have Bk:=Ck;clear Ck;have Ba:=Ca;clear Ca;have Bx:=Cx;clear Cx;have Bg:=Cg;clear Cg;have HM1:=hidK ho;clear ho;rw [← HMM.out];obtain ⟨k0,k1,k2,k3,k4,k5⟩:=cs6 Bk.out;have ltk_10:=lt_of_some Bk.out;obtain ⟨a0,a1,a2,a3,a4,a5,a6,a7⟩:=cs8 Ba.out;have lta_10:=lt_of_some Ba.out;obtain ⟨x0,x1,x2,x3,x4,x5⟩:=cs6 Bx.out;have ltx_10:=lt_of_some Bx.out;obtain ⟨g0,g1,g2,g3,g4,g5,g6,g7⟩:=cs8 Bg.out;have ltg_10:=lt_of_some Bg.out;go_wp2_with fail;refine (HH.out _ HM1.out.row).mono ?_;rintro e w11 ⟨rfl,hb⟩;clear k0 k1 k2 k3 k4 k5 ltk_10 a0 a1 a2 a3 a4 a5 a6 a7 lta_10 x0 x1 x2 x3 x4 x5 ltx_10 g0 g1 g2 g3 g4 g5 g6 g7 ltg_10;replace Bk:=upK Bk hb;replace Ba:=upK Ba hb;replace Bx:=upK Bx hb;replace Bg:=upK Bg hb;replace HY:=hidK (HY.out.below hb);replace HM1:=hidK (HM1.out.below hb);replace HB:=upB HB hb;clear hb;obtain ⟨k0,k1,k2,k3,k4,k5⟩:=cs6 Bk.out;have ltk_11:=lt_of_some Bk.out;go_wp2_with fail
 refine (toCluster_any d c _ (HR.out.below HB.out) HF.out).mono ?_;rintro e w12 ⟨d4,rfl,ho,hb⟩;clear k0 k1 k2 k3 k4 k5 ltk_11;replace Bk:=upK Bk hb;replace Ba:=upK Ba hb;replace Bx:=upK Bx hb;replace Bg:=upK Bg hb;replace HY:=hidK (HY.out.below hb);replace HM1:=hidK (HM1.out.below hb);replace HB:=upB HB hb;clear hb;have HO:=hidK ho.row;clear ho;go_wp2_with fail;refine (ikill_any d4 c t E _ HO.out (HE.out.below HB.out)).mono ?_;rintro e w13 ⟨dg2,o2,rfl,hI,ho,hb⟩;obtain rfl:=HIS.out.same hI;clear hI HO;have HR2:=hidK ho.row;clear ho;replace Bk:=upK Bk hb;replace Ba:=upK Ba hb;replace Bx:=upK Bx hb;replace Bg:=upK Bg hb;replace HY:=hidK (HY.out.below hb);replace HM1:=hidK (HM1.out.below hb);replace HB:=upB HB hb;clear hb;obtain ⟨k0,k1,k2,k3,k4,k5⟩:=cs6 Bk.out;have ltk_13:=lt_of_some Bk.out;obtain ⟨a0,a1,a2,a3,a4,a5,a6,a7⟩:=cs8 Ba.out;have lta_13:=lt_of_some Ba.out;obtain ⟨x0,x1,x2,x3,x4,x5⟩:=cs6 Bx.out;have ltx_13:=lt_of_some Bx.out;obtain ⟨g0,g1,g2,g3,g4,g5,g6,g7⟩:=cs8 Bg.out;have ltg_13:=lt_of_some Bg.out;go_wp2_with fail;refine (eqCout_any dg2 dg0 o _ (HR2.out.below (below1 _ _)) (R0.out.below (HY.out.below (below1 _ _)).out)).mono ?_;rintro e w14 ⟨rfl,hb⟩;clear k0 k1 k2 k3 k4 k5 ltk_13 a0 a1 a2 a3 a4 a5 a6 a7 lta_13 x0 x1 x2 x3 x4 x5 ltx_13 g0 g1 g2 g3 g4 g5 g6 g7 ltg_13;obtain ⟨HA0,hbx⟩:=slots1 hb;replace Bk:=upK Bk hbx;replace Ba:=upK Ba hbx;replace Bx:=upK Bx hbx;replace Bg:=upK Bg hbx;have Bh:=hidK HA0;replace HY:=hidK (HY.out.below hbx);replace HM1:=hidK (HM1.out.below hbx);replace HB:=upB HB hbx;clear hb hbx HA0;obtain ⟨k0,k1,k2,k3,k4,k5⟩:=cs6 Bk.out;have ltk_14:=lt_of_some Bk.out;obtain ⟨g0,g1,g2,g3,g4,g5,g6,g7⟩:=cs8 Bg.out;have ltg_14:=lt_of_some Bg.out;go_wp2_with fail;refine (HH.out _ HM1.out.row).mono ?_;rintro e w15 ⟨rfl,hb⟩
 clear k0 k1 k2 k3 k4 k5 ltk_14 g0 g1 g2 g3 g4 g5 g6 g7 ltg_14;replace Bk:=upK Bk hb;replace Ba:=upK Ba hb;replace Bx:=upK Bx hb;replace Bg:=upK Bg hb;replace Bh:=upK Bh hb;replace HY:=hidK (HY.out.below hb);replace HM1:=hidK (HM1.out.below hb);replace HB:=upB HB hb;clear hb;go_wp2_with fail;go_ret;exact ⟨rfl,HB.out⟩

set_option linter.unusedVariables false in
theorem fnExactKill_walk (a1 : Option Addr) (l1 y1 : Nat) (ns : List Nd) (a2 : Option Addr) (l2 y2 : Nat) (ks : List Kd) (a3 : Option Addr) (l3 y3 : Nat) (vs : List Vd) (a4 : Option Addr) (l4 y4 : Nat) (xs : List Xd) (a5 : Option Addr) (l5 y5 : Nat) (ps : List Pd) (now : Int) (t : ByteArray) (w : World)
  (h1 : RRow w a1 l1 y1 7 (ns.map ndF)) (h2 : RRow w a2 l2 y2 4 (ks.map kdF)) (h3 : RRow w a3 l3 y3 8 (vs.map vdF)) (h4 : RRow w a4 l4 y4 5 (xs.map xdF)) (h5 : RRow w a5 l5 y5 6 (ps.map pdF)) (_ : (Lit.int .i64 now).wf = true) (ht : t.size ≤ maxLen) (hG : ∃ E,Ers w E) :
  Calls Tryz.prog 3 #[.agg #[.slice a1 l1 y1,.slice a2 l2 y2,.slice a3 l3 y3,.slice a4 l4 y4,.slice a5 l5 y5,.int .i64 now],.string t] w fun e w' => e = .returned (.bool true) ∧ Below w.heap.size w w' :=
 by obtain ⟨E,hG⟩:=hG;exact kill_walk ⟨a1,l1,y1,a2,l2,y2,a3,l3,y3,a4,l4,y4,a5,l5,y5⟩ ⟨ns,ks,vs,xs,ps,now⟩ t E w ⟨h1,h2,h3,h4,h5⟩ ht hG

end Go.Proofs.YtdfgbboadbnodaaGreatDoor

namespace Go.Proofs.YtdfgbboadbnodaaGreatDoor
open Go.RowKit
namespace Rc

theorem wordStar : "*" ++ "errors.errorString" = "*errors.errorString":=by decide
theorem wordRow (u : TypeId) (h : Tryz.prog.typeName? 3 u = some "*errors.errorString") : u = 195 :=
 typeName_ptr_named (nm:= "errors.errorString") (by rw [wordStar];kernel_rfl) (by kernel_rfl) (by decide) u (by rw [wordStar];exact h)

theorem laid_words {P : Program} {W : World} {nm : String} {ti tp te ts : TypeId} {ms : Array (String × TypeId)} {f : Field} (hi : P.underlying ti = some (.interface ms)) (hrow : ∀ u,P.typeName? 3 u = some nm → u = tp)
  (hp : P.underlying tp = some (.pointer te)) (he : P.underlying te = some (.struct #[f])) (hft : f.type = ts) (hfo : f.offset = 0) (hs : P.underlying ts = some .string) (hc : P.cellsOf te = 1) (hcs : P.cellsOf ts = 1) :
  ∀ (l : List (String × List UInt8)) (ps : List MemPlace),(∀ x ∈ l,∃ g,P.globalNamed x.1 = some g ∧ (P.globals[g]?).map (·.type) = some ti) →
   DataW.LaidVars P W (l.map fun x => (x.1,.iface nm (.ptr (.agg [.lit (.string x.2)])))) ps → ps.Nodup →
   (∀ b off,MemPlace.cell b off ∈ ps → (∃ c t,W.heap[b]? = some (.cells c t (0,0))) ∧ ∀ u v,W.cell? ⟨b,off,none⟩ = some (.iface u v) → Value.okWide P W .any 0 u v) →
   ∃ E : Nat → Addr,(∀ (i : Nat) x,l[i]? = some x → W.var? P x.1 = some #[.iface tp (.pointer (some (E i)))] ∧ MemPlace.cell (E i).block (E i).off ∈ ps) ∧ ∀ i j,i < l.length → j < l.length → E i = E j → i = j
 | [],ps,_,_,_,_ => ⟨fun _ => ⟨0,0,none⟩,fun i x h => by simp at h,fun i j h => by simp at h⟩
 | x :: l,ps,hT,hv,hnd,hrows => by
  obtain ⟨g,t,cs,fuel,p,q,hg,ht,hvar,hd,hq,rfl⟩:=hv;obtain ⟨g',hg',ht'⟩:=hT x (by simp);obtain rfl:=Option.some.inj (hg.symm.trans hg');obtain rfl:=Option.some.inj (ht.symm.trans ht');have hsub : ∀ {y},y ∈ q → y ∈ MemPlace.row ⟨g,0,none⟩ cs.size ++ p ++ q:=fun h => List.mem_append_right _ h;obtain ⟨E,hE1,hE2⟩:=laid_words hi hrow hp he hft hfo hs hc hcs l q (fun y hy => hT y (by simp [hy])) hq (List.Nodup.sublist (List.sublist_append_right _ _) hnd) (fun b off hm => hrows b off (hsub hm));obtain ⟨l0⟩:=cs
  have ok0 : ∀ u v,l0 = [.iface u v] → Value.okWide P W .any 0 u v:=fun u v e => by
   subst e;exact (hrows g 0 (by simp [MemPlace.row])).2 u v (by simpa using World.var?_cell hg hvar 0)
  obtain ⟨a0,s0,rfl,hc0,hs0,hz0,rfl⟩:=errorString_of_trod hi hrow hp he hft hfo hs hc hcs hd ok0
  have ha : MemPlace.cell a0.block a0.off ∈ MemPlace.row a0 1:=by simp [MemPlace.row]
  have hdis : ∀ i,i < l.length → ¬ E i = a0:=fun i hi' e => by
   have h1:=(hE1 i _ (List.getElem?_eq_getElem hi')).2;rw [e] at h1;have h2:=(List.nodup_append.1 hnd).2.2 _ (List.mem_append_right _ ha) _ h1;exact h2 rfl
  refine ⟨fun i => match i with | 0 => a0 | i + 1 => E i,fun i y hy => ?_,fun i j hi' hj' e => ?_⟩
  ·cases i with
   | zero =>
    obtain rfl : x = y:=by simpa using hy
    exact ⟨hvar,List.mem_append_left _ (List.mem_append_right _ ha)⟩
   | succ i =>
    obtain ⟨h1,h2⟩:=hE1 i y (by simpa using hy);exact ⟨h1,hsub h2⟩
  ·cases i with
   | zero => cases j with
    | zero => rfl
    | succ j => exact absurd e.symm (hdis j (by simpa using hj'))
   | succ i => cases j with
    | zero => exact absurd e (hdis i (by simpa using hi'))
    | succ j => rw [hE2 i j (by simpa using hi') (by simpa using hj') e]

theorem vars_length {H : Type} {enc : TypeId × Value → H} {P : Program} {w : World} {sp : Nat → Bool} : ∀ (ns : List String) (gs : List (DataW H)) (ps : List MemPlace),DataW.TrodVars enc P w sp ns gs ps → gs.length = ns.length
 | [],[],_,_ => rfl
 | [],_ :: _,_,h => h.elim
 | _ :: _,[],_,h => h.elim
 | _ :: ns,_ :: gs,_,h => by
  obtain ⟨_,_,_,_,_,q,_,_,_,_,h1,_⟩:=h
  simp [vars_length ns gs q h1]
theorem len10 {α : Type} : ∀ {l : List α},l.length = 10 → ∃ a b c d e f g h i j,l = [a,b,c,d,e,f,g,h,i,j]
 | [a,b,c,d,e,f,g,h,i,j],_ => ⟨a,b,c,d,e,f,g,h,i,j,rfl⟩

end Rc
end Go.Proofs.YtdfgbboadbnodaaGreatDoor

namespace Go.Proofs.YtdfgbboadbnodaaGreatDoor
open Go.RowKit Go.ChangeShapes Go.WideShapes Go.Deep

theorem list6 {α : Type} {l : List α} (h : l.length = 6) : ∃ x0 x1 x2 x3 x4 x5,l = [x0,x1,x2,x3,x4,x5]:=by
 match l,h with
 | [x0,x1,x2,x3,x4,x5],_ => exact ⟨_,_,_,_,_,_,rfl⟩
section
variable {H : Type} {enc : TypeId × Value → H} {P : Program} {w : World} {base : Nat} {spare : Nat → Bool} {held : Bool}

theorem open_aggN {r : Reach} {b0 : Nat} {t : TypeId} {fs : Array Field} {v : Value} {d : DataW H} {p : List MemPlace} (hs : P.underlying t = some (.struct fs)) (hone : oneCellFields P fs = true) (hC : P.cellsOf t = fs.size)
  (hv : Value.okWide P w r b0 t v) (h : DataW.Trod enc P w base spare held t v d p) :
  ∃ (cs : List Value) (n : Nat),v = .agg cs.toArray ∧ cs.length = fs.size ∧ ∀ (i : Nat) (f : Field),fs[i]? = some f → ∃ c y,cs[i]? = some c ∧ DataW.trod enc P w base spare held n f.type [c] = some y:=by
 obtain ⟨cs,rfl,hsz⟩:=okWide_struct hs hv;obtain ⟨fuel,hf⟩:=h;obtain ⟨xs,n,_,hx,hl,hlen,hf'⟩:=DataW.trod_struct hs hf;refine ⟨cs.toList,n,rfl,by rw [Array.length_toList];exact hsz.trans hC,fun i f hi => ?_⟩;obtain ⟨o,k⟩:=hone_of hone i f hi;have hlt : i < fs.size:=(Array.getElem?_eq_some_iff.1 hi).1
 have hlc : i < cs.toList.length:=by rw [Array.length_toList,hsz,hC];exact hlt
 have g:=hf' i f hi;rw [o,k] at g
 have e : ((Value.agg cs).cells.toList.drop i).take 1 = [cs.toList[i]'hlc]:=by
  show (cs.toList.drop i).take 1 = _
  rw [List.drop_eq_getElem_cons hlc]
  rfl
 rw [e] at g;exact ⟨_,xs[i]'(by omega),List.getElem?_eq_getElem hlc,by rw [g,List.getElem?_eq_getElem]⟩

theorem row_of_trod {t e : TypeId} {n : Nat} {c : Value} {y : DataW H × List MemPlace} (ht : P.underlying t = some (.slice e)) (he : P.underlying e = some .string) (hc : P.cellsOf e = 1)
  (h : DataW.trod enc P w base spare held n t [c] = some y) : ∃ a len cap zs,c = .slice a len cap ∧ TxRow w a len cap zs:=by
 rcases open_strs ht he hc h with ⟨hcs,_⟩ | ⟨a,len,cap,m,Sx,hcs,hb,hl,hm,hmm,_,hx⟩
 ·exact ⟨none,0,0,[],by simpa using hcs,rfl,Nat.le_refl _,by omega,fun j x hx => by simp at hx,Or.inl rfl⟩
 ·have hlm : len ≤ m:=by rw [hmm];split <;> omega
  have hm' : cap ≤ 9223372036854775807:=by unfold maxLen at hm;omega
  refine ⟨some a,len,cap,(List.range len).map Sx,by simpa using hcs,by simp,hl,hm',fun j x hj => ?_,?_⟩
  ·rw [List.getElem?_map] at hj
   by_cases hjl : j < len
   ·rw [List.getElem?_range hjl] at hj;obtain rfl:=Option.some.inj hj;have:=(hx j (by omega)).2;unfold maxLen at this
    omega
   ·rw [List.getElem?_eq_none (by simp;omega)] at hj
    cases hj
  ·by_cases h0 : len = 0
   ·subst h0;exact Or.inl rfl
   right
   obtain ⟨b,o,spot⟩:=a;have h0':=(hx 0 (by omega)).1
   have hspot : spot = none:=by simpa [Addr.add] using World.cell?_spot h0'
   subst hspot;refine ⟨b,o,rfl,?_,fun j x hj => ?_⟩
   ·rw [Addr.add_lit] at h0'
    rcases Nat.lt_or_ge b w.heap.size with h1 | h1
    ·exact h1
    ·simp [World.cell?,Array.getElem?_eq_none h1] at h0'
   ·rw [List.getElem?_map] at hj
    by_cases hjl : j < len
    ·rw [List.getElem?_range hjl] at hj;obtain rfl:=Option.some.inj hj;have:=(hx j (by omega)).1;rw [Addr.add_lit] at this;exact this
    ·rw [List.getElem?_eq_none (by simp;omega)] at hj
     cases hj
end

section
variable {H : Type} {enc : TypeId × Value → H} {w : World} {base : Nat} {spare : Nat → Bool} {held : Bool}

theorem open_aggC {P : Program} {n : Nat} {t : TypeId} {fs : Array Field} {cs : List Value} {x : DataW H × List MemPlace} (hs : P.underlying t = some (.struct fs)) (hone : oneCellFields P fs = true) (hC : P.cellsOf t = fs.size)
  (h : DataW.trod enc P w base spare held n t cs = some x) :
  ∃ (n : Nat),cs.length = fs.size ∧ ∀ (i : Nat) (f : Field),fs[i]? = some f → ∃ c y,cs[i]? = some c ∧ DataW.trod enc P w base spare held n f.type [c] = some y:=by
 obtain ⟨xs,n,_,hx,hl,hlen,hf'⟩:=DataW.trod_struct hs h;refine ⟨n,hl.trans hC,fun i f hi => ?_⟩;obtain ⟨o,k⟩:=hone_of hone i f hi;have hlt : i < fs.size:=(Array.getElem?_eq_some_iff.1 hi).1
 have hlc : i < cs.length:=by rw [hl,hC];exact hlt
 have g:=hf' i f hi;rw [o,k] at g
 have e : (cs.drop i).take 1 = [cs[i]'hlc]:=by
  rw [List.drop_eq_getElem_cons hlc]
  rfl
 rw [e] at g;exact ⟨_,xs[i]'(by omega),List.getElem?_eq_getElem hlc,by rw [g,List.getElem?_eq_getElem]⟩

end

end Go.Proofs.YtdfgbboadbnodaaGreatDoor

namespace Go.Proofs.YtdfgbboadbnodaaGreatDoor
open Go.RowKit Go.ChangeShapes Go.WideShapes Go.Deep
namespace Rc

section
variable {H : Type} {enc : TypeId × Value → H} {w : World} {base : Nat} {spare : Nat → Bool} {held : Bool}

theorem nd_of_trod {b o n : Nat} {cs : List Value} {x : DataW H × List MemPlace} (hc : ∀ i,i < 7 → w.cell? ⟨b,o + i,none⟩ = cs[i]?) (h : DataW.trod enc Tryz.prog w base spare held n 86 cs = some x) : ∃ v : Nd,RAt w b o (ndF v):=by
 obtain ⟨m,hl,hf⟩:=open_aggC Tryz.underlying86 (by kernel_rfl) (by kernel_rfl) h;obtain ⟨c0,y0,e0,t0⟩:=hf 0 _ rfl;obtain ⟨b0,q0,-,s0⟩:=DataW.trod_string Tryz.underlying9 t0
 obtain rfl : c0 = .string b0:=by simpa using q0
 obtain ⟨c1,y1,e1,t1⟩:=hf 1 _ rfl;obtain ⟨b1,q1,-,s1⟩:=DataW.trod_string Tryz.underlying9 t1
 obtain rfl : c1 = .string b1:=by simpa using q1
 obtain ⟨c2,y2,e2,t2⟩:=hf 2 _ rfl;obtain ⟨b2,q2,-,s2⟩:=DataW.trod_int Tryz.underlying2 t2
 obtain rfl : c2 = .int .i64 b2:=by simpa using q2
 obtain ⟨c3,y3,e3,t3⟩:=hf 3 _ rfl;obtain ⟨b3,q3,-,s3⟩:=DataW.trod_int Tryz.underlying2 t3
 obtain rfl : c3 = .int .i64 b3:=by simpa using q3
 obtain ⟨c4,y4,e4,t4⟩:=hf 4 _ rfl;obtain ⟨b4,q4,-,s4⟩:=DataW.trod_int Tryz.underlying2 t4
 obtain rfl : c4 = .int .i64 b4:=by simpa using q4
 obtain ⟨c5,y5,e5,t5⟩:=hf 5 _ rfl;obtain ⟨b5,q5,-⟩:=DataW.trod_bool Tryz.underlying4 t5
 obtain rfl : c5 = .bool b5:=by simpa using q5
 obtain ⟨c6,y6,e6,t6⟩:=hf 6 _ rfl;obtain ⟨b6,l6,p6,zz,rfl,r6⟩:=row_of_trod Tryz.underlying54 Tryz.underlying9 (by kernel_rfl) t6;unfold maxLen at s0 s1;refine ⟨⟨b0,b1,b2,b3,b4,b5,zz⟩,fun i f hi => ?_⟩
 rcases i with _ | _ | _ | _ | _ | _ | _ | i
 ·cases hi
  exact ⟨_,(hc 0 (by omega)).trans e0,rfl,show b0.size ≤ _ by omega⟩
 ·cases hi
  exact ⟨_,(hc 1 (by omega)).trans e1,rfl,show b1.size ≤ _ by omega⟩
 ·cases hi
  exact ⟨_,(hc 2 (by omega)).trans e2,rfl⟩
 ·cases hi
  exact ⟨_,(hc 3 (by omega)).trans e3,rfl⟩
 ·cases hi
  exact ⟨_,(hc 4 (by omega)).trans e4,rfl⟩
 ·cases hi
  exact ⟨_,(hc 5 (by omega)).trans e5,rfl⟩
 ·cases hi
  exact ⟨_,(hc 6 (by omega)).trans e6,b6,l6,p6,rfl,r6⟩
 ·first | (cases hi;done) | (simp [ndF] at hi;done)

theorem ndrow_of_trod {n : Nat} {c : Value} {y : DataW H × List MemPlace} (h : DataW.trod enc Tryz.prog w base spare held n 22 [c] = some y) : ∃ a len cap,∃ xs : List Nd,c = .slice a len cap ∧ RRow w a len cap 7 (xs.map ndF):=by
 rcases open_slice Tryz.underlying22 h with ⟨hcs,_⟩ | ⟨a,len,cap,m,n',D,Pl,hcs,hb,hl,hm,hmm,_,hx⟩
 ·exact ⟨none,0,0,[],by simpa using hcs,rfl,Nat.le_refl _,by omega,.inl rfl⟩
 have hlm : len ≤ m:=by rw [hmm];split <;> omega
 have hm' : cap ≤ 9223372036854775807:=by unfold maxLen at hm;omega
 have hce : Tryz.prog.cellsOf 86 = 7:=by kernel_rfl
 rw [hce] at hx
 by_cases h0 : len = 0
 ·subst h0;exact ⟨some a,0,cap,[],by simpa using hcs,rfl,hl,hm',.inl rfl⟩
 obtain ⟨b,o,spot⟩:=a;obtain ⟨cs0,k1,k2⟩:=hx 0 (by omega)
 have hspot : spot = none:=by
  obtain ⟨_,hl0,hc0⟩:=World.cells?_some k1;have:=hc0 0 (by omega);rw [List.getElem?_eq_getElem (by omega)] at this
  simpa [Addr.add] using World.cell?_spot this
 subst hspot
 have hblt : b < w.heap.size:=by
  obtain ⟨_,hl0,hc0⟩:=World.cells?_some k1;have:=hc0 0 (by omega);rw [List.getElem?_eq_getElem (by omega)] at this
  rcases Nat.lt_or_ge b w.heap.size with h1 | h1
  ·exact h1
  ·simp [Addr.add,World.cell?,Array.getElem?_eq_none h1] at this
 have each : ∀ i,i < len → ∃ v : Nd,RAt w b (o + i * 7) (ndF v):=fun i hi => by
  obtain ⟨cs,k1,k2⟩:=hx i (by omega);obtain ⟨_,hl0,hc0⟩:=World.cells?_some k1;refine nd_of_trod (fun j hj => ?_) k2;have:=hc0 j hj;rw [add_add,Addr.add_lit] at this;rw [Nat.add_assoc];exact this
 have hin : Inhabited Nd:=⟨⟨⟨#[]⟩,⟨#[]⟩,0,0,0,false,[]⟩⟩;obtain ⟨f,hf⟩:=choose_lt each;refine ⟨some ⟨b,o,none⟩,len,cap,(List.range len).map f,by simpa using hcs,by simp,hl,hm',.inr ⟨b,o,rfl,hblt,fun j r hj => ?_⟩⟩;rw [List.getElem?_map,List.getElem?_map] at hj
 by_cases hjl : j < len
 ·rw [List.getElem?_range hjl] at hj;obtain rfl:=Option.some.inj hj;exact hf j hjl
 ·rw [List.getElem?_eq_none (by simp;omega)] at hj
  cases hj

theorem kd_of_trod {b o n : Nat} {cs : List Value} {x : DataW H × List MemPlace} (hc : ∀ i,i < 4 → w.cell? ⟨b,o + i,none⟩ = cs[i]?) (h : DataW.trod enc Tryz.prog w base spare held n 89 cs = some x) : ∃ v : Kd,RAt w b o (kdF v):=by
 obtain ⟨m,hl,hf⟩:=open_aggC Tryz.underlying89 (by kernel_rfl) (by kernel_rfl) h;obtain ⟨c0,y0,e0,t0⟩:=hf 0 _ rfl;obtain ⟨b0,q0,-,s0⟩:=DataW.trod_string Tryz.underlying9 t0
 obtain rfl : c0 = .string b0:=by simpa using q0
 obtain ⟨c1,y1,e1,t1⟩:=hf 1 _ rfl;obtain ⟨b1,q1,-⟩:=DataW.trod_bool Tryz.underlying4 t1
 obtain rfl : c1 = .bool b1:=by simpa using q1
 obtain ⟨c2,y2,e2,t2⟩:=hf 2 _ rfl;obtain ⟨b2,q2,-⟩:=DataW.trod_bool Tryz.underlying4 t2
 obtain rfl : c2 = .bool b2:=by simpa using q2
 obtain ⟨c3,y3,e3,t3⟩:=hf 3 _ rfl;obtain ⟨b3,q3,-,s3⟩:=DataW.trod_string Tryz.underlying9 t3
 obtain rfl : c3 = .string b3:=by simpa using q3
 unfold maxLen at s0 s3;refine ⟨⟨b0,b1,b2,b3⟩,fun i f hi => ?_⟩
 rcases i with _ | _ | _ | _ | i
 ·cases hi
  exact ⟨_,(hc 0 (by omega)).trans e0,rfl,show b0.size ≤ _ by omega⟩
 ·cases hi
  exact ⟨_,(hc 1 (by omega)).trans e1,rfl⟩
 ·cases hi
  exact ⟨_,(hc 2 (by omega)).trans e2,rfl⟩
 ·cases hi
  exact ⟨_,(hc 3 (by omega)).trans e3,rfl,show b3.size ≤ _ by omega⟩
 ·first | (cases hi;done) | (simp [kdF] at hi;done)

theorem kdrow_of_trod {n : Nat} {c : Value} {y : DataW H × List MemPlace} (h : DataW.trod enc Tryz.prog w base spare held n 23 [c] = some y) : ∃ a len cap,∃ xs : List Kd,c = .slice a len cap ∧ RRow w a len cap 4 (xs.map kdF):=by
 rcases open_slice Tryz.underlying23 h with ⟨hcs,_⟩ | ⟨a,len,cap,m,n',D,Pl,hcs,hb,hl,hm,hmm,_,hx⟩
 ·exact ⟨none,0,0,[],by simpa using hcs,rfl,Nat.le_refl _,by omega,.inl rfl⟩
 have hlm : len ≤ m:=by rw [hmm];split <;> omega
 have hm' : cap ≤ 9223372036854775807:=by unfold maxLen at hm;omega
 have hce : Tryz.prog.cellsOf 89 = 4:=by kernel_rfl
 rw [hce] at hx
 by_cases h0 : len = 0
 ·subst h0;exact ⟨some a,0,cap,[],by simpa using hcs,rfl,hl,hm',.inl rfl⟩
 obtain ⟨b,o,spot⟩:=a;obtain ⟨cs0,k1,k2⟩:=hx 0 (by omega)
 have hspot : spot = none:=by
  obtain ⟨_,hl0,hc0⟩:=World.cells?_some k1;have:=hc0 0 (by omega);rw [List.getElem?_eq_getElem (by omega)] at this
  simpa [Addr.add] using World.cell?_spot this
 subst hspot
 have hblt : b < w.heap.size:=by
  obtain ⟨_,hl0,hc0⟩:=World.cells?_some k1;have:=hc0 0 (by omega);rw [List.getElem?_eq_getElem (by omega)] at this
  rcases Nat.lt_or_ge b w.heap.size with h1 | h1
  ·exact h1
  ·simp [Addr.add,World.cell?,Array.getElem?_eq_none h1] at this
 have each : ∀ i,i < len → ∃ v : Kd,RAt w b (o + i * 4) (kdF v):=fun i hi => by
  obtain ⟨cs,k1,k2⟩:=hx i (by omega);obtain ⟨_,hl0,hc0⟩:=World.cells?_some k1;refine kd_of_trod (fun j hj => ?_) k2;have:=hc0 j hj;rw [add_add,Addr.add_lit] at this;rw [Nat.add_assoc];exact this
 have hin : Inhabited Kd:=⟨⟨⟨#[]⟩,false,false,⟨#[]⟩⟩⟩;obtain ⟨f,hf⟩:=choose_lt each;refine ⟨some ⟨b,o,none⟩,len,cap,(List.range len).map f,by simpa using hcs,by simp,hl,hm',.inr ⟨b,o,rfl,hblt,fun j r hj => ?_⟩⟩;rw [List.getElem?_map,List.getElem?_map] at hj
 by_cases hjl : j < len
 ·rw [List.getElem?_range hjl] at hj;obtain rfl:=Option.some.inj hj;exact hf j hjl
 ·rw [List.getElem?_eq_none (by simp;omega)] at hj
  cases hj

theorem vd_of_trod {b o n : Nat} {cs : List Value} {x : DataW H × List MemPlace} (hc : ∀ i,i < 8 → w.cell? ⟨b,o + i,none⟩ = cs[i]?) (h : DataW.trod enc Tryz.prog w base spare held n 92 cs = some x) : ∃ v : Vd,RAt w b o (vdF v):=by
 obtain ⟨m,hl,hf⟩:=open_aggC Tryz.underlying92 (by kernel_rfl) (by kernel_rfl) h;obtain ⟨c0,y0,e0,t0⟩:=hf 0 _ rfl;obtain ⟨b0,q0,-,s0⟩:=DataW.trod_string Tryz.underlying9 t0
 obtain rfl : c0 = .string b0:=by simpa using q0
 obtain ⟨c1,y1,e1,t1⟩:=hf 1 _ rfl;obtain ⟨b1,q1,-,s1⟩:=DataW.trod_int Tryz.underlying2 t1
 obtain rfl : c1 = .int .i64 b1:=by simpa using q1
 obtain ⟨c2,y2,e2,t2⟩:=hf 2 _ rfl;obtain ⟨b2,q2,-,s2⟩:=DataW.trod_string Tryz.underlying9 t2
 obtain rfl : c2 = .string b2:=by simpa using q2
 obtain ⟨c3,y3,e3,t3⟩:=hf 3 _ rfl;obtain ⟨b3,q3,-,s3⟩:=DataW.trod_string Tryz.underlying9 t3
 obtain rfl : c3 = .string b3:=by simpa using q3
 obtain ⟨c4,y4,e4,t4⟩:=hf 4 _ rfl;obtain ⟨b4,q4,-⟩:=DataW.trod_bool Tryz.underlying4 t4
 obtain rfl : c4 = .bool b4:=by simpa using q4
 obtain ⟨c5,y5,e5,t5⟩:=hf 5 _ rfl;obtain ⟨b5,q5,-,s5⟩:=DataW.trod_string Tryz.underlying9 t5
 obtain rfl : c5 = .string b5:=by simpa using q5
 obtain ⟨c6,y6,e6,t6⟩:=hf 6 _ rfl;obtain ⟨b6,q6,-⟩:=DataW.trod_bool Tryz.underlying4 t6
 obtain rfl : c6 = .bool b6:=by simpa using q6
 obtain ⟨c7,y7,e7,t7⟩:=hf 7 _ rfl;obtain ⟨b7,l7,p7,zz,rfl,r7⟩:=row_of_trod Tryz.underlying54 Tryz.underlying9 (by kernel_rfl) t7;unfold maxLen at s0 s2 s3 s5;refine ⟨⟨b0,b1,b2,b3,b4,b5,b6,zz⟩,fun i f hi => ?_⟩
 rcases i with _ | _ | _ | _ | _ | _ | _ | _ | i
 ·cases hi
  exact ⟨_,(hc 0 (by omega)).trans e0,rfl,show b0.size ≤ _ by omega⟩
 ·cases hi
  exact ⟨_,(hc 1 (by omega)).trans e1,rfl⟩
 ·cases hi
  exact ⟨_,(hc 2 (by omega)).trans e2,rfl,show b2.size ≤ _ by omega⟩
 ·cases hi
  exact ⟨_,(hc 3 (by omega)).trans e3,rfl,show b3.size ≤ _ by omega⟩
 ·cases hi
  exact ⟨_,(hc 4 (by omega)).trans e4,rfl⟩
 ·cases hi
  exact ⟨_,(hc 5 (by omega)).trans e5,rfl,show b5.size ≤ _ by omega⟩
 ·cases hi
  exact ⟨_,(hc 6 (by omega)).trans e6,rfl⟩
 ·cases hi
  exact ⟨_,(hc 7 (by omega)).trans e7,b7,l7,p7,rfl,r7⟩
 ·first | (cases hi;done) | (simp [vdF] at hi;done)

theorem vdrow_of_trod {n : Nat} {c : Value} {y : DataW H × List MemPlace} (h : DataW.trod enc Tryz.prog w base spare held n 24 [c] = some y) : ∃ a len cap,∃ xs : List Vd,c = .slice a len cap ∧ RRow w a len cap 8 (xs.map vdF):=by
 rcases open_slice Tryz.underlying24 h with ⟨hcs,_⟩ | ⟨a,len,cap,m,n',D,Pl,hcs,hb,hl,hm,hmm,_,hx⟩
 ·exact ⟨none,0,0,[],by simpa using hcs,rfl,Nat.le_refl _,by omega,.inl rfl⟩
 have hlm : len ≤ m:=by rw [hmm];split <;> omega
 have hm' : cap ≤ 9223372036854775807:=by unfold maxLen at hm;omega
 have hce : Tryz.prog.cellsOf 92 = 8:=by kernel_rfl
 rw [hce] at hx
 by_cases h0 : len = 0
 ·subst h0;exact ⟨some a,0,cap,[],by simpa using hcs,rfl,hl,hm',.inl rfl⟩
 obtain ⟨b,o,spot⟩:=a;obtain ⟨cs0,k1,k2⟩:=hx 0 (by omega)
 have hspot : spot = none:=by
  obtain ⟨_,hl0,hc0⟩:=World.cells?_some k1;have:=hc0 0 (by omega);rw [List.getElem?_eq_getElem (by omega)] at this
  simpa [Addr.add] using World.cell?_spot this
 subst hspot
 have hblt : b < w.heap.size:=by
  obtain ⟨_,hl0,hc0⟩:=World.cells?_some k1;have:=hc0 0 (by omega);rw [List.getElem?_eq_getElem (by omega)] at this
  rcases Nat.lt_or_ge b w.heap.size with h1 | h1
  ·exact h1
  ·simp [Addr.add,World.cell?,Array.getElem?_eq_none h1] at this
 have each : ∀ i,i < len → ∃ v : Vd,RAt w b (o + i * 8) (vdF v):=fun i hi => by
  obtain ⟨cs,k1,k2⟩:=hx i (by omega);obtain ⟨_,hl0,hc0⟩:=World.cells?_some k1;refine vd_of_trod (fun j hj => ?_) k2;have:=hc0 j hj;rw [add_add,Addr.add_lit] at this;rw [Nat.add_assoc];exact this
 have hin : Inhabited Vd:=⟨⟨⟨#[]⟩,0,⟨#[]⟩,⟨#[]⟩,false,⟨#[]⟩,false,[]⟩⟩;obtain ⟨f,hf⟩:=choose_lt each;refine ⟨some ⟨b,o,none⟩,len,cap,(List.range len).map f,by simpa using hcs,by simp,hl,hm',.inr ⟨b,o,rfl,hblt,fun j r hj => ?_⟩⟩;rw [List.getElem?_map,List.getElem?_map] at hj
 by_cases hjl : j < len
 ·rw [List.getElem?_range hjl] at hj;obtain rfl:=Option.some.inj hj;exact hf j hjl
 ·rw [List.getElem?_eq_none (by simp;omega)] at hj
  cases hj

theorem xd_of_trod {b o n : Nat} {cs : List Value} {x : DataW H × List MemPlace} (hc : ∀ i,i < 5 → w.cell? ⟨b,o + i,none⟩ = cs[i]?) (h : DataW.trod enc Tryz.prog w base spare held n 95 cs = some x) : ∃ v : Xd,RAt w b o (xdF v):=by
 obtain ⟨m,hl,hf⟩:=open_aggC Tryz.underlying95 (by kernel_rfl) (by kernel_rfl) h;obtain ⟨c0,y0,e0,t0⟩:=hf 0 _ rfl;obtain ⟨b0,q0,-,s0⟩:=DataW.trod_string Tryz.underlying9 t0
 obtain rfl : c0 = .string b0:=by simpa using q0
 obtain ⟨c1,y1,e1,t1⟩:=hf 1 _ rfl;obtain ⟨b1,q1,-,s1⟩:=DataW.trod_int Tryz.underlying2 t1
 obtain rfl : c1 = .int .i64 b1:=by simpa using q1
 obtain ⟨c2,y2,e2,t2⟩:=hf 2 _ rfl;obtain ⟨b2,q2,-,s2⟩:=DataW.trod_string Tryz.underlying9 t2
 obtain rfl : c2 = .string b2:=by simpa using q2
 obtain ⟨c3,y3,e3,t3⟩:=hf 3 _ rfl;obtain ⟨b3,q3,-⟩:=DataW.trod_bool Tryz.underlying4 t3
 obtain rfl : c3 = .bool b3:=by simpa using q3
 obtain ⟨c4,y4,e4,t4⟩:=hf 4 _ rfl;obtain ⟨b4,q4,-,s4⟩:=DataW.trod_string Tryz.underlying9 t4
 obtain rfl : c4 = .string b4:=by simpa using q4
 unfold maxLen at s0 s2 s4;refine ⟨⟨b0,b1,b2,b3,b4⟩,fun i f hi => ?_⟩
 rcases i with _ | _ | _ | _ | _ | i
 ·cases hi
  exact ⟨_,(hc 0 (by omega)).trans e0,rfl,show b0.size ≤ _ by omega⟩
 ·cases hi
  exact ⟨_,(hc 1 (by omega)).trans e1,rfl⟩
 ·cases hi
  exact ⟨_,(hc 2 (by omega)).trans e2,rfl,show b2.size ≤ _ by omega⟩
 ·cases hi
  exact ⟨_,(hc 3 (by omega)).trans e3,rfl⟩
 ·cases hi
  exact ⟨_,(hc 4 (by omega)).trans e4,rfl,show b4.size ≤ _ by omega⟩
 ·first | (cases hi;done) | (simp [xdF] at hi;done)

theorem xdrow_of_trod {n : Nat} {c : Value} {y : DataW H × List MemPlace} (h : DataW.trod enc Tryz.prog w base spare held n 25 [c] = some y) : ∃ a len cap,∃ xs : List Xd,c = .slice a len cap ∧ RRow w a len cap 5 (xs.map xdF):=by
 rcases open_slice Tryz.underlying25 h with ⟨hcs,_⟩ | ⟨a,len,cap,m,n',D,Pl,hcs,hb,hl,hm,hmm,_,hx⟩
 ·exact ⟨none,0,0,[],by simpa using hcs,rfl,Nat.le_refl _,by omega,.inl rfl⟩
 have hlm : len ≤ m:=by rw [hmm];split <;> omega
 have hm' : cap ≤ 9223372036854775807:=by unfold maxLen at hm;omega
 have hce : Tryz.prog.cellsOf 95 = 5:=by kernel_rfl
 rw [hce] at hx
 by_cases h0 : len = 0
 ·subst h0;exact ⟨some a,0,cap,[],by simpa using hcs,rfl,hl,hm',.inl rfl⟩
 obtain ⟨b,o,spot⟩:=a;obtain ⟨cs0,k1,k2⟩:=hx 0 (by omega)
 have hspot : spot = none:=by
  obtain ⟨_,hl0,hc0⟩:=World.cells?_some k1;have:=hc0 0 (by omega);rw [List.getElem?_eq_getElem (by omega)] at this
  simpa [Addr.add] using World.cell?_spot this
 subst hspot
 have hblt : b < w.heap.size:=by
  obtain ⟨_,hl0,hc0⟩:=World.cells?_some k1;have:=hc0 0 (by omega);rw [List.getElem?_eq_getElem (by omega)] at this
  rcases Nat.lt_or_ge b w.heap.size with h1 | h1
  ·exact h1
  ·simp [Addr.add,World.cell?,Array.getElem?_eq_none h1] at this
 have each : ∀ i,i < len → ∃ v : Xd,RAt w b (o + i * 5) (xdF v):=fun i hi => by
  obtain ⟨cs,k1,k2⟩:=hx i (by omega);obtain ⟨_,hl0,hc0⟩:=World.cells?_some k1;refine xd_of_trod (fun j hj => ?_) k2;have:=hc0 j hj;rw [add_add,Addr.add_lit] at this;rw [Nat.add_assoc];exact this
 have hin : Inhabited Xd:=⟨⟨⟨#[]⟩,0,⟨#[]⟩,false,⟨#[]⟩⟩⟩;obtain ⟨f,hf⟩:=choose_lt each;refine ⟨some ⟨b,o,none⟩,len,cap,(List.range len).map f,by simpa using hcs,by simp,hl,hm',.inr ⟨b,o,rfl,hblt,fun j r hj => ?_⟩⟩;rw [List.getElem?_map,List.getElem?_map] at hj
 by_cases hjl : j < len
 ·rw [List.getElem?_range hjl] at hj;obtain rfl:=Option.some.inj hj;exact hf j hjl
 ·rw [List.getElem?_eq_none (by simp;omega)] at hj
  cases hj

theorem pd_of_trod {b o n : Nat} {cs : List Value} {x : DataW H × List MemPlace} (hc : ∀ i,i < 6 → w.cell? ⟨b,o + i,none⟩ = cs[i]?) (h : DataW.trod enc Tryz.prog w base spare held n 98 cs = some x) : ∃ v : Pd,RAt w b o (pdF v):=by
 obtain ⟨m,hl,hf⟩:=open_aggC Tryz.underlying98 (by kernel_rfl) (by kernel_rfl) h;obtain ⟨c0,y0,e0,t0⟩:=hf 0 _ rfl;obtain ⟨b0,q0,-,s0⟩:=DataW.trod_string Tryz.underlying9 t0
 obtain rfl : c0 = .string b0:=by simpa using q0
 obtain ⟨c1,y1,e1,t1⟩:=hf 1 _ rfl;obtain ⟨b1,q1,-,s1⟩:=DataW.trod_int Tryz.underlying2 t1
 obtain rfl : c1 = .int .i64 b1:=by simpa using q1
 obtain ⟨c2,y2,e2,t2⟩:=hf 2 _ rfl;obtain ⟨b2,q2,-,s2⟩:=DataW.trod_string Tryz.underlying9 t2
 obtain rfl : c2 = .string b2:=by simpa using q2
 obtain ⟨c3,y3,e3,t3⟩:=hf 3 _ rfl;obtain ⟨b3,l3,p3,zz,rfl,r3⟩:=row_of_trod Tryz.underlying54 Tryz.underlying9 (by kernel_rfl) t3;obtain ⟨c4,y4,e4,t4⟩:=hf 4 _ rfl;obtain ⟨b4,q4,-,s4⟩:=DataW.trod_string Tryz.underlying9 t4
 obtain rfl : c4 = .string b4:=by simpa using q4
 obtain ⟨c5,y5,e5,t5⟩:=hf 5 _ rfl;obtain ⟨b5,q5,-,s5⟩:=DataW.trod_int Tryz.underlying2 t5
 obtain rfl : c5 = .int .i64 b5:=by simpa using q5
 unfold maxLen at s0 s2 s4;refine ⟨⟨b0,b1,b2,zz,b4,b5⟩,fun i f hi => ?_⟩
 rcases i with _ | _ | _ | _ | _ | _ | i
 ·cases hi
  exact ⟨_,(hc 0 (by omega)).trans e0,rfl,show b0.size ≤ _ by omega⟩
 ·cases hi
  exact ⟨_,(hc 1 (by omega)).trans e1,rfl⟩
 ·cases hi
  exact ⟨_,(hc 2 (by omega)).trans e2,rfl,show b2.size ≤ _ by omega⟩
 ·cases hi
  exact ⟨_,(hc 3 (by omega)).trans e3,b3,l3,p3,rfl,r3⟩
 ·cases hi
  exact ⟨_,(hc 4 (by omega)).trans e4,rfl,show b4.size ≤ _ by omega⟩
 ·cases hi
  exact ⟨_,(hc 5 (by omega)).trans e5,rfl⟩
 ·first | (cases hi;done) | (simp [pdF] at hi;done)

theorem pdrow_of_trod {n : Nat} {c : Value} {y : DataW H × List MemPlace} (h : DataW.trod enc Tryz.prog w base spare held n 26 [c] = some y) : ∃ a len cap,∃ xs : List Pd,c = .slice a len cap ∧ RRow w a len cap 6 (xs.map pdF):=by
 rcases open_slice Tryz.underlying26 h with ⟨hcs,_⟩ | ⟨a,len,cap,m,n',D,Pl,hcs,hb,hl,hm,hmm,_,hx⟩
 ·exact ⟨none,0,0,[],by simpa using hcs,rfl,Nat.le_refl _,by omega,.inl rfl⟩
 have hlm : len ≤ m:=by rw [hmm];split <;> omega
 have hm' : cap ≤ 9223372036854775807:=by unfold maxLen at hm;omega
 have hce : Tryz.prog.cellsOf 98 = 6:=by kernel_rfl
 rw [hce] at hx
 by_cases h0 : len = 0
 ·subst h0;exact ⟨some a,0,cap,[],by simpa using hcs,rfl,hl,hm',.inl rfl⟩
 obtain ⟨b,o,spot⟩:=a;obtain ⟨cs0,k1,k2⟩:=hx 0 (by omega)
 have hspot : spot = none:=by
  obtain ⟨_,hl0,hc0⟩:=World.cells?_some k1;have:=hc0 0 (by omega);rw [List.getElem?_eq_getElem (by omega)] at this
  simpa [Addr.add] using World.cell?_spot this
 subst hspot
 have hblt : b < w.heap.size:=by
  obtain ⟨_,hl0,hc0⟩:=World.cells?_some k1;have:=hc0 0 (by omega);rw [List.getElem?_eq_getElem (by omega)] at this
  rcases Nat.lt_or_ge b w.heap.size with h1 | h1
  ·exact h1
  ·simp [Addr.add,World.cell?,Array.getElem?_eq_none h1] at this
 have each : ∀ i,i < len → ∃ v : Pd,RAt w b (o + i * 6) (pdF v):=fun i hi => by
  obtain ⟨cs,k1,k2⟩:=hx i (by omega);obtain ⟨_,hl0,hc0⟩:=World.cells?_some k1;refine pd_of_trod (fun j hj => ?_) k2;have:=hc0 j hj;rw [add_add,Addr.add_lit] at this;rw [Nat.add_assoc];exact this
 have hin : Inhabited Pd:=⟨⟨⟨#[]⟩,0,⟨#[]⟩,[],⟨#[]⟩,0⟩⟩;obtain ⟨f,hf⟩:=choose_lt each;refine ⟨some ⟨b,o,none⟩,len,cap,(List.range len).map f,by simpa using hcs,by simp,hl,hm',.inr ⟨b,o,rfl,hblt,fun j r hj => ?_⟩⟩;rw [List.getElem?_map,List.getElem?_map] at hj
 by_cases hjl : j < len
 ·rw [List.getElem?_range hjl] at hj;obtain rfl:=Option.some.inj hj;exact hf j hjl
 ·rw [List.getElem?_eq_none (by simp;omega)] at hj
  cases hj

end

end Rc
end Go.Proofs.YtdfgbboadbnodaaGreatDoor
