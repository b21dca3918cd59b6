import Derived.Test.YtpibkpofdbjdaaaGreatDoorB4
import Derived.Deep.AppendLies
import Derived.Lib.Overlaps
import Derived.Lib.SliceRun
import Derived.Lib.AppendZerosOnto
import Derived.Deep.RegionLaw
import Derived.Shelf.RegionOpenPlain
import Derived.Stop.LaidErr
import Derived.ChangeVars
import Derived.Deep.Strs
import Derived.Deep.Fields
import Derived.WideShapes
import Derived.ChangeArms
/-
 A cluster in memory of its own, as the program makes it.
-/
set_option maxRecDepth 100000
set_option maxHeartbeats 12800000
namespace Go.Proofs.YtpibkpofdbjdaaaGreatDoor
theorem qqd14 {p : Prop} (h : p:=by simp [results,Tryz.results14,go_sem, *]) : p:=h
theorem qqd16 {p : Prop} (h : p:=by simp [results,Tryz.results48,go_sem, *]) : p:=h
theorem qqd17 {p : Prop} (h : p:=by rw [List.length_take];omega) : p:=h
theorem qqd22 {p : Prop} (h : p:=by simp [Act.eval,Act.put]) : p:=h
theorem qqd23 {p : Prop} (h : p:=by have : (0 + len) * bytes ≤ 8 * 1000:=Nat.mul_le_mul (by omega) hb8;omega) : p:=h
theorem qqd24 {p : Prop} (h : p:=by first | decide | omega) : p:=h
theorem qqd25 {p : Prop} (h : p:=by simp only [List.length_append,List.length_take,List.length_drop];omega) : p:=h
end Go.Proofs.YtpibkpofdbjdaaaGreatDoor
namespace Go.Proofs.YtpibkpofdbjdaaaGreatDoor
theorem qqa7 {p : Prop} (h : p:=by
 go_wp2;exact bodyPost_ret (v:=.agg #[.slice none 0 0,.slice none 0 0,.slice none 0 0,.slice none 0 0,.slice none 0 0,.int .i64 0,.string ⟨#[]⟩,.int .i64 cc]) (by simp [results,Tryz.results15,go_sem, *]) rfl ⟨ad0,co0 cc,rfl,HV.out,own0 _ _,set_below (show w.heap.size ≤ w.heap.size + 1 by omega) (set_below (show w.heap.size ≤ w.heap.size + 1 by omega) (set_below (show w.heap.size ≤ w.heap.size + 1 by omega) (set_below (show w.heap.size ≤ w.heap.size + 1 by omega) (set_below (show w.heap.size ≤ w.heap.size + 1 by omega) (set_below (show w.heap.size ≤ w.heap.size + 1 by omega) (set_below (show w.heap.size ≤ w.heap.size + 1 by omega) (set_below (show w.heap.size ≤ w.heap.size + 1 by omega) (HB.out))))))))⟩) : p:=h
theorem qqa29 {p : Prop} (h : p:=by
 go_enter Tryz.func109,Tryz.ntmps109;go_wp2_with (first | (at_builtin;refine wpList_append_two rfl _ _ 65 34 rfl base 69 69 i0 (.agg #[.string ⟨#[]⟩,.int .i64 0,.string ⟨#[]⟩,.slice none 0 0,.string ⟨#[]⟩,.int .i64 0]) 6 88 Tryz.underlying65 Tryz.underlying34 HI0.out.1 HI0.out.2.1 HI0.out.2.2.1 HI0.out.2.2.2 rfl qqd3 _ _ _ rfl HO.out ⟨vb,0,none⟩ 1 1 ys rfl qqd1 HYN.out HY1.out qqd9 qqd1 hbs ?_));intro v' w' h1 h2;have H1:=hidK h1;have H2:=hidK h2;clear h1 h2;go_wp2;go_ret;exact ⟨v',rfl,H1.out,H2.out⟩) : p:=h
theorem qqa34 {p : Prop} (h : p:=by
 go_simp;refine hK _ _ (Rv.other qqd3 (Below.refl _ _)) ?_;with_reducible rfl) : p:=h
theorem qqa43 {p : Prop} (h : p:=by
 rw [← e1] at hs3;have HS1:=hidK hs1;have HS2:=hidK hs2';have HS3:=hidK hs3;have HS4:=hidK hs4;obtain ⟨o0,o1,o2,o3,o4,o5⟩:=cs6 bo5;have fo0:=froK bo5 0;have fo1:=froK bo5 1;have fo2:=froK bo5 2;have fo3:=froK bo5 3;have fo4:=froK bo5 4;have fo5:=froK bo5 5;clear hs1 hs2' hs3 hs4 bo5 hown5 hgrow e1;go_wp2;exact ⟨⟨k + 1,_,H',_,by omega,by go_num,HS1,HS2,HS3,HS4⟩,by simp [intOf];omega⟩) : p:=h
theorem qqa75 {p : Prop} (h : p:=by
 rintro e w6 ⟨a',c',rfl,ho,hb6⟩;exact hK _ _ hb6 ⟨a',c',rfl,ho.into (fun k hk s => ⟨s,hk⟩),Below.size hW⟩) : p:=h
theorem qqa92 {p : Prop} (h : p:=by
 intro a' c' w' hR hb6;have hsw:=hW.size;exact hK _ _ hb6 ⟨a',c',rfl,hR.into (fun k _ s => by show W.heap.size ≤ k;rcases s with rfl | s <;> omega)⟩) : p:=h
theorem qqa105 {p : Prop} (h : p:=by
 rw [e] at g;exact ⟨_,xs[i]'(by omega),List.getElem?_eq_getElem hlc,by rw [g,List.getElem?_eq_getElem]⟩) : p:=h
theorem qqa114 {p : Prop} (h : p:=by
 refine Gi.Obl.plain rfl ?_;intro ac wg K lo hi hsz hW hpr hf hap hK;clear hsz hap hpr;have e1:=hf 1 qqd3;simp [Gi.slotFact,List.lookup] at e1;clear hf;exact qqa15) : p:=h
theorem qqa119 {p : Prop} (h : p:=by
 clear hf;obtain ⟨k0,k1,k2,k3,k4,k5⟩:=cs6 ((Below.block hW _ (lt_of_some Bk.out)).trans Bk.out);exact qqa15) : p:=h
theorem qqa121 {p : Prop} (h : p:=by
 replace HB:=upB HB hbx;clear hb hbx HA0;clear hcc;obtain ⟨r0,r1,r2,r3,r4,r5,r6,r7⟩:=cs8 Br.out;have ltr_2:=lt_of_some Br.out;obtain ⟨fr0,fr1,fr2,fr3,fr4,fr5⟩:=qqb8;have fr6:=froK Br.out 6;have fr7:=froK Br.out 7;have hrl : w.heap.size + 1 < w2.heap.size:=lt_of_some Br.out;exact qqa7) : p:=h
theorem qqa126 {p : Prop} (h : p:=by
 clear hf;obtain ⟨k0,k1,k2,k3,k4,k5⟩:=cs6 ((hW.block _ (lt_of_some Bk.out)).trans Bk.out);exact qqa15) : p:=h
theorem qqa128 {p : Prop} (h : p:=by
 refine Obl.plain rfl ?_;intro ac wg K hsz hW hf hK;clear hsz;have e1:=hf 1 qqd3;simp [slotFact,List.lookup] at e1;clear hf;exact qqa15) : p:=h
theorem qqa132 {p : Prop} (h : p:=by
 refine Gi.Obl.plain rfl ?_;intro ac wg K lo hi hsz hW hpr hf hap hK;clear hsz hap hpr;have hW : wr.grownBy wg v.ownBlock:=hW;have e3:=hf 3 qqd3;simp [Gi.slotFact,List.lookup] at e3;clear hf;exact qqa34) : p:=h
theorem qqb8 {p : Prop} (h : p:=by
 have fr0:=froK Br.out 0;have fr1:=froK Br.out 1;have fr2:=froK Br.out 2;have fr3:=froK Br.out 3;have fr4:=froK Br.out 4;have fr5:=froK Br.out 5;exact And.intro fr0 (And.intro fr1 (And.intro fr2 (And.intro fr3 (And.intro fr4 fr5))))) : p:=h
theorem qqb15 {p : Prop} (h : p:=by
 have Ck:=hidK ((hk.block (w.heap.size) (lt_of_some Bk.out) (fun s => by have s1:=s.1;have s2:=s.2;have q3:=HQ3.out;have q4:=HQ4.out;have q5:=HQ5.out;omega)).trans Bk.out);have Ca:=hidK ((hk.block (w3.heap.size) (lt_of_some Ba.out) (fun s => by have s1:=s.1;have s2:=s.2;have q3:=HQ3.out;have q4:=HQ4.out;have q5:=HQ5.out;omega)).trans Ba.out);have Cx:=hidK ((hk.block (w4.heap.size) (lt_of_some Bx.out) (fun s => by have s1:=s.1;have s2:=s.2;have q3:=HQ3.out;have q4:=HQ4.out;have q5:=HQ5.out;omega)).trans Bx.out);have Cg:=hidK ((hk.block (w5.heap.size) (lt_of_some Bg.out) (fun s => by have s1:=s.1;have s2:=s.2;have q3:=HQ3.out;have q4:=HQ4.out;have q5:=HQ5.out;omega)).trans Bg.out);exact And.intro Ck (And.intro Ca (And.intro Cx Cg))) : p:=h
theorem qqb18 {p : Prop} (h : p:=by
 have pd4:=fun q : Wd w2 => (q.cell hbl).trans c4;have e0:=fun q : Wd w2 => (q.cell hbn).trans d0;have e1:=fun q : Wd w2 => (q.cell hbn).trans d1;have e2:=fun q : Wd w2 => (q.cell hbn).trans d2;have e3:=fun q : Wd w2 => (q.cell hbn).trans d3;have e4:=fun q : Wd w2 => (q.cell hbn).trans d4;have e5:=fun q : Wd w2 => (q.cell hbn).trans d5;have e6:=fun q : Wd w2 => (q.cell hbn).trans d6;have hne0:=Wd.ne w2;have HC0:=hidK (fun q : Wd w2 => sxnd_hit ⟨(some ⟨bn,on,none⟩),l1,y1,a2,l2,y2,a3,l3,y3,a4,l4,y4,(some ⟨b,o,none⟩),l5,y5⟩ c.now c.ns x.d q.w (HR.out.n.below (HW.out.trans (q.b.mono HW.out.size))) HRN.out HNJ.out HNN.out);exact And.intro pd4 (And.intro e0 (And.intro e1 (And.intro e2 (And.intro e3 (And.intro e4 (And.intro e5 (And.intro e6 (And.intro hne0 HC0))))))))) : p:=h
theorem qqb25 {p : Prop} (h : p:=by
 have hlm : len ≤ m:=by rw [hmm];split <;> omega
 have hm' : cap ≤ 9223372036854775807:=by unfold maxLen at hm;omega
 exact And.intro hlm hm') : p:=h
theorem qqb28 {p : Prop} (h : p:=by
 have hXs:=HBX.out.size;have HBW:=hidK (HBX.out.trans (HK.out.low (X:=w.heap.size) hXs (fun k s => by rcases s with rfl | s <;> omega)));have BkR:=hidK ((HK.out.block w.heap.size qqd1 (fun s => by rcases s with s | s <;> omega)).trans Bk.out);have hKs:=HK.out.size;exact And.intro hXs (And.intro HBW (And.intro BkR hKs))) : p:=h
theorem qqb61 {p : Prop} (h : p:=by
 have Br : Hid (W.heap[w.heap.size + 1]? = some (.cells #[.slice none 0 0,.slice none 0 0,.slice none 0 0,.slice none 0 0,.slice none 0 0,.int .i64 0] 36 (0,0))):=by rw [hW0];exact heap2_1 _ _ _
 have hWs : W.heap.size = w.heap.size + 1 + 1:=by rw [hW0];simp
 exact And.intro Br hWs) : p:=h
theorem qqb62 {p : Prop} (h : p:=by
 have fr6:=froK Br.out 6;have fr7:=froK Br.out 7;have hrl : w.heap.size + 1 < w3.heap.size:=lt_of_some Br.out;exact And.intro fr6 (And.intro fr7 hrl)) : p:=h
theorem qqb80 {p : Prop} (h : p:=by
 have hbr : b < wr.heap.size:=Nat.lt_of_lt_of_le hb0 HBW.out.size;have hkr:=lt_of_some BkR.out;have hor:=lt_of_some Bo.out;exact And.intro hbr (And.intro hkr hor)) : p:=h
theorem qqb83 {p : Prop} (h : p:=by
 have hs2 : wr.heap.size + 1 < w2.heap.size:=by have:=hb2.size;simp at this;omega
 have hsl : ∀ k,(k = wr.heap.size + 1 ∨ wr.heap.size + 1 + 1 ≤ k) → wr.heap.size + 1 ≤ k:=fun k s => by omega
 exact And.intro hs2 hsl) : p:=h
theorem qqb89 {p : Prop} (h : p:=by
 have HG : Hid (∀ zs : List ByteArray,x.zs = zs → zs ≠ [] → wr.heap.size ≤ g):=fun zs e hz => by subst e;have:=hsl _ (hg.lt hz).1;omega
 have HB4:=hidK hb4;have HO4:=hidK (owns_below HO.out hb4);exact And.intro HG (And.intro HB4 HO4)) : p:=h
end Go.Proofs.YtpibkpofdbjdaaaGreatDoor
namespace Go.Proofs.YtpibkpofdbjdaaaGreatDoor
open Go.RowKit
namespace Rc
open Mk

structure Sm (c : Cl) : Prop where
 n : c.ns.length ≤ 8
 ns : ∀ (j : Nat) x,c.ns[j]? = some x → x.zs.length ≤ 8001
 k : c.ks.length ≤ 8
 v : c.vs.length ≤ 8
 vs : ∀ (j : Nat) x,c.vs[j]? = some x → x.zs.length ≤ 8001
 x : c.xs.length ≤ 8
 p : c.ps.length ≤ 8
 ps : ∀ (j : Nat) x,c.ps[j]? = some x → x.zs.length ≤ 8001
theorem RightI.sm {c : Cl} (h : RightI c) : Sm c:=by
 obtain ⟨_,⟨⟨h1,h2,_⟩,⟨h3,_⟩,⟨h4,h5,_⟩,⟨h6,_⟩,⟨h7,h8,_⟩⟩,_⟩:=h;refine ⟨by omega,fun j x hj => ?_,by omega,by omega,fun j x hj => ?_,by omega,by omega,fun j x hj => ?_⟩
 ·have:=(h2 j x hj).2.2.2.2.2.1;omega
 ·have:=(names_six (h5 j x hj).2.2.2.2.2.2).1;omega
 ·have:=(h8 j x hj).2.2.2.1.1;omega

def flatV (r : List Fv) : List Value:=r.map fun f => f.val.getD undef
def FlatR (r : List Fv) : Prop:=∀ (i : Nat) f,r[i]? = some f → ∃ v,f.val = some v
theorem Fv.Is.val {w : World} {f : Fv} {v u : Value} (h : f.Is w v) (hu : f.val = some u) : v = u ∧ f.Fr w 0 (fun _ => False) v:=by
 cases f with
 | s t => cases hu;exact ⟨h.1,h⟩
 | i n => cases hu;exact ⟨h,h⟩
 | b x => cases hu;exact ⟨h,h⟩
 | l zs => cases hu
theorem Fv.Fr.any {w w' : World} {f : Fv} {v u : Value} {h h' : Nat} {S S' : Nat → Prop} (k : f.Fr w h S v) (hu : f.val = some u) : f.Fr w' h' S' v:=by
 cases f with
 | l zs => cases hu
 | _ => exact k
theorem flatV_at {r : List Fv} (hf : FlatR r) {i : Nat} {f : Fv} (hi : r[i]? = some f) : ∃ u,f.val = some u ∧ (flatV r)[i]? = some u:=by
 obtain ⟨u,hu⟩:=hf i f hi;exact ⟨u,hu,by rw [flatV,List.getElem?_map,hi];simp [hu]⟩
theorem flatV_inv {r : List Fv} (hf : FlatR r) {i : Nat} {u : Value} (hi : (flatV r)[i]? = some u) : ∃ f,r[i]? = some f ∧ f.val = some u:=by
 rw [flatV,List.getElem?_map] at hi;obtain ⟨f,h1,h2⟩:=Option.map_eq_some_iff.1 hi;obtain ⟨v,hv⟩:=hf i f h1;rw [hv] at h2;exact ⟨f,h1,by rw [hv];simpa using h2⟩
section
variable {w : World} {a : Option Addr} {len cap m : Nat} {rs : List (List Fv)}
theorem flat_all (hm : ∀ (j : Nat) r,rs[j]? = some r → r.length = m) : ∀ (j : Nat) vs,(rs.map flatV)[j]? = some vs → vs.length = m:=by
 intro j vs hj;rw [List.getElem?_map] at hj;obtain ⟨r,h1,rfl⟩:=Option.map_eq_some_iff.1 hj;rw [flatV,List.length_map];exact hm j r h1
theorem flat_news {b o : Nat} (h : RRow w (some ⟨b,o,none⟩) len cap m rs) (hm : ∀ (j : Nat) r,rs[j]? = some r → r.length = m ∧ FlatR r) : ∀ (k : Nat) u,(rs.map flatV).flatten[k]? = some u → w.cell? ((⟨b,o,none⟩ : Addr).add k) = some u:=by
 intro k u hk;obtain ⟨j,i,vs,h1,h2,rfl⟩:=flat_inv (flat_all fun j r hj => (hm j r hj).1) hk;rw [List.getElem?_map] at h1;obtain ⟨r,h3,rfl⟩:=Option.map_eq_some_iff.1 h1;obtain ⟨f,h4,h5⟩:=flatV_inv (hm j r h3).2 h2;rcases h.2.2.2 with rfl | ⟨b',o',e,_,hc⟩
 ·simp at h3
 ·cases e;obtain ⟨v,h6,h7⟩:=hc j r h3 i f h4;rw [Addr.add_lit,← Nat.add_assoc,h6,(h7.val h5).1]
theorem flat_recs (h : RRow w a len cap m rs) (hm : ∀ (j : Nat) r,rs[j]? = some r → r.length = m ∧ FlatR r) (w' : World) (S : Nat → Prop) : VRecs w' S m rs (rs.map flatV) (fun _ _ => 0):=by
 refine ⟨by simp,flat_all fun j r hj => (hm j r hj).1,fun j r hj => (hm j r hj).1,fun j r vs hj hv i f hi => ?_,fun j r i zs j' r' i' zs' hj hi => ?_⟩
 ·rw [List.getElem?_map,hj] at hv;cases hv;obtain ⟨u,h1,h2⟩:=flatV_at (hm j r hj).2 hi;rcases h.2.2.2 with rfl | ⟨b',o',e,_,hc⟩
  ·simp at hj
  ·obtain ⟨v,h6,h7⟩:=hc j r hj i f hi;obtain ⟨rfl,h8⟩:=h7.val h1;exact ⟨v,h2,h8.any h1⟩
 ·obtain ⟨v,hv⟩:=(hm j r hj).2 i _ hi;cases hv
end
theorem wp_copy {o : Oper} {a : Act} {w : World} {K : Act → World → Prop} {Q : Exit → Act → World → Prop} (s x : Operand) (t T : TypeId) (ho : o.op = .call { callee:=.builtin .append,args:=#[s,x],argTypes:=#[t,t] }) (i : TypeInfo) (z : Value) (m bytes : Nat) (ht : Tryz.prog.underlying t = some (.slice T)) (hi : Tryz.prog.info? T = some i) (hz : i.zero = some z)
  (hsize : i.size = m) (hby : i.bytes = bytes) (hzs : z.cells.size = m) (hsz : 0 < m) (hT : ¬ T = 9) (base : Nat) (v0 : Value) (hs : a.eval s = v0) (hown : w.ownsRow base T m v0 0 []) (hbw : base ≤ w.heap.size) {ad : Addr} {len cap : Nat} {rs : List (List Fv)} (hx : a.eval x = .slice (some ad) len cap) (hr : RRow w (some ad) len cap m rs) (hm : ∀ (j : Nat) r,rs[j]? = some r → r.length = m ∧ FlatR r) (hl : len ≤ 8) (hb8 : bytes ≤ 1000)
  (h : ∀ a' c' w',ROwn w' a' len c' m T rs (fun k => base ≤ k ∧ k < w'.heap.size) → w.grownBy w' v0.ownBlock → K (a.put o.dst (.slice a' len c')) w') : o.wp Tryz.prog a w K Q:=by
 have hlen : ((rs.map flatV).flatten).length = len * m:=by rw [flat_len (flat_all fun j r hj => (hm j r hj).1),List.length_map,hr.1]
 have hne : rs = [] ∨ ∃ b o,ad = (⟨b,o,none⟩ : Addr):=by
  rcases hr.2.2.2 with h1 | ⟨b,o,e,_⟩
  ·exact .inl h1
  ·cases e;exact .inr ⟨b,o,rfl⟩
 have hnews : ∀ (j : Nat) u,((rs.map flatV).flatten)[j]? = some u → w.cell? (ad.add j) = some u:=by
  rcases hne with rfl | ⟨b,o,rfl⟩
  ·intro j u hu;simp at hu
  ·exact flat_news hr hm
 refine wp_append_own w s x t ho base T i z m bytes ht hi hz hsize hby hzs hsz v0 0 [] hs hown ad len cap (rs.map flatV).flatten hx hlen hnews (flat_recs hr hm w (fun _ => True)).one qqd9 qqd23 hbw ?_;intro v' w' ho' hg' _;rw [Nat.zero_add,List.nil_append] at ho';obtain ⟨a',c',rfl,hR⟩:=(flat_recs hr hm w' (fun k => base ≤ k ∧ k < w'.heap.size)).own ho' hr.1.symm hT (fun g hg => ho'.lt g hg);rw [hr.1] at hR ⊢;exact h a' c' w' hR hg'
theorem kd_flat (x : Kd) : (kdF x).length = 4 ∧ FlatR (kdF x):=⟨rfl,fun i f h => by
 rcases i with _ | _ | _ | _ | i <;> first | (cases h;exact ⟨_,rfl⟩) | (simp [kdF] at h)⟩
theorem xd_flat (x : Xd) : (xdF x).length = 5 ∧ FlatR (xdF x):=⟨rfl,fun i f h => by
 rcases i with _ | _ | _ | _ | _ | i <;> first | (cases h;exact ⟨_,rfl⟩) | (simp [xdF] at h)⟩
theorem map_flat {α : Type} {F : α → List Fv} {m : Nat} (hF : ∀ x,(F x).length = m ∧ FlatR (F x)) (xs : List α) : ∀ (j : Nat) r,(xs.map F)[j]? = some r → r.length = m ∧ FlatR r:=by
 intro j r hj;rw [List.getElem?_map] at hj;obtain ⟨x,_,rfl⟩:=Option.map_eq_some_iff.1 hj;exact hF x
def OwnF (B : Nat) (len m : Nat) (T : TypeId) (rs : List (List Fv)) : Gi.Fact:=fun v w l h => ∃ a c,v = .slice a len c ∧ ROwn w a len c m T rs (fun k => l ≤ k ∧ k < h) ∧ B ≤ l
theorem OwnF.mono (ex : Gi.Ex) (s : Option Tmp) (B len m : Nat) (T : TypeId) (rs : List (List Fv)) : Gi.Fact.Mono (fun _ => Gi.Bel) ex s (OwnF B len m T rs):=by
 rintro s' _ _ _ v w w' l h ⟨a,c,h1,h2,h3⟩ hb;exact ⟨a,c,h1,h2.below hb,h3⟩
def ClF (B : Nat) (c : Cl) : Gi.Fact:=fun v w _ _ => ∃ d : Ad,v = .agg #[.slice d.a1 d.l1 d.c1,.slice d.a2 d.l2 d.c2,.slice d.a3 d.l3 d.c3,.slice d.a4 d.l4 d.c4,.slice d.a5 d.l5 d.c5,.int .i64 c.now] ∧ ClOwn w d c.raw (fun k => B ≤ k)
theorem ClF.mono (ex : Gi.Ex) (s : Option Tmp) (B : Nat) (c : Cl) : Gi.Fact.Mono (fun _ => Gi.Bel) ex s (ClF B c):=by
 rintro s' _ _ _ v w w' l h ⟨d,h1,h2⟩ hb;exact ⟨d,h1,h2.below hb⟩

theorem iownC_any (d : Ad) (c : Cl) (w : World) (hr : ClRow w d c.raw) (hs : Sm c) :
  Calls Tryz.prog 33 #[.agg #[.slice d.a1 d.l1 d.c1,.slice d.a2 d.l2 d.c2,.slice d.a3 d.l3 d.c3,.slice d.a4 d.l4 d.c4,.slice d.a5 d.l5 d.c5,.int .i64 c.now]] w fun e w' => ∃ d',e = .returned (.agg #[.slice d'.a1 d'.l1 d'.c1,.slice d'.a2 d'.l2 d'.c2,.slice d'.a3 d'.l3 d'.c3,.slice d'.a4 d'.l4 d'.c4,.slice d'.a5 d'.l5 d'.c5,.int .i64 c.now]) ∧ ClOwn w' d' c.raw (fun k => w.heap.size ≤ k) ∧ Below w.heap.size w w':=by
 have HR:=hidK hr;have HS:=hidK hs;have hl1 : c.ns.length = d.l1:=by simpa using (show (c.ns.map ndF).length = d.l1 from hr.n.1)
 have hl2 : c.ks.length = d.l2:=by simpa using (show (c.ks.map kdF).length = d.l2 from hr.k.1)
 have hl3 : c.vs.length = d.l3:=by simpa using (show (c.vs.map vdF).length = d.l3 from hr.v.1)
 have hl4 : c.xs.length = d.l4:=by simpa using (show (c.xs.map xdF).length = d.l4 from hr.x.1)
 have hl5 : c.ps.length = d.l5:=by simpa using (show (c.ps.map pdF).length = d.l5 from hr.p.1)
 clear hr hs;obtain ⟨i2,hi2⟩:=Option.map_eq_some_iff.1 infokd;obtain ⟨i4,hi4⟩:=Option.map_eq_some_iff.1 infoxd;have HI2:=hidK hi2;have HI4:=hidK hi4;clear hi2 hi4;obtain ⟨W,hW0⟩ : ∃ W,W = (w.alloc (.cells #[.slice d.a1 d.l1 d.c1,.slice d.a2 d.l2 d.c2,.slice d.a3 d.l3 d.c3,.slice d.a4 d.l4 d.c4,.slice d.a5 d.l5 d.c5,.int .i64 c.now] 36)).alloc (.cells #[.slice none 0 0,.slice none 0 0,.slice none 0 0,.slice none 0 0,.slice none 0 0,.int .i64 0] 36):=⟨_,rfl⟩;have HB : Hid (Below w.heap.size w W):=by rw [hW0];exact below2 _ _ _
 have Bk : Hid (W.heap[w.heap.size]? = some (.cells #[.slice d.a1 d.l1 d.c1,.slice d.a2 d.l2 d.c2,.slice d.a3 d.l3 d.c3,.slice d.a4 d.l4 d.c4,.slice d.a5 d.l5 d.c5,.int .i64 c.now] 36 (0,0))):=by rw [hW0];exact heap2_0 _ _ _
 obtain ⟨Br,hWs⟩:=qqb61;go_enter Tryz.func33,Tryz.ntmps33;go_wp2_with fail;rw [← hW0];clear hW0;rename_i K0 hK0;refine Gi.wp_region_grow_last (ex:=fun _ => none) (Gi.Bel.rel 0) qqd2 rfl rfl qqd2 qqd2 ?_;refine' Gi.Grow.stepC _ rfl ?_ ?_;rotate_left 1
 ·exact qqa114
 refine' Gi.Grow.stepC _ rfl ?_ ?_;rotate_left 1
 ·refine Gi.Obl.plain rfl ?_;intro ac wg K lo hi hsz hW hpr hf hap hK;clear hsz hap hpr;have e3:=hf 3 qqd3;simp [Gi.slotFact,List.lookup] at e3;exact qqa119
 refine Gi.Grow.step (OwnF W.heap.size d.l1 7 82 (c.ns.map ndF)) rfl (OwnF.mono _ _ _ _ _ _ _) ?_ ?_
 ·refine Gi.Obl.plain rfl ?_;intro ac wg K lo hi hsz hW hpr hf hap hK;clear hsz hpr hap;have e4:=hf 4 qqd3;simp [Gi.slotFact,List.lookup] at e4;clear hf;go_simp;refine (iownednd_any d.a1 d.l1 d.c1 c.ns _ (HR.out.n.below (HB.out.trans (Below.mono hW HB.out.size))) (by have:=HS.out.n;omega) HS.out.ns).mono ?_;exact qqa75
 refine' Gi.Grow.stepC _ rfl ?_ ?_;rotate_left 1
 ·exact qqa114
 refine' Gi.Grow.stepC _ rfl ?_ ?_;rotate_left 1
 ·refine Gi.Obl.plain rfl ?_;intro ac wg K lo hi hsz hW hpr hf hap hK;clear hsz hap hpr;have e6:=hf 6 qqd3;simp [Gi.slotFact,List.lookup] at e6;exact qqa119
 refine Gi.Grow.step (OwnF W.heap.size d.l2 4 109 (c.ks.map kdF)) rfl (OwnF.mono _ _ _ _ _ _ _) ?_ ?_
 ·refine Gi.Obl.plain rfl ?_;intro ac wg K lo hi hsz hW hpr hf hap hK;clear hsz hpr hap;have e7:=hf 7 qqd3;simp [Gi.slotFact,List.lookup] at e7;clear hf;cases hq : d.a2 with
  | none =>
   have h0 : c.ks = []:=by
    rcases HR.out.k.2.2.2 with h | ⟨b,o,e,_⟩
    ·have h9 : c.ks.map kdF = []:=h
     simpa using h9
    ·rw [hq] at e;cases e
   have hl0 : d.l2 = 0:=by rw [← hl2,h0];rfl
   rw [hq,hl0] at e7;go_simp;refine hK _ _ (Below.refl _ _) ⟨none,0,by rw [hl0],?_,Below.size hW⟩;rw [hl0,h0];exact ROwn.nil _ _ _ _ _ qqd1
  | some ad =>
   rw [hq] at e7;have hin:=HR.out.k.below (HB.out.trans (Below.mono hW HB.out.size));have hin2 : RRow wg d.a2 d.l2 d.c2 4 (c.ks.map kdF):=hin;rw [hq] at hin2
   have hz : i2.zero = some (.agg #[.string ⟨#[]⟩,.bool false,.bool false,.string ⟨#[]⟩]) ∧ i2.size = 4 ∧ i2.bytes = 40:=by have:=HI2.out.2;simp only [Prod.mk.injEq] at this;exact this
   refine wp_copy _ (.tmp 7) 31 109 rfl i2 (.agg #[.string ⟨#[]⟩,.bool false,.bool false,.string ⟨#[]⟩]) 4 40 Tryz.underlying31 HI2.out.1 hz.1 hz.2.1 hz.2.2 rfl qqd3 qqd3 wg.heap.size (.slice none 0 0) rfl (World.ownsRow_nil _ _ _ _) (Nat.le_refl _) (by simpa [Act.eval] using e7) hin2 (map_flat kd_flat _) (by have:=HS.out.k;omega) qqd3 ?_;intro a' c' w' hR hg;exact hK _ _ ((Below.refl _ _).grown hg (Nat.le_refl _) (fun k hk => by cases hk)) ⟨a',c',rfl,hR,Below.size hW⟩
 refine' Gi.Grow.stepC _ rfl ?_ ?_;rotate_left 1
 ·exact qqa114
 refine' Gi.Grow.stepC _ rfl ?_ ?_;rotate_left 1
 ·refine Gi.Obl.plain rfl ?_;intro ac wg K lo hi hsz hW hpr hf hap hK;clear hsz hap hpr;have e9:=hf 9 qqd3;simp [Gi.slotFact,List.lookup] at e9;exact qqa119
 refine Gi.Grow.step (OwnF W.heap.size d.l3 8 106 (c.vs.map vdF)) rfl (OwnF.mono _ _ _ _ _ _ _) ?_ ?_
 ·refine Gi.Obl.plain rfl ?_;intro ac wg K lo hi hsz hW hpr hf hap hK;clear hsz hpr hap;have e10:=hf 10 qqd3;simp [Gi.slotFact,List.lookup] at e10;clear hf;go_simp;refine (iownedvd_any d.a3 d.l3 d.c3 c.vs _ (HR.out.v.below (HB.out.trans (Below.mono hW HB.out.size))) (by have:=HS.out.v;omega) HS.out.vs).mono ?_;exact qqa75
 refine' Gi.Grow.stepC _ rfl ?_ ?_;rotate_left 1
 ·exact qqa114
 refine' Gi.Grow.stepC _ rfl ?_ ?_;rotate_left 1
 ·refine Gi.Obl.plain rfl ?_;intro ac wg K lo hi hsz hW hpr hf hap hK;clear hsz hap hpr;have e12:=hf 12 qqd3;simp [Gi.slotFact,List.lookup] at e12;exact qqa119
 refine Gi.Grow.step (OwnF W.heap.size d.l4 5 112 (c.xs.map xdF)) rfl (OwnF.mono _ _ _ _ _ _ _) ?_ ?_
 ·refine Gi.Obl.plain rfl ?_;intro ac wg K lo hi hsz hW hpr hf hap hK;clear hsz hpr hap;have e13:=hf 13 qqd3;simp [Gi.slotFact,List.lookup] at e13;clear hf;cases hq : d.a4 with
  | none =>
   have h0 : c.xs = []:=by
    rcases HR.out.x.2.2.2 with h | ⟨b,o,e,_⟩
    ·have h9 : c.xs.map xdF = []:=h
     simpa using h9
    ·rw [hq] at e;cases e
   have hl0 : d.l4 = 0:=by rw [← hl4,h0];rfl
   rw [hq,hl0] at e13;go_simp;refine hK _ _ (Below.refl _ _) ⟨none,0,by rw [hl0],?_,Below.size hW⟩;rw [hl0,h0];exact ROwn.nil _ _ _ _ _ qqd1
  | some ad =>
   rw [hq] at e13;have hin:=HR.out.x.below (HB.out.trans (Below.mono hW HB.out.size));have hin2 : RRow wg d.a4 d.l4 d.c4 5 (c.xs.map xdF):=hin;rw [hq] at hin2
   have hz : i4.zero = some (.agg #[.string ⟨#[]⟩,.int .i64 0,.string ⟨#[]⟩,.bool false,.string ⟨#[]⟩]) ∧ i4.size = 5 ∧ i4.bytes = 64:=by have:=HI4.out.2;simp only [Prod.mk.injEq] at this;exact this
   refine wp_copy _ (.tmp 13) 33 112 rfl i4 (.agg #[.string ⟨#[]⟩,.int .i64 0,.string ⟨#[]⟩,.bool false,.string ⟨#[]⟩]) 5 64 Tryz.underlying33 HI4.out.1 hz.1 hz.2.1 hz.2.2 rfl qqd3 qqd3 wg.heap.size (.slice none 0 0) rfl (World.ownsRow_nil _ _ _ _) (Nat.le_refl _) (by simpa [Act.eval] using e13) hin2 (map_flat xd_flat _) (by have:=HS.out.x;omega) qqd3 ?_;intro a' c' w' hR hg;exact hK _ _ ((Below.refl _ _).grown hg (Nat.le_refl _) (fun k hk => by cases hk)) ⟨a',c',rfl,hR,Below.size hW⟩
 refine' Gi.Grow.stepC _ rfl ?_ ?_;rotate_left 1
 ·exact qqa114
 refine' Gi.Grow.stepC _ rfl ?_ ?_;rotate_left 1
 ·refine Gi.Obl.plain rfl ?_;intro ac wg K lo hi hsz hW hpr hf hap hK;clear hsz hap hpr;have e15:=hf 15 qqd3;simp [Gi.slotFact,List.lookup] at e15;exact qqa119
 refine Gi.Grow.step (OwnF W.heap.size d.l5 6 69 (c.ps.map pdF)) rfl (OwnF.mono _ _ _ _ _ _ _) ?_ ?_
 ·refine Gi.Obl.plain rfl ?_;intro ac wg K lo hi hsz hW hpr hf hap hK;clear hsz hpr hap;have e16:=hf 16 qqd3;simp [Gi.slotFact,List.lookup] at e16;clear hf;go_simp;refine (iownedpd_any d.a5 d.l5 d.c5 c.ps _ (HR.out.p.below (HB.out.trans (Below.mono hW HB.out.size))) (by have:=HS.out.p;omega) HS.out.ps).mono ?_;exact qqa75
 refine' Gi.Grow.stepC _ rfl ?_ ?_;rotate_left 1
 ·exact qqa114
 refine' Gi.Grow.stepC _ rfl ?_ ?_;rotate_left 1
 ·refine Gi.Obl.plain rfl ?_;intro ac wg K lo hi hsz hW hpr hf hap hK;clear hsz hap hpr;have e18:=hf 18 qqd3;simp [Gi.slotFact,List.lookup] at e18;exact qqa119
 refine Gi.Grow.step (ClF W.heap.size c) rfl (ClF.mono _ _ _ _) ?_ ?_
 ·refine Gi.Obl.plain rfl ?_;intro ac wg K lo hi hsz hW hpr hf hap hK;clear hsz hpr;have e5:=hf 5 qqd3;simp [Gi.slotFact,List.lookup] at e5;have e8:=hf 8 qqd3;simp [Gi.slotFact,List.lookup] at e8;have e11:=hf 11 qqd3;simp [Gi.slotFact,List.lookup] at e11;have e14:=hf 14 qqd3;simp [Gi.slotFact,List.lookup] at e14;have e17:=hf 17 qqd3;simp [Gi.slotFact,List.lookup] at e17;have e19:=hf 19 qqd3;simp [Gi.slotFact,List.lookup] at e19;clear hf;obtain ⟨a1,c1,e5,ho1,hB1⟩:=e5;obtain ⟨a2,c2,e8,ho2,hB2⟩:=e8;obtain ⟨a3,c3,e11,ho3,hB3⟩:=e11;obtain ⟨a4,c4,e14,ho4,hB4⟩:=e14;obtain ⟨a5,c5,e17,ho5,hB5⟩:=e17;have hap2 : ∀ t ∈ [5,8,11,14,17],∀ t' ∈ [5,8,11,14,17],¬ t = t' → hi t ≤ lo t' ∨ hi t' ≤ lo t:=by
   intro t ht t' ht' hne;refine hap t ?_ t' ?_ ?_ ?_ hne
   ·simp only [List.mem_cons,List.not_mem_nil,or_false] at ht;rcases ht with rfl | rfl | rfl | rfl | rfl <;> decide
   ·simp only [List.mem_cons,List.not_mem_nil,or_false] at ht';rcases ht' with rfl | rfl | rfl | rfl | rfl <;> decide
   ·simp only [List.mem_cons,List.not_mem_nil,or_false] at ht;rcases ht with rfl | rfl | rfl | rfl | rfl <;> rfl
   ·simp only [List.mem_cons,List.not_mem_nil,or_false] at ht';rcases ht' with rfl | rfl | rfl | rfl | rfl <;> rfl
  clear hap;have q01:=hap2 5 qqd3 8 qqd3 qqd3;have q02:=hap2 5 qqd3 11 qqd3 qqd3;have q03:=hap2 5 qqd3 14 qqd3 qqd3;have q04:=hap2 5 qqd3 17 qqd3 qqd3;have q12:=hap2 8 qqd3 11 qqd3 qqd3;have q13:=hap2 8 qqd3 14 qqd3 qqd3;have q14:=hap2 8 qqd3 17 qqd3 qqd3;have q23:=hap2 11 qqd3 14 qqd3 qqd3;have q24:=hap2 11 qqd3 17 qqd3 qqd3;have q34:=hap2 14 qqd3 17 qqd3 qqd3;clear hap2;have hC : ClOwn wg ⟨a1,d.l1,c1,a2,d.l2,c2,a3,d.l3,c3,a4,d.l4,c4,a5,d.l5,c5⟩ c.raw (fun k => W.heap.size ≤ k):=by
   refine ⟨fun k => if lo 5 ≤ k ∧ k < hi 5 then 1 else if lo 8 ≤ k ∧ k < hi 8 then 2 else if lo 11 ≤ k ∧ k < hi 11 then 3 else if lo 14 ≤ k ∧ k < hi 14 then 4 else 5,?_,?_,?_,?_,?_⟩
   ·exact ho1.into (fun k _ s => ⟨by have s1 : lo 5 ≤ k:=s.1;show W.heap.size ≤ k;omega,by have s1 : lo 5 ≤ k:=s.1;have s2 : k < hi 5:=s.2;show (if lo 5 ≤ k ∧ k < hi 5 then 1 else if lo 8 ≤ k ∧ k < hi 8 then 2 else if lo 11 ≤ k ∧ k < hi 11 then 3 else if lo 14 ≤ k ∧ k < hi 14 then 4 else 5) = 1;rw [if_pos ⟨s1,s2⟩]⟩)
   ·exact ho2.into (fun k _ s => ⟨by have s1 : lo 8 ≤ k:=s.1;show W.heap.size ≤ k;omega,by have s1 : lo 8 ≤ k:=s.1;have s2 : k < hi 8:=s.2;show (if lo 5 ≤ k ∧ k < hi 5 then 1 else if lo 8 ≤ k ∧ k < hi 8 then 2 else if lo 11 ≤ k ∧ k < hi 11 then 3 else if lo 14 ≤ k ∧ k < hi 14 then 4 else 5) = 2;rw [if_neg qqd1];rw [if_pos ⟨s1,s2⟩]⟩)
   ·exact ho3.into (fun k _ s => ⟨by have s1 : lo 11 ≤ k:=s.1;show W.heap.size ≤ k;omega,by have s1 : lo 11 ≤ k:=s.1;have s2 : k < hi 11:=s.2;show (if lo 5 ≤ k ∧ k < hi 5 then 1 else if lo 8 ≤ k ∧ k < hi 8 then 2 else if lo 11 ≤ k ∧ k < hi 11 then 3 else if lo 14 ≤ k ∧ k < hi 14 then 4 else 5) = 3;rw [if_neg qqd1];rw [if_neg qqd1];rw [if_pos ⟨s1,s2⟩]⟩)
   ·exact ho4.into (fun k _ s => ⟨by have s1 : lo 14 ≤ k:=s.1;show W.heap.size ≤ k;omega,by have s1 : lo 14 ≤ k:=s.1;have s2 : k < hi 14:=s.2;show (if lo 5 ≤ k ∧ k < hi 5 then 1 else if lo 8 ≤ k ∧ k < hi 8 then 2 else if lo 11 ≤ k ∧ k < hi 11 then 3 else if lo 14 ≤ k ∧ k < hi 14 then 4 else 5) = 4;rw [if_neg qqd1];rw [if_neg qqd1];rw [if_neg qqd1];rw [if_pos ⟨s1,s2⟩]⟩)
   ·exact ho5.into (fun k _ s => ⟨by have s1 : lo 17 ≤ k:=s.1;show W.heap.size ≤ k;omega,by have s1 : lo 17 ≤ k:=s.1;have s2 : k < hi 17:=s.2;show (if lo 5 ≤ k ∧ k < hi 5 then 1 else if lo 8 ≤ k ∧ k < hi 8 then 2 else if lo 11 ≤ k ∧ k < hi 11 then 3 else if lo 14 ≤ k ∧ k < hi 14 then 4 else 5) = 5;rw [if_neg qqd1];rw [if_neg qqd1];rw [if_neg qqd1];rw [if_neg qqd1]⟩)
  have HC:=hidK hC;clear hC ho1 ho2 ho3 ho4 ho5 q01 q02 q03 q04 q12 q13 q14 q23 q24 q34 hB1 hB2 hB3 hB4 hB5;go_simp;exact hK _ _ (Below.refl _ _) ⟨_,rfl,HC.out⟩
 refine Gi.Grow.done ?_;intro q wz lo hi hW hf hap;clear hap;simp only [List.forall_mem_cons] at hf;obtain ⟨hf20,-⟩:=hf;obtain ⟨d',h20,ho⟩:=hf20 qqd5;have HO:=hidK ho;have HBz:=hidK (HB.out.trans (Below.mono hW HB.out.size));have gr:=(Below.block hW _ (lt_of_some Br.out)).trans Br.out;have hws:=Below.size hW;obtain ⟨r0,r1,r2,r3,r4,r5⟩:=cs6 gr;have f0:=froK gr 0;have f1:=froK gr 1;have f2:=froK gr 2;have f3:=froK gr 3;have f4:=froK gr 4;have f5:=froK gr 5;clear gr ho hW;intro K hK;rw [if_pos (by rfl)];simp only [Gi.putsAll,List.foldr,Act.put,List.setIfInBounds_toArray,List.set_cons_zero,List.set_cons_succ,h20];simp only [List.getLast];go_simp;refine hK _ _ ?_;refine hK0 _ _ ?_;clear hK hK0 K K0;go_wp2_with fail;refine bodyPost_ret (v:=.agg #[.slice d'.a1 d'.l1 d'.c1,.slice d'.a2 d'.l2 d'.c2,.slice d'.a3 d'.l3 d'.c3,.slice d'.a4 d'.l4 d'.c4,.slice d'.a5 d'.l5 d'.c5,.int .i64 c.now]) (by simp [results,Tryz.results33,go_sem, *]) rfl ⟨d',rfl,?_,set_below (show w.heap.size ≤ w.heap.size + 1 by omega) (set_below (show w.heap.size ≤ w.heap.size + 1 by omega) (set_below (show w.heap.size ≤ w.heap.size + 1 by omega) (set_below (show w.heap.size ≤ w.heap.size + 1 by omega) (set_below (show w.heap.size ≤ w.heap.size + 1 by omega) (set_below (show w.heap.size ≤ w.heap.size + 1 by omega) (HBz.out))))))⟩;obtain ⟨P,hP⟩:=HO.out;exact ⟨P,hP.keep (fun k _ s => by have s1 : W.heap.size ≤ k:=s;rw [Below.heap_setCell _ _ _ _ (show k ≠ w.heap.size + 1 by omega),Below.heap_setCell _ _ _ _ (show k ≠ w.heap.size + 1 by omega),Below.heap_setCell _ _ _ _ (show k ≠ w.heap.size + 1 by omega),Below.heap_setCell _ _ _ _ (show k ≠ w.heap.size + 1 by omega),Below.heap_setCell _ _ _ _ (show k ≠ w.heap.size + 1 by omega),Below.heap_setCell _ _ _ _ (show k ≠ w.heap.size + 1 by omega)]) (fun k _ s => by have s1 : W.heap.size ≤ k:=s;show w.heap.size ≤ k;omega)⟩

structure Co where
 c : Cl
 n : ByteArray
 p : Int
def cl0 : Cl:=⟨[],[],[],[],[],0⟩
def co0 (p : Int) : Co:=⟨cl0,⟨#[]⟩,p⟩
def ad0 : Ad:=⟨none,0,0,none,0,0,none,0,0,none,0,0,none,0,0⟩
theorem own0 (w : World) (S : Nat → Prop) : ClOwn w ad0 cl0.raw S:=⟨fun _ => 1,ROwn.nil _ _ _ _ _ (by decide),ROwn.nil _ _ _ _ _ (by decide),ROwn.nil _ _ _ _ _ (by decide),ROwn.nil _ _ _ _ _ (by decide),ROwn.nil _ _ _ _ _ (by decide)⟩
def OutI (Is : Co → Prop) (w : World) (e : Ending) (w' : World) : Prop:=∃ g o,e = .returned (.agg #[.slice g.a1 g.l1 g.c1,.slice g.a2 g.l2 g.c2,.slice g.a3 g.l3 g.c3,.slice g.a4 g.l4 g.c4,.slice g.a5 g.l5 g.c5,.int .i64 o.c.now,.string o.n,.int .i64 o.p]) ∧ Is o ∧ ClOwn w' g o.c.raw (fun k => w.heap.size ≤ k) ∧ Below w.heap.size w w'
def OutS (Is : Co → Prop) (w : World) (e : Ending) (w' : World) : Prop:=∃ g o,e = .returned (.agg #[.slice g.a1 g.l1 g.c1,.slice g.a2 g.l2 g.c2,.slice g.a3 g.l3 g.c3,.slice g.a4 g.l4 g.c4,.slice g.a5 g.l5 g.c5,.int .i64 o.c.now,.string o.n,.int .i64 o.p]) ∧ Is o ∧ ClRow w' g o.c.raw ∧ Below w.heap.size w w'

theorem eqCout_any (g g' : Ad) (o : Co) (w : World) (hr : ClRow w g o.c.raw) (hr' : ClRow w g' o.c.raw) :
  Calls Tryz.prog 9 #[.agg #[.slice g.a1 g.l1 g.c1,.slice g.a2 g.l2 g.c2,.slice g.a3 g.l3 g.c3,.slice g.a4 g.l4 g.c4,.slice g.a5 g.l5 g.c5,.int .i64 o.c.now,.string o.n,.int .i64 o.p],.agg #[.slice g'.a1 g'.l1 g'.c1,.slice g'.a2 g'.l2 g'.c2,.slice g'.a3 g'.l3 g'.c3,.slice g'.a4 g'.l4 g'.c4,.slice g'.a5 g'.l5 g'.c5,.int .i64 o.c.now,.string o.n,.int .i64 o.p]] w fun e w' => e = .returned (.bool true) ∧ Below w.heap.size w w':=by
 have HR:=hidK hr;have HR':=hidK hr';have HB:=hidK (Below.refl w.heap.size w);clear hr hr';go_enter Tryz.func9,Tryz.ntmps9;go_wp2_with fail;refine (eqCluster_any g g' o.c _ (HR.out.below (HB.out.trans ((below2 _ _ _).mono HB.out.size))) (HR'.out.below (HB.out.trans ((below2 _ _ _).mono HB.out.size)))).mono ?_;rintro e w1 ⟨rfl,hb⟩;obtain ⟨HA0,HA1,hbx⟩:=slots2 hb;have Ba:=hidK HA0;have Bb:=hidK HA1;replace HB:=upB HB hbx;clear hb hbx HA0 HA1;obtain ⟨a0,a1,a2,a3,a4,a5,a6,a7⟩:=cs8 Ba.out;have lta_1:=lt_of_some Ba.out;obtain ⟨b0,b1,b2,b3,b4,b5,b6,b7⟩:=cs8 Bb.out;have ltb_1:=lt_of_some Bb.out;go_wp2;go_ret;exact ⟨rfl,HB.out⟩

theorem markCout_any (g : Ad) (o : Co) (N : Int) (S : Nat → Prop) (w : World) (ho : ClOwn w g o.c.raw S) (hS : ∀ k,S k → k < w.heap.size) (hN : 0 < N) (hb : mkCn N o.c.raw ≤ 1152921504606846976) :
  Calls Tryz.prog 12 #[.agg #[.slice g.a1 g.l1 g.c1,.slice g.a2 g.l2 g.c2,.slice g.a3 g.l3 g.c3,.slice g.a4 g.l4 g.c4,.slice g.a5 g.l5 g.c5,.int .i64 o.c.now,.string o.n,.int .i64 o.p],.int .i64 N] w fun e w' => e = .returned (.int .i64 (mkCn N o.c.raw)) ∧ ClOwn w' g (mkC N o.c.raw) S ∧ KeptS S w w':=by
 have HO:=hidK (ho.below (below1 w (.cells #[.slice g.a1 g.l1 g.c1,.slice g.a2 g.l2 g.c2,.slice g.a3 g.l3 g.c3,.slice g.a4 g.l4 g.c4,.slice g.a5 g.l5 g.c5,.int .i64 o.c.now,.string o.n,.int .i64 o.p] 38)));have HS:=hidK hS;clear ho hS;go_enter Tryz.func12,Tryz.ntmps12;go_wp2_with fail;refine (markCluster_any g o.c N S _ HO.out (fun k s => by have:=HS.out k s;simp;omega) hN hb).mono ?_;rintro e w1 ⟨rfl,ho,hk⟩;have HO1:=hidK ho;have HK:=hidK ((KeptS.of_below (S:=S) (below1 w (.cells #[.slice g.a1 g.l1 g.c1,.slice g.a2 g.l2 g.c2,.slice g.a3 g.l3 g.c3,.slice g.a4 g.l4 g.c4,.slice g.a5 g.l5 g.c5,.int .i64 o.c.now,.string o.n,.int .i64 o.p] 38))).trans hk);clear ho hk;go_wp2;go_ret;exact ⟨rfl,HO1.out,HK.out⟩

theorem heldCout_any (g : Ad) (o : Co) (N : Int) (w : World) (hr : ClRow w g (mkC N o.c.raw)) (hN : 0 < N) (hb : mkCn N o.c.raw ≤ 1152921504606846976) :
  Calls Tryz.prog 13 #[.agg #[.slice g.a1 g.l1 g.c1,.slice g.a2 g.l2 g.c2,.slice g.a3 g.l3 g.c3,.slice g.a4 g.l4 g.c4,.slice g.a5 g.l5 g.c5,.int .i64 o.c.now,.string o.n,.int .i64 o.p],.int .i64 N] w fun e w' => e = .returned (.int .i64 (mkCn N o.c.raw)) ∧ Below w.heap.size w w':=by
 have HR:=hidK (hr.below (below1 w (.cells #[.slice g.a1 g.l1 g.c1,.slice g.a2 g.l2 g.c2,.slice g.a3 g.l3 g.c3,.slice g.a4 g.l4 g.c4,.slice g.a5 g.l5 g.c5,.int .i64 o.c.now,.string o.n,.int .i64 o.p] 38)));clear hr;obtain ⟨M,hM⟩ : ∃ M,M = mkCn N o.c.raw:=⟨_,rfl⟩;have hM0 : ¬ M < 0:=by rw [hM];have:=mkCn_ge N o.c.raw;omega
 have HM:=hidK hM;clear hM;go_enter Tryz.func13,Tryz.ntmps13;go_wp2_with fail;refine (heldCluster_any g o.c o.c.now N _ HR.out hN hb).mono ?_;rintro e w1 ⟨rfl,hb1⟩;rw [← HM.out];have HB:=hidK (slots1 hb1).2;clear hb1;go_wp2;go_ret;exact ⟨by rw [← HM.out];rfl,HB.out⟩

def wo {α : Type} (nm : α → ByteArray) (t : ByteArray) (xs : List α) : List α:=xs.filter fun x => !((nm x).toList == t.toList)
theorem wo_yes {α : Type} {nm : α → ByteArray} {t : ByteArray} {xs : List α} {k : Nat} {x : α} (h : xs[k]? = some x) (hn : ((nm x).toList == t.toList) = false) : wo nm t (xs.take (k + 1)) = wo nm t (xs.take k) ++ [x]:=by
 unfold wo;rw [List.take_add_one,h,List.filter_append];simp [hn]
theorem wo_no {α : Type} {nm : α → ByteArray} {t : ByteArray} {xs : List α} {k : Nat} {x : α} (h : xs[k]? = some x) (hn : ((nm x).toList == t.toList) = true) : wo nm t (xs.take (k + 1)) = wo nm t (xs.take k):=by
 unfold wo;rw [List.take_add_one,h,List.filter_append];simp [hn]
theorem wo_le {α : Type} (nm : α → ByteArray) (t : ByteArray) (xs : List α) : (wo nm t xs).length ≤ xs.length:=List.length_filter_le _ _
structure Sel {α β : Type} (xs ys : List α) (vss ws : List β) (k : Nat) (f : Nat → Nat) : Prop where
 len : ws.length = ys.length
 y : ∀ j,j < ys.length → ys[j]? = xs[f j]?
 v : ∀ j,j < ys.length → ws[j]? = vss[f j]?
 lt : ∀ j,j < ys.length → f j < k
 inj : ∀ i j,i < ys.length → j < ys.length → f i = f j → i = j
theorem Sel.nil {α β : Type} (xs : List α) (vss : List β) (k : Nat) (f : Nat → Nat) : Sel xs [] vss [] k f:=⟨rfl,fun j h => by simp at h,fun j h => by simp at h,fun j h => by simp at h,fun i j h => by simp at h⟩
theorem Sel.up {α β : Type} {xs ys : List α} {vss ws : List β} {k : Nat} {f : Nat → Nat} (h : Sel xs ys vss ws k f) : Sel xs ys vss ws (k + 1) f:=⟨h.len,h.y,h.v,fun j hj => Nat.lt_succ_of_lt (h.lt j hj),h.inj⟩
theorem Sel.push {α β : Type} {xs ys : List α} {vss ws : List β} {k : Nat} {f : Nat → Nat} (h : Sel xs ys vss ws k f) {x : α} {u : β} (hx : xs[k]? = some x) (hu : vss[k]? = some u) : Sel xs (ys ++ [x]) vss (ws ++ [u]) (k + 1) (fun j => if j = ys.length then k else f j):=by
 have hl:=h.len;refine ⟨by simp [hl],fun j hj => ?_,fun j hj => ?_,fun j hj => ?_,fun i j hi hj e => ?_⟩
 ·by_cases e : j = ys.length
  ·subst e;simp [hx]
  ·have hj' : j < ys.length:=by simp at hj;omega
   rw [List.getElem?_append_left hj',if_neg e];exact h.y j hj'
 ·by_cases e : j = ys.length
  ·subst e;rw [if_pos rfl,hu,List.getElem?_append_right qqd1,hl,Nat.sub_self];rfl
  ·have hj' : j < ys.length:=by simp at hj;omega
   rw [List.getElem?_append_left qqd1,if_neg e];exact h.v j hj'
 ·by_cases e : j = ys.length
  ·simp only [if_pos e];omega
  ·have hj' : j < ys.length:=by simp at hj;omega
   simp only [if_neg e];have:=h.lt j hj';omega
 ·by_cases e1 : i = ys.length <;> by_cases e2 : j = ys.length
  ·omega
  ·have hj' : j < ys.length:=by simp at hj;omega
   simp only [if_pos e1,if_neg e2] at e;have:=h.lt j hj';omega
  ·have hi' : i < ys.length:=by simp at hi;omega
   simp only [if_pos e2,if_neg e1] at e;have:=h.lt i hi';omega
  ·simp only [if_neg e1,if_neg e2] at e;exact h.inj i j (by simp at hi;omega) (by simp at hj;omega) e
theorem Sel.recs {w : World} {S : Nat → Prop} {m k : Nat} {α : Type} {F : α → List Fv} {xs ys : List α} {vss ws : List (List Value)} {H : Nat → Nat → Nat} {f : Nat → Nat} (h : Sel xs ys vss ws k f) (hv : VRecs w S m (xs.map F) vss H) : VRecs w S m (ys.map F) ws (fun j => H (f j)) :=
 hv.sel f (by rw [h.len,List.length_map]) (fun j hj => by rw [List.length_map] at hj;rw [List.getElem?_map,List.getElem?_map,h.y j hj]) (fun j hj => by rw [List.length_map] at hj;exact h.v j hj) (fun i j hi hj e => h.inj i j (by simpa using hi) (by simpa using hj) e)
theorem vals_eq6 {vs : List Value} {a0 a1 a2 a3 a4 a5 : Value} (hl : vs.length = 6) (h0 : vs[0]? = some a0) (h1 : vs[1]? = some a1) (h2 : vs[2]? = some a2) (h3 : vs[3]? = some a3) (h4 : vs[4]? = some a4) (h5 : vs[5]? = some a5) : vs = [a0,a1,a2,a3,a4,a5]:=by
 apply List.ext_getElem?;intro i;rcases i with _ | _ | _ | _ | _ | _ | i
 ·exact h0
 ·exact h1
 ·exact h2
 ·exact h3
 ·exact h4
 ·exact h5
 ·rw [List.getElem?_eq_none qqd1,List.getElem?_eq_none qqd6]
theorem recs_at {w : World} {S : Nat → Prop} {m g : Nat} {rs : List (List Fv)} {vss : List (List Value)} {H : Nat → Nat → Nat} (hV : VRecs w S m rs vss H) (hc : ∀ (k : Nat) u,vss.flatten[k]? = some u → w.cell? ⟨g,k,none⟩ = some u) {k : Nat} {vs : List Value} (hk : vss[k]? = some vs) {i : Nat} {u : Value} (hi : i < m) (hu : w.cell? ⟨g,k * m + i,none⟩ = some u) : vs[i]? = some u:=by
 have hl:=hV.all k vs hk;have h1 : vs[i]? = some (vs[i]'(by omega)):=List.getElem?_eq_getElem _;have h2:=hc _ _ (flat_at hV.all hk h1);rw [hu] at h2;rw [h1];exact h2.symm

theorem iwopd_any (a : Option Addr) (len cap : Nat) (xs : List Pd) (t : ByteArray) (Q : Nat → Prop) (w : World) (ho : ROwn w a len cap 6 69 (xs.map pdF) Q) (hl : len ≤ 8) :
  Calls Tryz.prog 34 #[.slice a len cap,.string t] w fun e w' => ∃ a' l' c',e = .returned (.slice a' l' c') ∧ ROwn w' a' l' c' 6 69 ((wo Pd.n t xs).map pdF) (fun k => Q k ∨ w.heap.size ≤ k) ∧ Below w.heap.size w w':=by
 have HR:=hidK ho.row;have hxl : xs.length = len:=by simpa using ho.1
 obtain ⟨vss,H,hV,hcell⟩:=ho.recs;have HV:=hidK hV;have HC:=hidK hcell;have hvl : vss.length = xs.length:=by rw [hV.len,List.length_map]
 clear ho hV hcell;obtain ⟨i0,hi,hz0,hz1,hz2⟩:=info_parts infopd;have HI0:=hidK (And.intro hi (And.intro hz0 (And.intro hz1 hz2)));clear hi hz0 hz1 hz2;have hmcalled : ∀ (v : Value) (w : World),(method 335 69 v "loop.example/g00571/impl.called").run Tryz.prog w = .ok (178,v) w:=fun _ _ => by kernel_rfl
 go_enter Tryz.func34,Tryz.ntmps34;go_wp2;go_loopw [5,10] (fun vo vi wr => ∃ (k : Nat) (ws : List (List Value)) (f : Nat → Nat),k ≤ len ∧ vi = .int .i64 k ∧ Hid (wr.ownsRow w.heap.size 69 6 vo (wo Pd.n t (xs.take k)).length ws.flatten) ∧ Hid (Sel xs (wo Pd.n t (xs.take k)) vss ws k f) ∧ Hid (Below w.heap.size w wr)) (fun _ vi _ => len - (intOf vi).toNat);case atStart => exact ⟨0,[],fun _ => 0,by omega,rfl,World.ownsRow_nil _ _ _ _,Sel.nil _ _ _ _,Below.refl _ _⟩
 case round =>
  obtain ⟨k,ws,f,hk,rfl,HO,HF,HB⟩:=hrel;have hBs:=HB.out.size;by_cases hlt : k < len
  ·obtain ⟨b,o,x,rfl,hb,hx,hat⟩:=pd_at HR.out hlt;obtain ⟨va,vl,vc,hvr,z0,z2,z4,c0,c1,c2,c3,c4,c5⟩:=pd_cells hat;have hvk : vss[k]? = some [.string x.n,.int .i64 x.c,.string x.z,.slice va vl vc,.string x.d,.int .i64 x.p]:=by
    have hkv : k < vss.length:=qqd1
    have h1:=List.getElem?_eq_getElem hkv;have hoz : o = 0:=by
     have h2 : 0 < (vss[k]).length:=by rw [HV.out.all k _ h1];decide
     obtain ⟨g,e,_,_⟩:=HC.out _ _ (flat_at HV.out.all h1 (List.getElem?_eq_getElem h2));cases e;rfl
    subst hoz;have hc2 : ∀ (j : Nat) u,vss.flatten[j]? = some u → w.cell? ⟨b,j,none⟩ = some u:=fun j u hj => by
     obtain ⟨g,e,_,h3⟩:=HC.out j u hj;cases e;exact h3
    rw [h1];refine congrArg some (vals_eq6 (HV.out.all k _ h1) (recs_at HV.out hc2 h1 qqd3 (by simpa using c0)) (recs_at HV.out hc2 h1 qqd3 (by simpa using c1)) (recs_at HV.out hc2 h1 qqd3 (by simpa using c2)) (recs_at HV.out hc2 h1 qqd3 (by simpa using c3)) (recs_at HV.out hc2 h1 qqd3 (by simpa using c4)) (recs_at HV.out hc2 h1 qqd3 (by simpa using c5)))
   have HX:=hidK hx;have HVK:=hidK hvk;replace c0:=(cell_below HB.out hb).trans c0;replace c1:=(cell_below HB.out hb).trans c1;replace c2:=(cell_below HB.out hb).trans c2;replace c3:=(cell_below HB.out hb).trans c3;replace c4:=(cell_below HB.out hb).trans c4;replace c5:=(cell_below HB.out hb).trans c5;have hbr : b < wr.heap.size:=Nat.lt_of_lt_of_le hb hBs;clear hat hx hvk hvr z0 z2 z4;have hn8:=wo_le Pd.n t (xs.take k);have hn9 : (wo Pd.n t (xs.take k)).length ≤ k:=by rw [List.length_take] at hn8;omega
   go_wp2_with fail;refine (calledpd_any x va vl vc _).mono ?_;rintro e w1 ⟨rfl,hb1⟩;obtain ⟨hn1,hbx⟩:=slots1 hb1;obtain ⟨n0,n1,n2,n3,n4,n5⟩:=cs6 hn1;have hs1:=lt_of_some hn1;have HO1:=hidK (owns_below HO.out hbx);have HB1:=hidK (HB.out.trans (hbx.mono hBs));clear hb1 hbx hn1 c0 c1 c2 c3 c4 c5;cases hq : (x.n.toList == t.toList)
   ·have hq2 : (x.n.toList != t.toList) = true:=by simp [bne,hq]
    go_wp2_with (first | (at_builtin;refine wpList_append_own _ rfl _ _ 65 rfl w.heap.size 69 i0 (.agg #[.string ⟨#[]⟩,.int .i64 0,.string ⟨#[]⟩,.slice none 0 0,.string ⟨#[]⟩,.int .i64 0]) 6 88 Tryz.underlying65 HI0.out.1 HI0.out.2.1 HI0.out.2.2.1 HI0.out.2.2.2 rfl qqd3 _ _ _ rfl (HO1.out.alloc _) ⟨w1.heap.size,0,none⟩ 1 1 [.string x.n,.int .i64 x.c,.string x.z,.slice va vl vc,.string x.d,.int .i64 x.p] rfl rfl ?c1 ?c2 ?c3 ?c4 ?c5 ?_));case c1 => exact news_alloc _ _ _
    case c2 => intro u hu;simp only [List.mem_cons,List.not_mem_nil,or_false] at hu;rcases hu with rfl | rfl | rfl | rfl | rfl | rfl <;> rfl
    case c3 => unfold maxLen;omega
    case c4 => omega
    case c5 => simp;omega
    rintro v' w3 hown3 hgrow -;have HO3 : Hid (w3.ownsRow w.heap.size 69 6 v' (wo Pd.n t (xs.take (k + 1))).length (ws ++ ([[.string x.n,.int .i64 x.c,.string x.z,.slice va vl vc,.string x.d,.int .i64 x.p]] : List (List Value))).flatten):=by
     show World.ownsRow _ _ _ _ _ _ _;rw [wo_yes HX.out hq,List.length_append,List.flatten_append];simpa using hown3
    have hF:=HF.out.push HX.out HVK.out;rw [← wo_yes HX.out hq] at hF;have HF3:=hidK hF;have HB3:=hidK ((HB1.out.trans ((below1 _ _).mono HB1.out.size)).grown hgrow qqd7 (fun g hg => (HO1.out.lt g hg).1));clear hown3 hgrow hF;go_wp2;exact ⟨⟨k + 1,_,_,by omega,by go_num,HO3,HF3,HB3⟩,by simp [intOf];omega⟩
   ·have hq2 : (x.n.toList != t.toList) = false:=by simp [bne,hq]
    have HF3:=hidK HF.out.up;rw [← wo_no HX.out hq] at HF3 HO1;go_wp2;exact ⟨⟨k + 1,ws,f,by omega,by go_num,HO1,HF3,HB1⟩,by simp [intOf];omega⟩
  ·obtain rfl : len = k:=qqd1
   have h5:=HF.out;have HO5:=HO;rw [List.take_of_length_le qqd1] at h5 HO5;have h6:=(h5.recs (HV.out.below HB.out)).keep (w':=wr) (S':=fun k => Q k ∨ w.heap.size ≤ k) (fun _ _ _ _ => rfl) (fun _ _ s => .inl s);obtain ⟨a',c',e,hR⟩:=h6.own HO5.out qqd6 qqd3 (fun g hg => .inr (HO5.out.lt g hg).1);subst e;have HR5:=hidK hR;clear h5 h6 hR HF HO HO5;go_wp2;go_ret;exact ⟨a',_,c',rfl,by simpa using HR5.out,HB.out⟩

theorem ClOwnP.put5 {w2 w3 w4 : World} {d : Ad} {c : Cr} {B : Nat} {P : Nat → Nat} (h : ClOwnP w2 d c (fun k => B ≤ k) P) (hB : B ≤ w2.heap.size) {a : Option Addr} {l cp : Nat} {rs : List (List Fv)} (hN : ROwn w3 a l cp 6 69 rs (fun k => ((B ≤ k ∧ P k = 5) ∧ k < w2.heap.size) ∨ w2.heap.size + 1 ≤ k)) (hb : Below w2.heap.size w2 w3) (hk : ∀ k,B ≤ k → ¬ k = w2.heap.size → w4.heap[k]? = w3.heap[k]?) : ClOwn w4 ⟨d.a1,d.l1,d.c1,d.a2,d.l2,d.c2,d.a3,d.l3,d.c3,d.a4,d.l4,d.c4,a,l,cp⟩ ⟨c.n,c.k,c.v,c.x,rs⟩ (fun k => B ≤ k):=by
 refine ⟨fun k => if w2.heap.size + 1 ≤ k then 5 else P k,?_,?_,?_,?_,?_⟩
 ·exact h.n.keep (fun k hl s => (hk k s.1 qqd1).trans (hb.block k hl)) (fun k hl s => ⟨s.1,by show (if w2.heap.size + 1 ≤ k then 5 else P k) = 1;rw [if_neg qqd1];exact s.2⟩)
 ·exact h.k.keep (fun k hl s => (hk k s.1 qqd1).trans (hb.block k hl)) (fun k hl s => ⟨s.1,by show (if w2.heap.size + 1 ≤ k then 5 else P k) = 2;rw [if_neg qqd1];exact s.2⟩)
 ·exact h.v.keep (fun k hl s => (hk k s.1 qqd1).trans (hb.block k hl)) (fun k hl s => ⟨s.1,by show (if w2.heap.size + 1 ≤ k then 5 else P k) = 3;rw [if_neg qqd1];exact s.2⟩)
 ·exact h.x.keep (fun k hl s => (hk k s.1 qqd1).trans (hb.block k hl)) (fun k hl s => ⟨s.1,by show (if w2.heap.size + 1 ≤ k then 5 else P k) = 4;rw [if_neg qqd1];exact s.2⟩)
 ·refine hN.keep (fun k _ s => hk k (by rcases s with s | s;exact s.1.1;omega) (by rcases s with s | s <;> omega)) (fun k _ s => ?_);rcases s with s | s
  ·exact ⟨s.1.1,by show (if w2.heap.size + 1 ≤ k then 5 else P k) = 5;rw [if_neg qqd1];exact s.1.2⟩
  ·exact ⟨by show B ≤ k;omega,if_pos s⟩

theorem co0_marks (p : Int) : mkCn 1 (co0 p).c.raw ≤ 1152921504606846976:=by simp [co0,cl0,Cl.raw,mkCn,mkNs]

def AskPWhy (c : Cl) (t : ByteArray) : Nat → Prop
 | 0 => 8000 < t.size
 | 1 => ¬ 8000 < t.size ∧ ¬ RightI c
 | 2 => ¬ 8000 < t.size ∧ RightI c ∧ hit Pd.n c.ps t = false
 | _ => False
def AskPI (c : Cl) (t : ByteArray) (E : Nat → Addr) (w : World) (e : Ending) (w' : World) : Prop :=
 Below w.heap.size w w' ∧ ((∃ i,i < 9 ∧ AskPWhy c t i ∧ e = .returned (.tuple #[.agg #[.string ⟨#[]⟩,.int .i64 0,.string ⟨#[]⟩,.slice none 0 0,.string ⟨#[]⟩,.int .i64 0],.iface 188 (.pointer (some (E i)))])) ∨
  (¬ 8000 < t.size ∧ RightI c ∧ ∃ (x : Pd) (va : Option Addr) (vl vc : Nat),c.ps[pl Pd.n c.ps t]? = some x ∧ x.n = t ∧ e = .returned (.tuple #[.agg #[.string x.n,.int .i64 x.c,.string x.z,.slice va vl vc,.string x.d,.int .i64 x.p],.nilIface]) ∧ TxRow w va vl vc x.zs))

theorem iaskP_any (d : Ad) (c : Cl) (t : ByteArray) (E : Nat → Addr) (w : World) (hr : ClRow w d c.raw) (hG : Ers w E) :
  Calls Tryz.prog 48 #[.agg #[.slice d.a1 d.l1 d.c1,.slice d.a2 d.l2 d.c2,.slice d.a3 d.l3 d.c3,.slice d.a4 d.l4 d.c4,.slice d.a5 d.l5 d.c5,.int .i64 c.now],.string t] w (AskPI c t E w):=by
 obtain ⟨HR,HE,HB⟩:=qqb74;clear hr hG;by_cases hl : 8000 < t.size
 ·have ev:=(HE.out.below (below2 w (.cells #[.slice d.a1 d.l1 d.c1,.slice d.a2 d.l2 d.c2,.slice d.a3 d.l3 d.c3,.slice d.a4 d.l4 d.c4,.slice d.a5 d.l5 d.c5,.int .i64 c.now] 36) (.cells #[.string ⟨#[]⟩,.int .i64 0,.string ⟨#[]⟩,.slice none 0 0,.string ⟨#[]⟩,.int .i64 0] 69))).v0;go_enter Tryz.func48,Tryz.ntmps48;go_wp2_with fail;refine (long_yes t _ hl).mono ?_;rintro e w1 ⟨rfl,rfl⟩;go_wp2;go_region;go_wp2;exact bodyPost_ret (v:=.tuple #[.agg #[.string ⟨#[]⟩,.int .i64 0,.string ⟨#[]⟩,.slice none 0 0,.string ⟨#[]⟩,.int .i64 0],.iface 188 (.pointer (some (E 0)))]) qqd16 rfl ⟨Below.drewn (below2 _ _ _),.inl ⟨0,by decide,hl,rfl⟩⟩
 go_enter Tryz.func48,Tryz.ntmps48;go_wp2_with fail;refine (long_no t _ hl).mono ?_;rintro e w1 ⟨rfl,rfl⟩;go_wp2_with fail;refine (iright_any d c _ (HR.out.below (HB.out.trans ((below2 _ _ _).mono HB.out.size))) (HE.out.below (HB.out.trans ((below2 _ _ _).mono HB.out.size))).ens).mono ?_;rintro e w1 ⟨r,rfl,hi,hb⟩;obtain ⟨HA0,HA1,hbx⟩:=slots2 hb;have Bk:=hidK HA0;have Br:=hidK HA1;replace HB:=upB HB hbx;clear hb hbx HA0 HA1;have HI:=hidK hi;clear hi;cases r
 ·obtain ⟨k0,k1,k2,k3,k4,k5⟩:=cs6 Bk.out;have ltk_1:=lt_of_some Bk.out;obtain ⟨r0,r1,r2,r3,r4,r5⟩:=cs6 Br.out;have ltr_1:=lt_of_some Br.out;obtain ⟨fr0,fr1,fr2,fr3,fr4,fr5⟩:=qqb8;have ev:=(HE.out.below HB.out).v1;have evl:=cell_lt HE.out.v1;have evn : ¬ 3 = w.heap.size + 1:=qqd1
  go_wp2;go_region;go_wp2;exact bodyPost_ret (v:=.tuple #[.agg #[.string ⟨#[]⟩,.int .i64 0,.string ⟨#[]⟩,.slice none 0 0,.string ⟨#[]⟩,.int .i64 0],.iface 188 (.pointer (some (E 1)))]) qqd16 rfl ⟨Below.drewn (set_below (show w.heap.size ≤ w.heap.size + 1 by omega) (set_below (show w.heap.size ≤ w.heap.size + 1 by omega) (set_below (show w.heap.size ≤ w.heap.size + 1 by omega) (set_below (show w.heap.size ≤ w.heap.size + 1 by omega) (set_below (show w.heap.size ≤ w.heap.size + 1 by omega) (set_below (show w.heap.size ≤ w.heap.size + 1 by omega) (HB.out))))))),.inl ⟨1,by decide,⟨hl,fun h => (by have:=HI.out.2 h;cases this)⟩,rfl⟩⟩
 have HT:=hidK (HI.out.1 qqd5);clear HI;obtain ⟨k0,k1,k2,k3,k4,k5⟩:=cs6 Bk.out;have ltk_1:=lt_of_some Bk.out;go_wp2_with fail;refine (findpd_any d.a5 d.l5 d.c5 c.ps t w _ HR.out.p HB.out).mono ?_;rintro e w2 ⟨hb,hf⟩;clear k0 k1 k2 k3 k4 k5 ltk_1;replace Bk:=upK Bk hb;replace Br:=upK Br hb;replace HB:=upB HB hb;clear hb;rcases hf with ⟨hh,x,va,vl,vc,hx,hn,rfl,z0,z2,z4,hvr⟩ | ⟨hh,rfl⟩
 ·have HX:=hidK (And.intro hx (And.intro hn hvr));clear hx hn z0 z2 z4 hh hvr;obtain ⟨k0,k1,k2,k3,k4,k5⟩:=cs6 Bk.out;have ltk_2:=lt_of_some Bk.out;obtain ⟨r0,r1,r2,r3,r4,r5⟩:=cs6 Br.out;have ltr_2:=lt_of_some Br.out;obtain ⟨fr0,fr1,fr2,fr3,fr4,fr5⟩:=qqb8;have hrl : w.heap.size + 1 < w2.heap.size:=lt_of_some Br.out;go_wp2;exact bodyPost_ret (v:=.tuple #[.agg #[.string x.n,.int .i64 x.c,.string x.z,.slice va vl vc,.string x.d,.int .i64 x.p],.nilIface]) qqd16 rfl ⟨Below.alloc (set_below (show w.heap.size ≤ w.heap.size + 1 by omega) (set_below (show w.heap.size ≤ w.heap.size + 1 by omega) (set_below (show w.heap.size ≤ w.heap.size + 1 by omega) (set_below (show w.heap.size ≤ w.heap.size + 1 by omega) (set_below (show w.heap.size ≤ w.heap.size + 1 by omega) (set_below (show w.heap.size ≤ w.heap.size + 1 by omega) (HB.out))))))) (by simp [World.setCell];have:=HB.out.size;omega) _,.inr ⟨hl,HT.out,x,va,vl,vc,HX.out.1,HX.out.2.1,rfl,HX.out.2.2⟩⟩
 ·have HH:=hidK hh;clear hh;obtain ⟨k0,k1,k2,k3,k4,k5⟩:=cs6 Bk.out;have ltk_2:=lt_of_some Bk.out;obtain ⟨r0,r1,r2,r3,r4,r5⟩:=cs6 Br.out;have ltr_2:=lt_of_some Br.out;obtain ⟨fr0,fr1,fr2,fr3,fr4,fr5⟩:=qqb8;have ev:=(HE.out.below HB.out).v2;have evl:=cell_lt HE.out.v2;have evn : ¬ 4 = w.heap.size + 1:=qqd1
  have evl2 : 4 < w2.heap.size:=cell_lt ev;have hrl : w.heap.size + 1 < w2.heap.size:=lt_of_some Br.out;go_wp2;go_region;go_wp2;exact bodyPost_ret (v:=.tuple #[.agg #[.string ⟨#[]⟩,.int .i64 0,.string ⟨#[]⟩,.slice none 0 0,.string ⟨#[]⟩,.int .i64 0],.iface 188 (.pointer (some (E 2)))]) qqd16 rfl ⟨Below.drewn (Below.alloc (set_below (show w.heap.size ≤ w.heap.size + 1 by omega) (set_below (show w.heap.size ≤ w.heap.size + 1 by omega) (set_below (show w.heap.size ≤ w.heap.size + 1 by omega) (set_below (show w.heap.size ≤ w.heap.size + 1 by omega) (set_below (show w.heap.size ≤ w.heap.size + 1 by omega) (set_below (show w.heap.size ≤ w.heap.size + 1 by omega) (HB.out))))))) (by simp [World.setCell];have:=HB.out.size;omega) _),.inl ⟨2,by decide,⟨hl,HT.out,HH.out⟩,rfl⟩⟩

theorem row_same {w : World} {g : Nat} {cs : Array Value} {T : TypeId} {f : Nat × Nat} (h : w.heap[g]? = some (.cells cs T f)) : Below w.heap.size w (w.setRow g cs):=by
 refine ⟨rfl,rfl,rfl,by simp,fun k hk => ?_⟩;by_cases e : k = g
 ·subst e;rw [setRow_heap w k cs cs T f h,h]
 ·exact setRow_other w g k cs e

theorem run_append_empty_none {w : World} (t ty e : TypeId) (i : TypeInfo) (ht : Tryz.prog.underlying t = some (.slice e)) (hi : Tryz.prog.info? e = some i) (g cap : Nat) :
  (Builtin.append_ #[t,t] ty #[.slice (some ⟨g,0,none⟩) 0 0,.slice none 0 cap]).run Tryz.prog w = .ok (.slice (some ⟨g,0,none⟩) 0 0) w:=by
 simp [Builtin.append_,run_underlying ht,sizeOf,typeInfo,hi,Builtin.lenOf,Builtin.firstCells,storeCells]

theorem TOwn.here {w : World} {g l c : Nat} {zs : List ByteArray} {S S' : Nat → Prop} (h : TOwn w (some ⟨g,0,none⟩) l c zs S) (hS : S' g) : TOwn w (some ⟨g,0,none⟩) l c zs S' :=
 ⟨h.1,h.2.imp id fun ⟨g',cur,e,_,hg⟩ => by cases e;exact ⟨g,cur,rfl,hS,hg⟩⟩

theorem run_append_texts {w : World} {g0 : Nat} {va : Option Addr} {len cap : Nat} {zs : List ByteArray} (ty : TypeId) (hg : w.heap[g0]? = some (.cells #[] 9 (0,0))) (hr : TxRow w va len cap zs) (hl : len ≤ 8001) :
  ∃ a l c w',(Builtin.append_ #[67,67] ty #[.slice (some ⟨g0,0,none⟩) 0 0,.slice va len cap]).run Tryz.prog w = .ok (.slice a l c) w' ∧ TOwn w' a l c zs (fun k => k = g0 ∨ w.heap.size ≤ k) ∧ Below w.heap.size w w':=by
 obtain ⟨i0,hi,hz0,hz1,hz2⟩:=info_parts infoStr;have hzl : zs.length = len:=hr.1;rcases Nat.eq_zero_or_pos len with h0 | h0
 ·subst h0;obtain rfl : zs = []:=List.eq_nil_of_length_eq_zero hzl;cases va with
  | none => exact ⟨_,_,_,_,run_append_empty_none 67 ty 9 i0 Tryz.underlying67 hi g0 cap,⟨⟨rfl,Nat.le_refl _,by omega,fun j x hx => by simp at hx,.inl rfl⟩,.inl rfl⟩,Below.refl _ _⟩
  | some ad =>
   have h:=run_append_room (P:=Tryz.prog) w 67 ty 9 i0 Tryz.underlying67 hi g0 0 0 #[] hg ad 0 cap [] qqd6 (fun j u hu => by simp at hu) (fun u hu => by simp at hu) qqd1 qqd6;exact ⟨_,_,_,_,h,⟨⟨rfl,Nat.le_refl _,by omega,fun j x hx => by simp at hx,.inl rfl⟩,.inl rfl⟩,by simpa using row_same hg⟩
 ·cases va with
  | none =>
   rcases hr.2.2.2.2 with h | ⟨b,o,e,_⟩
   ·subst h;simp at hzl;omega
   ·cases e
  | some ad =>
   have h:=run_append_grow (P:=Tryz.prog) w 67 ty 9 i0 (.string ⟨#[]⟩) Tryz.underlying67 hi hz0 ⟨g0,0,none⟩ 0 0 [] qqd6 (fun j u hu => by simp at hu) ad len cap (zs.map Value.string) (by rw [hz1];simpa using hzl) (Ap.news_of hr) qqd1 qqd1 (growslice_fits qqd1 qqd18);obtain ⟨v',w',hr2,h2,h3,h4⟩:=run_append_own (P:=Tryz.prog) w (base:=0) 67 ty 9 i0 (.string ⟨#[]⟩) 1 16 Tryz.underlying67 hi hz0 hz1 hz2 rfl qqd3 (.slice (some ⟨g0,0,none⟩) 0 0) 0 [] ⟨rfl,.inr ⟨g0,0,#[],rfl,Nat.zero_le _,hg,Nat.le_refl _,by unfold maxLen;omega,rfl,rfl⟩⟩ ad len cap (zs.map Value.string) (by simpa using hzl) (Ap.news_of hr) (fun u hu => by obtain ⟨x,_,rfl⟩:=List.mem_map.1 hu;rfl) qqd9 qqd1 (Nat.zero_le _);rw [h] at hr2
   cases hr2
   rw [Nat.zero_add,List.nil_append] at h2;obtain ⟨a',c',e,hT⟩:=TOwn.of_row h2 hr.2.2.2.1;have hbel : Below w.heap.size w (w.drew.alloc (.cells (([] : List Value).toArray ++ (zs.map Value.string).toArray ++ Builtin.zeroCells (Value.string ⟨#[]⟩).cells (grownCap w (0 + len) 0 9 - (0 + len))) 9)):=⟨rfl,rfl,rfl,by simp,fun k hk => heap_alloc_old w.drew _ (by simpa using hk)⟩;simp only [Nat.zero_add] at e h hbel ⊢
   cases e
   exact ⟨_,_,_,_,h,hT.here (.inr (Nat.le_refl _)),hbel⟩
theorem wpList_texts {ops : Array Oper} {rest : List Oper} {o : Oper} {a : Act} {w : World} {Q : Exit → Act → World → Prop} (hgd : o.guard = none) (s x : Operand) (ho : o.op = .call { callee:=.builtin .append,args:=#[s,x],argTypes:=#[67,67] }) (g0 : Nat) (hs : a.eval s = .slice (some ⟨g0,0,none⟩) 0 0) (hg : w.heap[g0]? = some (.cells #[] 9 (0,0)))
  (va : Option Addr) (len cap : Nat) (hx : a.eval x = .slice va len cap) (zs : List ByteArray) (hr : TxRow w va len cap zs) (hl : len ≤ 8001)
  (h : ∀ a' l c w',TOwn w' a' l c zs (fun k => k = g0 ∨ w.heap.size ≤ k) → Below w.heap.size w w' → wpList Tryz.prog ops Q rest (a.put o.dst (.slice a' l c)) w') : wpList Tryz.prog ops Q (o :: rest) a w:=by
 refine wpList_plain hgd fun K hK => ?_;obtain ⟨a',l,c,w',hrun,h1,h2⟩:=run_append_texts o.type hg hr hl;unfold Oper.wp execOp;simp only [ho,resolve,invoke,builtin,Sem.run_bind,Sem.run_pure,Result.andThen_ok,List.map_toArray,List.map_cons,List.map_nil,hs,hx,hrun];exact hK _ _ (h a' l c w' h1 h2)

theorem run_append_recs {w : World} {g0 : Nat} {va : Option Addr} {len cap m bytes : Nat} {rs : List (List Fv)} (t ty T : TypeId) (i : TypeInfo) (z : Value) (ht : Tryz.prog.underlying t = some (.slice T)) (hi : Tryz.prog.info? T = some i) (hz : i.zero = some z) (hsize : i.size = m) (hby : i.bytes = bytes) (hzs : z.cells.size = m) (hsz : 0 < m) (hT : ¬ T = 9) (hg : w.heap[g0]? = some (.cells #[] T (0,0)))
  (hr : RRow w va len cap m rs) (hm : ∀ (j : Nat) r,rs[j]? = some r → r.length = m ∧ FlatR r) (hl : len ≤ 8) (hb8 : bytes ≤ 1000) :
  ∃ a c w',(Builtin.append_ #[t,t] ty #[.slice (some ⟨g0,0,none⟩) 0 0,.slice va len cap]).run Tryz.prog w = .ok (.slice a len c) w' ∧ ROwn w' a len c m T rs (fun k => k = g0 ∨ w.heap.size ≤ k) ∧ Below w.heap.size w w':=by
 rcases Nat.eq_zero_or_pos len with h0 | h0
 ·subst h0;obtain rfl : rs = []:=List.eq_nil_of_length_eq_zero hr.1;cases va with
  | none => exact ⟨_,_,_,run_append_empty_none t ty T i ht hi g0 cap,ROwn.nil _ _ _ _ _ qqd1,Below.refl _ _⟩
  | some ad =>
   have h:=run_append_room (P:=Tryz.prog) w t ty T i ht hi g0 0 0 #[] hg ad 0 cap [] qqd6 (fun j u hu => by simp at hu) (fun u hu => by simp at hu) qqd1 qqd6;exact ⟨_,_,_,h,ROwn.nil _ _ _ _ _ qqd1,by simpa using row_same hg⟩
 ·have hlen : ((rs.map flatV).flatten).length = len * m:=by rw [flat_len (flat_all fun j r hj => (hm j r hj).1),List.length_map,hr.1]
  obtain ⟨ad,rfl,hnews⟩ : ∃ ad,va = some ad ∧ ∀ (j : Nat) u,((rs.map flatV).flatten)[j]? = some u → w.cell? (ad.add j) = some u:=by
   rcases hr.2.2.2 with h | ⟨b,o,rfl,_⟩
   ·subst h;have:=hr.1;simp at this;omega
   ·exact ⟨_,rfl,flat_news hr hm⟩
  have h:=run_append_grow (P:=Tryz.prog) w t ty T i z ht hi hz ⟨g0,0,none⟩ 0 0 [] qqd6 (fun j u hu => by simp at hu) ad len cap (rs.map flatV).flatten (by rw [hsize];exact hlen) hnews qqd1 qqd1 (growslice_fits qqd1 (by rw [hby];have : (0 + len) * bytes ≤ 8 * 1000:=Nat.mul_le_mul qqd1 hb8;omega));obtain ⟨v',w',hr2,h2,h3,h4⟩:=run_append_own (P:=Tryz.prog) w (base:=0) t ty T i z m bytes ht hi hz hsize hby hzs hsz (.slice (some ⟨g0,0,none⟩) 0 0) 0 [] ⟨by simp,.inr ⟨g0,0,#[],rfl,Nat.zero_le _,hg,Nat.le_refl _,by unfold maxLen;omega,by simp,by simp⟩⟩ ad len cap (rs.map flatV).flatten hlen hnews (flat_recs hr hm w (fun _ => True)).one qqd9 qqd23 (Nat.zero_le _);rw [h] at hr2;cases hr2;rw [Nat.zero_add,List.nil_append] at h2;obtain ⟨a',c',e,hR⟩:=(flat_recs hr hm _ (fun k => k = g0 ∨ w.heap.size ≤ k)).own h2 hr.1.symm hT (fun g hg => by simp [Value.ownBlock] at hg;exact .inr qqd1);have hbel : Below w.heap.size w (w.drew.alloc (.cells (([] : List Value).toArray ++ ((rs.map flatV).flatten).toArray ++ Builtin.zeroCells z.cells (grownCap w (0 + len) 0 T - (0 + len))) T)):=⟨rfl,rfl,rfl,by simp,fun k hk => heap_alloc_old w.drew _ (by simpa using hk)⟩;rw [hr.1] at e hR;simp only [Nat.zero_add] at e h hbel hR ⊢;cases e;exact ⟨_,_,_,h,hR,hbel⟩
theorem wp_copy0 {o : Oper} {a : Act} {w : World} {K : Act → World → Prop} {Q : Exit → Act → World → Prop} {g0 : Nat} {va : Option Addr} {len cap m bytes : Nat} {rs : List (List Fv)} (s x : Operand) (t T : TypeId) (ho : o.op = .call { callee:=.builtin .append,args:=#[s,x],argTypes:=#[t,t] }) (i : TypeInfo) (z : Value) (ht : Tryz.prog.underlying t = some (.slice T)) (hi : Tryz.prog.info? T = some i) (hz : i.zero = some z) (hsize : i.size = m) (hby : i.bytes = bytes) (hzs : z.cells.size = m) (hsz : 0 < m) (hT : ¬ T = 9) (hs : a.eval s = .slice (some ⟨g0,0,none⟩) 0 0) (hg : w.heap[g0]? = some (.cells #[] T (0,0)))
  (hx : a.eval x = .slice va len cap) (hr : RRow w va len cap m rs) (hm : ∀ (j : Nat) r,rs[j]? = some r → r.length = m ∧ FlatR r) (hl : len ≤ 8) (hb8 : bytes ≤ 1000)
  (h : ∀ a' c' w',ROwn w' a' len c' m T rs (fun k => k = g0 ∨ w.heap.size ≤ k) → Below w.heap.size w w' → K (a.put o.dst (.slice a' len c')) w') : o.wp Tryz.prog a w K Q:=by
 obtain ⟨a',c',w',hrun,h1,h2⟩:=run_append_recs t o.type T i z ht hi hz hsize hby hzs hsz hT hg hr hm hl hb8;unfold Oper.wp execOp;simp only [ho,resolve,invoke,builtin,Sem.run_bind,Sem.run_pure,Result.andThen_ok,List.map_toArray,List.map_cons,List.map_nil,hs,hx,hrun];exact h a' c' w' h1 h2

theorem slots2n {w w' : World} {o p : Obj} (h : Below (w.heap.size + 1 + 1) ((w.alloc o).alloc p) w') : w'.heap[w.heap.size]? = some o ∧ w'.heap[w.heap.size + 1]? = some p ∧ Below w.heap.size w w':=slots2 (by rw [size1,size1];exact h)
theorem news_alloc_at (w : World) (n : Nat) (hn : w.heap.size = n) (vs : List Value) (T : TypeId) : ∀ (j : Nat) u,vs[j]? = some u → (w.alloc (.cells vs.toArray T)).cell? ((⟨n,0,none⟩ : Addr).add j) = some u:=by
 subst hn;exact news_alloc w vs T
theorem put6 {w : World} {b : Nat} {T : TypeId} {u0 u1 u2 u3 u4 u5 v0 v1 v2 v3 v4 v5 : Value} (h : w.heap[b]? = some (.cells #[u0,u1,u2,u3,u4,u5] T (0,0))) :
  ((((((w.setCell ⟨b,0,none⟩ v0).setCell ⟨b,1,none⟩ v1).setCell ⟨b,2,none⟩ v2).setCell ⟨b,3,none⟩ v3).setCell ⟨b,4,none⟩ v4).setCell ⟨b,5,none⟩ v5).heap[b]? = some (.cells #[v0,v1,v2,v3,v4,v5] T (0,0)) :=
 block_set (block_set (block_set (block_set (block_set (block_set h v0) v1) v2) v3) v4) v5
theorem put6_ne {w : World} {b k : Nat} {v0 v1 v2 v3 v4 v5 : Value} (hk : ¬ k = b) :
  ((((((w.setCell ⟨b,0,none⟩ v0).setCell ⟨b,1,none⟩ v1).setCell ⟨b,2,none⟩ v2).setCell ⟨b,3,none⟩ v3).setCell ⟨b,4,none⟩ v4).setCell ⟨b,5,none⟩ v5).heap[k]? = w.heap[k]?:=by
 rw [Below.heap_setCell _ _ _ _ hk,Below.heap_setCell _ _ _ _ hk,Below.heap_setCell _ _ _ _ hk,Below.heap_setCell _ _ _ _ hk,Below.heap_setCell _ _ _ _ hk,Below.heap_setCell _ _ _ _ hk]
theorem ROwn.away {w : World} {a : Option Addr} {len cap m : Nat} {T T' : TypeId} {rs : List (List Fv)} {S : Nat → Prop} (h : ROwn w a len cap m T rs S) {b : Nat} {cs : Array Value} (hb : w.heap[b]? = some (.cells cs T' (0,0))) (h1 : ¬ T' = T) (h2 : ¬ T' = 9) : ROwn w a len cap m T rs (fun k => S k ∧ ¬ k = b):=by
 obtain ⟨a1,a2,a3,a4⟩:=h;refine ⟨a1,a2,a3,a4.imp id ?_⟩;rintro ⟨g,cur,H,e,h5⟩;refine ⟨g,cur,H,e,h5.blk,⟨h5.inS,fun q => ?_⟩,h5.len,fun j r hj i f hi => ?_,h5.inj⟩
 ·subst q;have:=h5.blk;rw [hb] at this;cases this;exact h1 rfl
 ·obtain ⟨v,q1,q2⟩:=h5.cell j r hj i f hi;refine ⟨v,q1,?_⟩;cases f with
  | l zs =>
   obtain ⟨a',l',c',k1,k2,k3,k4,k5,k6⟩:=q2;refine ⟨a',l',c',k1,k2,k3,k4,k5,k6.imp id ?_⟩;rintro ⟨z1,z2,z3,cu,z4,z5⟩;refine ⟨z1,⟨z2,fun q => ?_⟩,z3,cu,z4,z5⟩;rw [q] at z4;rw [hb] at z4
   cases z4
   exact h2 rfl
  | _ => exact q2
theorem owns_set {w : World} {base n m : Nat} {T T' : TypeId} {v u : Value} {xs : List Value} {b i : Nat} {cs : Array Value} (h : w.ownsRow base T m v n xs) (hb : w.heap[b]? = some (.cells cs T' (0,0))) (hT : ¬ T' = T) : (w.setCell ⟨b,i,none⟩ u).ownsRow base T m v n xs:=by
 refine ⟨h.1,h.2.imp id ?_⟩;rintro ⟨g,cap,cur,h1,h2,h3,h4⟩;refine ⟨g,cap,cur,h1,h2,(Below.heap_setCell _ _ _ _ (fun e => ?_)).trans h3,h4⟩;subst e;rw [hb] at h3;cases h3;exact hT rfl
theorem VRecs.set {w : World} {S : Nat → Prop} {m : Nat} {rs : List (List Fv)} {vss : List (List Value)} {H : Nat → Nat → Nat} (h : VRecs w S m rs vss H) {b i : Nat} {cs : Array Value} {T' : TypeId} {u : Value} (hb : w.heap[b]? = some (.cells cs T' (0,0))) (hT : ¬ T' = 9) : VRecs (w.setCell ⟨b,i,none⟩ u) S m rs vss H :=
 h.keep (fun k cu _ q => Below.heap_setCell _ _ _ _ (fun e => by subst e;rw [hb] at q;cases q;exact hT rfl)) (fun _ _ s => s)
theorem KeptS.of_grown {S : Nat → Prop} {W w : World} {vb : Option Nat} (hg : W.grownBy w vb) (h : ∀ g,vb = some g → S g) : KeptS S W w:=⟨hg.os,hg.tape,hg.output,hg.size,fun k hk hn => hg.block k hk (fun e => hn (h k e.symm))⟩
theorem owns_slice {w : World} {base n m : Nat} {T : TypeId} {v : Value} {xs : List Value} (h : w.ownsRow base T m v n xs) : ∃ a l c,v = .slice a l c:=by
 rcases h.2 with ⟨rfl,_⟩ | ⟨g,cap,cur,rfl,_⟩
 ·exact ⟨_,_,_,rfl⟩
 ·exact ⟨_,_,_,rfl⟩
abbrev Cps (b : Nat) (X : World) : Nat → Prop:=fun k => k = b ∨ X.heap.size ≤ k
theorem cp_blk {X wr W w5 : World} {b3 k m : Nat} {T TC : TypeId} {v : Value} {xs : List Value} {cs : Array Value} (hO : wr.ownsRow X.heap.size T m v k xs) (hBo : wr.heap[b3]? = some (.cells cs TC (0,0))) (hb3 : b3 < X.heap.size) (hb : Below wr.heap.size wr W) (hg : W.grownBy w5 v.ownBlock) : w5.heap[b3]? = some (.cells cs TC (0,0)) :=
 (hg.block b3 (Nat.lt_of_lt_of_le (lt_of_some hBo) hb.size) (fun e => by have:=(hO.lt b3 e.symm).1;omega)).trans ((hb.block _ (lt_of_some hBo)).trans hBo)
theorem cp_step {X wr W w5 : World} {b3 k m f : Nat} {T TC : TypeId} {v v' : Value} {rs : List (List Fv)} {vss : List (List Value)} {H : Nat → Nat → Nat} {cs : Array Value} {r : List Fv} {vs : List Value} {hh : Nat} (hK : KeptS (Cps b3 X) X wr) (hO : wr.ownsRow X.heap.size T m v k vss.flatten) (hV : VRecs wr (fun k => X.heap.size ≤ k) m rs vss H) (hBo : wr.heap[b3]? = some (.cells cs TC (0,0))) (hb3 : b3 < X.heap.size)
  (hb : Below wr.heap.size wr W) (hown : w5.ownsRow X.heap.size T m v' (k + 1) (vss.flatten ++ vs)) (hg : W.grownBy w5 v.ownBlock) (hT : ¬ T = 9) (hTC : ¬ TC = T) (hTS : ¬ TC = 9) (hr : r.length = m) (hvs : vs.length = m) (hc : ∀ (i : Nat) f,r[i]? = some f → ∃ v,vs[i]? = some v ∧ f.Fr W hh (fun k => X.heap.size ≤ k) v) (hfr : ∀ (i : Nat) zs,r[i]? = some (.l zs) → zs ≠ [] → wr.heap.size ≤ hh)
  (h1 : ∀ (i i' : Nat) zs zs',r[i]? = some (.l zs) → zs ≠ [] → r[i']? = some (.l zs') → zs' ≠ [] → i = i') :
  KeptS (Cps b3 X) X (w5.setCell ⟨b3,f,none⟩ v') ∧ (w5.setCell ⟨b3,f,none⟩ v').ownsRow X.heap.size T m v' (k + 1) (vss ++ [vs]).flatten ∧ (∃ H',VRecs (w5.setCell ⟨b3,f,none⟩ v') (fun k => X.heap.size ≤ k) m (rs ++ [r]) (vss ++ [vs]) H') ∧ (w5.setCell ⟨b3,f,none⟩ v').heap[b3]? = some (.cells (cs.setIfInBounds f v') TC (0,0)):=by
 have hb5:=cp_blk hO hBo hb3 hb hg;refine ⟨?_,?_,⟨_,(hV.app hb (owns_below hO hb) hT hg hr hvs hc hfr h1).set hb5 hTS⟩,block_set hb5 v'⟩
 ·exact ((hK.trans (KeptS.of_below hb)).trans (KeptS.of_grown hg (fun g e => .inr (hO.lt g e).1))).set (.inl rfl)
 ·rw [List.flatten_append];refine owns_set ?_ hb5 hTC;simpa using hown
structure ClFr (w : World) (d : Ad) (c : Cr) (S : Nat → Prop) : Prop where
 n : ROwn w d.a1 d.l1 d.c1 7 82 c.n S
 k : ROwn w d.a2 d.l2 d.c2 4 109 c.k S
 v : ROwn w d.a3 d.l3 d.c3 8 106 c.v S
 x : ROwn w d.a4 d.l4 d.c4 5 112 c.x S
 p : ROwn w d.a5 d.l5 d.c5 6 69 c.p S
def EmF (B : Nat) (T : TypeId) : Fact:=fun v w => ∃ b,v = .slice (some ⟨b,0,none⟩) 0 0 ∧ B ≤ b ∧ w.heap[b]? = some (.cells #[] T (0,0))
theorem EmF.mono (B : Nat) (T : TypeId) : Fact.Mono (EmF B T):=by
 rintro v w w' ⟨b,h1,h2,h3⟩ hb;exact ⟨b,h1,h2,(hb.block _ (lt_of_some h3)).trans h3⟩
def RwF (B len m : Nat) (T : TypeId) (rs : List (List Fv)) : Fact:=fun v w => ∃ a c,v = .slice a len c ∧ ROwn w a len c m T rs (fun k => B ≤ k)
theorem RwF.mono (B len m : Nat) (T : TypeId) (rs : List (List Fv)) : Fact.Mono (RwF B len m T rs):=by
 rintro v w w' ⟨a,c,h1,h2⟩ hb;exact ⟨a,c,h1,h2.below hb⟩
def CpF (B l2 l4 : Nat) (c : Cl) : Fact:=fun v w => ∃ a2 c2 a4 c4,v = .agg #[.slice none 0 0,.slice a2 l2 c2,.slice none 0 0,.slice a4 l4 c4,.slice none 0 0,.int .i64 c.now] ∧ ROwn w a2 l2 c2 4 109 (c.ks.map kdF) (fun k => B ≤ k) ∧ ROwn w a4 l4 c4 5 112 (c.xs.map xdF) (fun k => B ≤ k)
theorem CpF.mono (B l2 l4 : Nat) (c : Cl) : Fact.Mono (CpF B l2 l4 c):=by
 rintro v w w' ⟨a2,c2,a4,c4,h1,h2,h3⟩ hb;exact ⟨a2,c2,a4,c4,h1,h2.below hb,h3.below hb⟩
def FrF (B : Nat) : Fact:=fun v w => ∃ b,v = .pointer (some ⟨b,0,none⟩) ∧ B ≤ b ∧ w.heap[b]? = some (.cells #[.slice none 0 0,.slice none 0 0,.slice none 0 0,.slice none 0 0,.slice none 0 0,.int .i64 0] 36 (0,0))
theorem FrF.mono (B : Nat) : Fact.Mono (FrF B):=by
 rintro v w w' ⟨b,h1,h2,h3⟩ hb;exact ⟨b,h1,h2,(hb.block _ (lt_of_some h3)).trans h3⟩

def Rv (vb : Option Nat) (sp : Tmp) : Gi.Rs:=fun s w w' => match s with
 | none => w.grownBy w' vb
 | some t => if t = sp then w.grownBy w' vb else Below w.heap.size w w'
theorem grown_of_below {w w' : World} (vb : Option Nat) (h : Below w.heap.size w w') : w.grownBy w' vb:=⟨h.os,h.tape,h.output,h.size,fun k hk _ => h.block k hk⟩
theorem Rv.below {vb : Option Nat} {sp : Tmp} {s : Option Tmp} {w w' : World} (h : Rv vb sp s w w') (h1 : ¬ s = none) (h2 : ¬ s = some sp) : Below w.heap.size w w':=by
 cases s with
 | none => exact absurd rfl h1
 | some t =>
  simp only [Rv] at h;rw [if_neg (fun e => h2 (by rw [e]))] at h;exact h
theorem Rv.rel (vb : Option Nat) (sp : Tmp) : Gi.Rel (Rv vb sp) sp:=by
 refine ⟨fun w => grown_of_below vb (Below.refl _ _),fun {a b c} h k => ?_,fun h => World.grownBy.size h,fun w => grown_of_below vb (Below.refl _ _).drew,fun s {a b} h => ?_,fun s {a b} h1 h2 h => Rv.below h h1 h2⟩
 ·have h : World.grownBy a b vb:=h;have k : World.grownBy b c vb:=k;exact ⟨k.os.trans h.os,k.tape.trans h.tape,k.output.trans h.output,Nat.le_trans h.size k.size,fun i hi hn => (k.block i (Nat.lt_of_lt_of_le hi h.size) hn).trans (h.block i hi hn)⟩
 ·cases s with
  | none => exact h
  | some t =>
   show World.grownBy a b vb
   simp only [Rv] at h
   split at h
   ·exact h
   ·exact grown_of_below vb h
theorem Rv.other {vb : Option Nat} {sp t : Tmp} {w w' : World} (ht : ¬ t = sp) (h : Below w.heap.size w w') : Rv vb sp (some t) w w':=by
 show (if t = sp then w.grownBy w' vb else Below w.heap.size w w');rw [if_neg ht];exact h
theorem Rv.this {vb : Option Nat} {sp : Tmp} {w w' : World} (h : w.grownBy w' vb) : Rv vb sp (some sp) w w':=by
 show (if sp = sp then w.grownBy w' vb else Below w.heap.size w w');rw [if_pos rfl];exact h
theorem news_blk {w : World} {b : Nat} {vs : List Value} {T : TypeId} (h : w.heap[b]? = some (.cells vs.toArray T (0,0))) : ∀ (j : Nat) u,vs[j]? = some u → w.cell? ((⟨b,0,none⟩ : Addr).add j) = some u:=by
 intro j u hu;rw [Addr.add_lit,cellK h,Nat.zero_add];simpa using hu
def TvF (B : Nat) (x : Vd) : Gi.Fact:=fun u w _ _ => ∃ a l c,u = .agg #[.string x.n,.int .i64 x.c,.string x.z,.string x.k,.bool x.x,.string x.m,.bool x.y,.slice a l c] ∧ TOwn w a l c x.zs (fun k => B ≤ k)
def BsF (B : Nat) (x : Vd) : Gi.Fact:=fun u w _ _ => ∃ b a l c,u = .slice (some ⟨b,0,none⟩) 1 1 ∧ B ≤ b ∧ w.heap[b]? = some (.cells #[.string x.n,.int .i64 x.c,.string x.z,.string x.k,.bool x.x,.string x.m,.bool x.y,.slice a l c] 106 (0,0)) ∧ TOwn w a l c x.zs (fun k => B ≤ k)
def ApF (B k : Nat) (rs : List (List Fv)) (vss : List (List Value)) : Gi.Fact:=fun u w _ _ => ∃ H' vs,w.ownsRow B 106 8 u (k + 1) (vss ++ [vs]).flatten ∧ VRecs w (fun k => B ≤ k) 8 rs (vss ++ [vs]) H'
theorem TvF.mono {vb : Option Nat} {sp : Tmp} {ex : Gi.Ex} {d : Option Tmp} {B : Nat} {x : Vd} (hv : ∀ g,vb = some g → g < B) : Gi.Fact.Mono (Rv vb sp) ex d (TvF B x):=by
 rintro s _ _ _ v w w' l h ⟨a,l,c,h1,h2⟩ hb;have hb : w.grownBy w' vb:=(Rv.rel vb sp).sub s hb;exact ⟨a,l,c,h1,h2.keep (fun k hk s => hb.block k hk (fun e => by have s1 : B ≤ k:=s;have:=hv k e.symm;omega)) (fun _ _ s => s)⟩
theorem BsF.mono {vb : Option Nat} {sp : Tmp} {ex : Gi.Ex} {d : Option Tmp} {B : Nat} {x : Vd} (hv : ∀ g,vb = some g → g < B) : Gi.Fact.Mono (Rv vb sp) ex d (BsF B x):=by
 rintro s _ _ _ v w w' l h ⟨b,a,l,c,h1,h2,h3,h4⟩ hb;have hb : w.grownBy w' vb:=(Rv.rel vb sp).sub s hb;exact ⟨b,a,l,c,h1,h2,(hb.block _ (lt_of_some h3) (fun e => by have:=hv b e.symm;omega)).trans h3,h4.keep (fun k hk s => hb.block k hk (fun e => by have s1 : B ≤ k:=s;have:=hv k e.symm;omega)) (fun _ _ s => s)⟩
theorem ApF.mono {vb : Option Nat} {sp : Tmp} {ex : Gi.Ex} {B k : Nat} {rs : List (List Fv)} {vss : List (List Value)} : Gi.Fact.Mono (Rv vb sp) ex (some sp) (ApF B k rs vss):=by
 rintro s h1 h2 _ v w w' l h ⟨H',vs,h3,h4⟩ hb;have hb:=Rv.below hb h1 h2;exact ⟨H',vs,owns_below h3 hb,h4.below hb⟩

theorem scopyC_any (d : Ad) (c : Cl) (w : World) (hr : ClRow w d c.raw) (hs : Sm c) :
  Calls Tryz.prog 24 #[.agg #[.slice d.a1 d.l1 d.c1,.slice d.a2 d.l2 d.c2,.slice d.a3 d.l3 d.c3,.slice d.a4 d.l4 d.c4,.slice d.a5 d.l5 d.c5,.int .i64 c.now]] w fun e w' => ∃ d',e = .returned (.agg #[.slice d'.a1 d'.l1 d'.c1,.slice d'.a2 d'.l2 d'.c2,.slice d'.a3 d'.l3 d'.c3,.slice d'.a4 d'.l4 d'.c4,.slice d'.a5 d'.l5 d'.c5,.int .i64 c.now]) ∧ ClFr w' d' c.raw (fun k => w.heap.size ≤ k) ∧ Below w.heap.size w w':=by
 obtain ⟨a1,l1,y1,a2,l2,y2,a3,l3,y3,a4,l4,y4,a5,l5,y5⟩:=d;dsimp only;obtain ⟨HR,hl1,hm1,hl2,hm2,hl3,hm3,hl4,hm4,hl5,hm5⟩:=qqb1;clear hr;have HS:=hidK hs;clear hs;obtain ⟨i2,hi2⟩:=Option.map_eq_some_iff.1 infokd;obtain ⟨i4,hi4⟩:=Option.map_eq_some_iff.1 infoxd;obtain ⟨i1,hi1⟩:=Option.map_eq_some_iff.1 infond;obtain ⟨i3,hi3⟩:=Option.map_eq_some_iff.1 infovd;obtain ⟨i5,hi5⟩:=Option.map_eq_some_iff.1 infopd;have HI1:=hidK hi1;have HI2:=hidK hi2;have HI3:=hidK hi3;have HI4:=hidK hi4;have HI5:=hidK hi5;clear hi1 hi2 hi3 hi4 hi5;obtain ⟨W,hW0⟩ : ∃ W,W = (w.alloc (.cells #[.slice a1 l1 y1,.slice a2 l2 y2,.slice a3 l3 y3,.slice a4 l4 y4,.slice a5 l5 y5,.int .i64 c.now] 36)).alloc (.cells #[.slice none 0 0,.slice none 0 0,.slice none 0 0,.slice none 0 0,.slice none 0 0,.int .i64 0] 36):=⟨_,rfl⟩;have HB : Hid (Below w.heap.size w W):=by rw [hW0];exact below2 _ _ _
 have Bk : Hid (W.heap[w.heap.size]? = some (.cells #[.slice a1 l1 y1,.slice a2 l2 y2,.slice a3 l3 y3,.slice a4 l4 y4,.slice a5 l5 y5,.int .i64 c.now] 36 (0,0))):=by rw [hW0];exact heap2_0 _ _ _
 obtain ⟨Br,hWs⟩:=qqb61;go_enter Tryz.func24,Tryz.ntmps24;go_wp2_with fail;rw [← hW0];clear hW0;rename_i K0 hK0;refine wp_region_grow_last qqd2 rfl rfl qqd2 ?_;refine Grow.step (EmF W.heap.size 109) rfl (EmF.mono _ _) ?_ ?_
 ·exact qqa41
 refine' Grow.stepC _ rfl ?_ ?_;rotate_left 1
 ·exact qqa128
 refine' Grow.stepC _ rfl ?_ ?_;rotate_left 1
 ·refine Obl.plain rfl ?_;intro ac wg K hsz hW hf hK;clear hsz;have e10:=hf 10 qqd3;simp [slotFact,List.lookup] at e10;exact qqa126
 refine Grow.step (RwF W.heap.size l2 4 109 (c.ks.map kdF)) rfl (RwF.mono _ _ _ _ _) ?_ ?_
 ·refine Obl.plain rfl ?_;intro ac wg K hsz hW hf hK;clear hsz;have e9:=hf 9 qqd3;simp [slotFact,List.lookup] at e9;have e11:=hf 11 qqd3;simp [slotFact,List.lookup] at e11;clear hf;obtain ⟨b0,e9,hB0,hg0⟩:=e9;have hz : i2.zero = some (.agg #[.string ⟨#[]⟩,.bool false,.bool false,.string ⟨#[]⟩]) ∧ i2.size = 4 ∧ i2.bytes = 40:=by have:=HI2.out.2;simp only [Prod.mk.injEq] at this;exact this
  refine wp_copy0 (.tmp 9) (.tmp 11) 31 109 rfl i2 (.agg #[.string ⟨#[]⟩,.bool false,.bool false,.string ⟨#[]⟩]) Tryz.underlying31 HI2.out.1 hz.1 hz.2.1 hz.2.2 rfl qqd3 qqd3 (by simpa [Act.eval] using e9) hg0 (by simpa [Act.eval] using e11) (HR.out.k.below (HB.out.trans (hW.mono HB.out.size))) (map_flat kd_flat _) (show l2 ≤ 8 by have:=HS.out.k;omega) qqd3 ?_;exact qqa92
 refine Grow.step (EmF W.heap.size 112) rfl (EmF.mono _ _) ?_ ?_
 ·exact qqa41
 refine' Grow.stepC _ rfl ?_ ?_;rotate_left 1
 ·exact qqa128
 refine' Grow.stepC _ rfl ?_ ?_;rotate_left 1
 ·refine Obl.plain rfl ?_;intro ac wg K hsz hW hf hK;clear hsz;have e14:=hf 14 qqd3;simp [slotFact,List.lookup] at e14;exact qqa126
 refine Grow.step (RwF W.heap.size l4 5 112 (c.xs.map xdF)) rfl (RwF.mono _ _ _ _ _) ?_ ?_
 ·refine Obl.plain rfl ?_;intro ac wg K hsz hW hf hK;clear hsz;have e13:=hf 13 qqd3;simp [slotFact,List.lookup] at e13;have e15:=hf 15 qqd3;simp [slotFact,List.lookup] at e15;clear hf;obtain ⟨b0,e13,hB0,hg0⟩:=e13;have hz : i4.zero = some (.agg #[.string ⟨#[]⟩,.int .i64 0,.string ⟨#[]⟩,.bool false,.string ⟨#[]⟩]) ∧ i4.size = 5 ∧ i4.bytes = 64:=by have:=HI4.out.2;simp only [Prod.mk.injEq] at this;exact this
  refine wp_copy0 (.tmp 13) (.tmp 15) 33 112 rfl i4 (.agg #[.string ⟨#[]⟩,.int .i64 0,.string ⟨#[]⟩,.bool false,.string ⟨#[]⟩]) Tryz.underlying33 HI4.out.1 hz.1 hz.2.1 hz.2.2 rfl qqd3 qqd3 (by simpa [Act.eval] using e13) hg0 (by simpa [Act.eval] using e15) (HR.out.x.below (HB.out.trans (hW.mono HB.out.size))) (map_flat xd_flat _) (show l4 ≤ 8 by have:=HS.out.x;omega) qqd3 ?_;exact qqa92
 refine' Grow.stepC _ rfl ?_ ?_;rotate_left 1
 ·exact qqa128
 refine' Grow.stepC _ rfl ?_ ?_;rotate_left 1
 ·refine Obl.plain rfl ?_;intro ac wg K hsz hW hf hK;clear hsz;have e17:=hf 17 qqd3;simp [slotFact,List.lookup] at e17;exact qqa126
 refine Grow.step (CpF W.heap.size l2 l4 c) rfl (CpF.mono _ _ _ _) ?_ ?_
 ·refine Obl.plain rfl ?_;intro ac wg K hsz hW hf hK;clear hsz;have e12:=hf 12 qqd3;simp [slotFact,List.lookup] at e12;have e16:=hf 16 qqd3;simp [slotFact,List.lookup] at e16;have e18:=hf 18 qqd3;simp [slotFact,List.lookup] at e18;clear hf;obtain ⟨p2,q2,e12,h12⟩:=e12;obtain ⟨p4,q4,e16,h16⟩:=e16;have H12:=hidK h12;have H16:=hidK h16;clear h12 h16;go_simp;exact hK _ _ (Below.refl _ _) ⟨p2,q2,p4,q4,rfl,H12.out,H16.out⟩
 refine Grow.step (FrF W.heap.size) rfl (FrF.mono _) ?_ ?_
 ·exact qqa41
 refine Grow.done ?_;intro q wz hW hf;simp only [List.forall_mem_cons] at hf;obtain ⟨⟨b3,h3,hb3,hg3⟩,⟨p2,q2,p4,q4,h19,hR2,hR4⟩,-⟩:=hf;obtain ⟨t0,t1,t2,t3,t4,t5⟩:=cs6 hg3;have f0:=froK hg3 0;have f1:=froK hg3 1;have f2:=froK hg3 2;have f3:=froK hg3 3;have f4:=froK hg3 4;have f5:=froK hg3 5;have BoX:=hidK (put6 (v0:=.slice none 0 0) (v1:=.slice p2 l2 q2) (v2:=.slice none 0 0) (v3:=.slice p4 l4 q4) (v4:=.slice none 0 0) (v5:=.int .i64 c.now) hg3);have HWX : Hid (Below W.heap.size W ((((((wz.setCell ⟨b3,0,none⟩ (.slice none 0 0)).setCell ⟨b3,1,none⟩ (.slice p2 l2 q2)).setCell ⟨b3,2,none⟩ (.slice none 0 0)).setCell ⟨b3,3,none⟩ (.slice p4 l4 q4)).setCell ⟨b3,4,none⟩ (.slice none 0 0)).setCell ⟨b3,5,none⟩ (.int .i64 c.now))):=set_below hb3 (set_below hb3 (set_below hb3 (set_below hb3 (set_below hb3 (set_below hb3 hW)))));have R2 : Hid (ROwn ((((((wz.setCell ⟨b3,0,none⟩ (.slice none 0 0)).setCell ⟨b3,1,none⟩ (.slice p2 l2 q2)).setCell ⟨b3,2,none⟩ (.slice none 0 0)).setCell ⟨b3,3,none⟩ (.slice p4 l4 q4)).setCell ⟨b3,4,none⟩ (.slice none 0 0)).setCell ⟨b3,5,none⟩ (.int .i64 c.now)) p2 l2 q2 4 109 (c.ks.map kdF) (fun k => W.heap.size ≤ k ∧ ¬ k = b3)):=(hR2.away hg3 qqd3 qqd3).keep (fun k hk s => put6_ne s.2) (fun k _ s => s);have R4 : Hid (ROwn ((((((wz.setCell ⟨b3,0,none⟩ (.slice none 0 0)).setCell ⟨b3,1,none⟩ (.slice p2 l2 q2)).setCell ⟨b3,2,none⟩ (.slice none 0 0)).setCell ⟨b3,3,none⟩ (.slice p4 l4 q4)).setCell ⟨b3,4,none⟩ (.slice none 0 0)).setCell ⟨b3,5,none⟩ (.int .i64 c.now)) p4 l4 q4 5 112 (c.xs.map xdF) (fun k => W.heap.size ≤ k ∧ ¬ k = b3)):=(hR4.away hg3 qqd3 qqd3).keep (fun k hk s => put6_ne s.2) (fun k _ s => s);clear hg3 hR2 hR4 hW;intro K hK;rw [if_pos (by rfl)];simp only [putsAll,List.foldr,Act.put,List.setIfInBounds_toArray,List.set_cons_zero,List.set_cons_succ,h3,h19];simp only [List.getLast];go_simp;refine hK _ _ ?_;refine hK0 _ _ ?_;clear hK hK0 K K0;generalize ((((((wz.setCell ⟨b3,0,none⟩ (.slice none 0 0)).setCell ⟨b3,1,none⟩ (.slice p2 l2 q2)).setCell ⟨b3,2,none⟩ (.slice none 0 0)).setCell ⟨b3,3,none⟩ (.slice p4 l4 q4)).setCell ⟨b3,4,none⟩ (.slice none 0 0)).setCell ⟨b3,5,none⟩ (.int .i64 c.now)) = X at BoX HWX R2 R4 ⊢;clear t0 t1 t2 t3 t4 t5 f0 f1 f2 f3 f4 f5;have HBX:=hidK (HB.out.trans (HWX.out.mono HB.out.size));replace Bk:=hidK ((HWX.out.block _ (lt_of_some Bk.out)).trans Bk.out);replace Br:=hidK ((HWX.out.block _ (lt_of_some Br.out)).trans Br.out);have hb3X : b3 < X.heap.size:=lt_of_some BoX.out;clear HB;go_wp2;go_loopw [4] (fun vi wr => ∃ (k : Nat) (vss : List (List Value)) (H : Nat → Nat → Nat) (v : Value),k ≤ l1 ∧ vi = .int .i64 k ∧ Hid (KeptS (Cps b3 X) X wr) ∧ Hid (wr.ownsRow X.heap.size 82 7 v k vss.flatten) ∧ Hid (VRecs wr (fun k => X.heap.size ≤ k) 7 ((c.ns.take k).map ndF) vss H) ∧ Hid (wr.heap[b3]? = some (.cells #[v,.slice p2 l2 q2,.slice none 0 0,.slice p4 l4 q4,.slice none 0 0,.int .i64 c.now] 36 (0,0)))) (fun vi _ => l1 - (intOf vi).toNat);case atStart => exact ⟨0,[],fun _ _ => 0,.slice none 0 0,by omega,rfl,KeptS.refl _ _,World.ownsRow_nil _ _ _ _,VRecs.nil _ _ _ _,BoX⟩
 case round =>
  obtain ⟨k,vss,H,v,hk,rfl,HK,HO,HV,Bo⟩:=hrel;obtain ⟨hXs,HBW,BkR,hKs⟩:=qqb28;by_cases hlt : k < l1
  ·obtain ⟨b,o,x,rfl,hb0,hx,hat⟩:=nd_at HR.out.n hlt;obtain ⟨va,vl,vc,hvr,z0,z1,c0,c1,c2,c3,c4,c5,c6⟩:=nd_cells hat;have hz8 : vl ≤ 8001:=by have h1:=hvr.1;have h2:=HS.out.ns k x hx;omega
   have HX:=hidK hx;have HT:=hidK hvr;have HZz0:=hidK z0;have HZz1:=hidK z1;clear hat hx hvr z0 z1;replace c0:=(cell_below HBW.out hb0).trans c0;replace c1:=(cell_below HBW.out hb0).trans c1;replace c2:=(cell_below HBW.out hb0).trans c2;replace c3:=(cell_below HBW.out hb0).trans c3;replace c4:=(cell_below HBW.out hb0).trans c4;replace c5:=(cell_below HBW.out hb0).trans c5;replace c6:=(cell_below HBW.out hb0).trans c6;obtain ⟨hbr,hkr,hor⟩:=qqb80;have hz : i1.zero = some (.agg #[.string ⟨#[]⟩,.string ⟨#[]⟩,.int .i64 0,.int .i64 0,.int .i64 0,.bool false,.slice none 0 0]) ∧ i1.size = 7 ∧ i1.bytes = 88:=by have:=HI1.out.2;simp only [Prod.mk.injEq] at this;exact this
   obtain ⟨k0,k1,k2,k3,k4,k5⟩:=cs6 BkR.out;go_wp2_with (first | (at_builtin;refine wpList_texts rfl _ _ rfl (wr.heap.size + 1) rfl (heap2_1 _ _ _) va vl vc rfl x.zs (HT.out.below (HBW.out.trans ((below2 _ _ _).mono HBW.out.size))) hz8 ?_));intro a' l' c' w2 hT2 hb2;obtain ⟨hn2,-,hbx⟩:=slots2n hb2;obtain ⟨g,hg⟩:=hT2.fr;obtain ⟨hs2,hsl⟩:=qqb83;have hb4 : Below wr.heap.size wr ((w2.setCell ⟨wr.heap.size,6,none⟩ (.slice a' l' c')).alloc (.cells #[.string x.n,.string x.z,.int .i64 x.c,.int .i64 x.s,.int .i64 x.u,.bool x.d,.slice a' l' c'] 82)):=(set_below (Nat.le_refl _) hbx).alloc qqd13 _;have HF4 : Hid (LFr ((w2.setCell ⟨wr.heap.size,6,none⟩ (.slice a' l' c')).alloc (.cells #[.string x.n,.string x.z,.int .i64 x.c,.int .i64 x.s,.int .i64 x.u,.bool x.d,.slice a' l' c'] 82)) g (fun k => X.heap.size ≤ k) x.zs (.slice a' l' c')):=hg.keep (fun cu _ q => (Below.heap_alloc _ _ _ (by simp [World.setCell];exact lt_of_some q)).trans (Below.heap_setCell _ _ _ _ (fun e => by subst e;rw [hn2] at q;cases q))) (fun _ s => by have:=hsl _ s;show X.heap.size ≤ g;omega);obtain ⟨HG,HB4,HO4⟩:=qqb89;obtain ⟨n0,n1,n2,n3,n4,n5,n6⟩:=cs7 hn2;have fn0:=froK hn2 0;have fn1:=froK hn2 1;have fn2:=froK hn2 2;have fn3:=froK hn2 3;have fn4:=froK hn2 4;have fn5:=froK hn2 5;have fn6:=froK hn2 6;have bo2:=(hbx.block _ hor).trans Bo.out;obtain ⟨o0,o1,o2,o3,o4,o5⟩:=cs6 bo2;have hor2 : b3 < w2.heap.size:=lt_of_some bo2;have hne3 : ¬ b3 = wr.heap.size:=qqd1
   clear hn2 hbx hT2 hg hb2 hsl hb4 bo2 k0 k1 k2 k3 k4 k5 c0 c1 c2 c3 c4 c5 c6;go_wp2_with (first | (at_builtin;refine wpList_append_own _ rfl _ _ 30 rfl X.heap.size 82 i1 (.agg #[.string ⟨#[]⟩,.string ⟨#[]⟩,.int .i64 0,.int .i64 0,.int .i64 0,.bool false,.slice none 0 0]) 7 88 Tryz.underlying30 HI1.out.1 hz.1 hz.2.1 hz.2.2 rfl qqd3 _ _ _ rfl HO4.out ⟨w2.heap.size,0,none⟩ 1 1 [.string x.n,.string x.z,.int .i64 x.c,.int .i64 x.s,.int .i64 x.u,.bool x.d,.slice a' l' c'] rfl rfl ?c1 ?c2 ?c3 ?c4 ?c5 ?_));case c1 => exact news_alloc_at _ _ (by simp [World.setCell]) _ _
   case c2 => intro u hu;simp only [List.mem_cons,List.not_mem_nil,or_false] at hu;rcases hu with rfl | rfl | rfl | rfl | rfl | rfl | rfl <;> rfl
   case c3 => unfold maxLen;have:=HS.out.n;omega
   case c4 => have:=HS.out.n;omega
   case c5 => simp [World.setCell];omega
   rintro v' w5 hown5 hgrow -;obtain ⟨v1',v2',v3',rfl⟩:=owns_slice hown5;clear n0 fn0 n1 fn1 n2 fn2 n3 fn3 n4 fn4 n5 fn5 n6 fn6 o0 o1 o2 o3 o4 o5;have bo5:=cp_blk HO.out Bo.out hb3X HB4.out hgrow;obtain ⟨hs1,hs2',⟨H',hs3⟩,hs4⟩:=cp_step (f:=0) (r:=ndF x) (vs:=[.string x.n,.string x.z,.int .i64 x.c,.int .i64 x.s,.int .i64 x.u,.bool x.d,.slice a' l' c']) (hh:=g) HK.out HO.out HV.out Bo.out hb3X HB4.out hown5 hgrow qqd3 qqd3 qqd3 rfl rfl (nd_fr HZz0.out HZz1.out HF4.out) (fun i zs hi hz => HG.out zs (nd_l hi).2.symm hz) (fun i i' zs zs' h1 _ h2 _ => (nd_l h1).1.trans (nd_l h2).1.symm);have e1 : (c.ns.take (k + 1)).map ndF = (c.ns.take k).map ndF ++ [ndF x]:=by rw [List.take_add_one,HX.out];simp
   exact qqa43
  ·have hkl : k = l1:=qqd1
   have h5:=HV.out;rw [List.take_of_length_le qqd1] at h5;obtain ⟨p1,q1,hv,hR⟩:=h5.own HO.out qqd7 qqd3 (fun g hg => (HO.out.lt g hg).1);have hl5 : (c.ns.map ndF).length = l1:=by simpa using hl1
   rw [hl5] at hv hR;subst hv;have R1:=hidK (hR.away Bo.out qqd3 qqd3);replace R2:=hidK (R2.out.keep (fun k hk s => HK.out.block k hk (fun q9 => by rcases q9 with q9 | q9;exact s.2 q9;omega)) (fun _ _ s => s));replace R4:=hidK (R4.out.keep (fun k hk s => HK.out.block k hk (fun q9 => by rcases q9 with q9 | q9;exact s.2 q9;omega)) (fun _ _ s => s));replace Br:=hidK ((HK.out.block (w.heap.size + 1) qqd1 (fun s => by rcases s with s | s <;> omega)).trans Br.out);replace Bk:=BkR;replace BoX:=Bo;replace HBX:=HBW;have hb3X1 : b3 < wr.heap.size:=lt_of_some BoX.out;clear BkR Bo HBW h5 hR HV HO HK hl5 hkl hk hKs hXs;generalize wr = X1 at *;obtain ⟨k0,k1,k2,k3,k4,k5⟩:=cs6 Bk.out;go_wp2;clear k0 k1 k2 k3 k4 k5 hlt;go_loopw [6] (fun vi wr => ∃ (k : Nat) (vss : List (List Value)) (H : Nat → Nat → Nat) (v : Value),k ≤ l3 ∧ vi = .int .i64 k ∧ Hid (KeptS (Cps b3 X1) X1 wr) ∧ Hid (wr.ownsRow X1.heap.size 106 8 v k vss.flatten) ∧ Hid (VRecs wr (fun k => X1.heap.size ≤ k) 8 ((c.vs.take k).map vdF) vss H) ∧ Hid (wr.heap[b3]? = some (.cells #[.slice p1 l1 q1,.slice p2 l2 q2,v,.slice p4 l4 q4,.slice none 0 0,.int .i64 c.now] 36 (0,0)))) (fun vi _ => l3 - (intOf vi).toNat);case atStart => exact ⟨0,[],fun _ _ => 0,.slice none 0 0,by omega,rfl,KeptS.refl _ _,World.ownsRow_nil _ _ _ _,VRecs.nil _ _ _ _,BoX⟩
   case round =>
    obtain ⟨k,vss,H,v,hk,rfl,HK,HO,HV,Bo⟩:=hrel;obtain ⟨hXs,HBW,BkR,hKs⟩:=qqb28;by_cases hlt : k < l3
    ·obtain ⟨b,o,x,rfl,hb0,hx,hat⟩:=vd_at HR.out.v hlt;obtain ⟨va,vl,vc,hvr,z0,z2,z3,z5,c0,c1,c2,c3,c4,c5,c6,c7⟩:=vd_cells hat;have hz8 : vl ≤ 8001:=by have h1:=hvr.1;have h2:=HS.out.vs k x hx;omega
     have HX:=hidK hx;have HT:=hidK hvr;have HZz0:=hidK z0;have HZz2:=hidK z2;have HZz3:=hidK z3;have HZz5:=hidK z5;clear hat hx hvr z0 z2 z3 z5;replace c0:=(cell_below HBW.out hb0).trans c0;replace c1:=(cell_below HBW.out hb0).trans c1;replace c2:=(cell_below HBW.out hb0).trans c2;replace c3:=(cell_below HBW.out hb0).trans c3;replace c4:=(cell_below HBW.out hb0).trans c4;replace c5:=(cell_below HBW.out hb0).trans c5;replace c6:=(cell_below HBW.out hb0).trans c6;replace c7:=(cell_below HBW.out hb0).trans c7;obtain ⟨hbr,hkr,hor⟩:=qqb80;have hz : i3.zero = some (.agg #[.string ⟨#[]⟩,.int .i64 0,.string ⟨#[]⟩,.string ⟨#[]⟩,.bool false,.string ⟨#[]⟩,.bool false,.slice none 0 0]) ∧ i3.size = 8 ∧ i3.bytes = 112:=by have:=HI3.out.2;simp only [Prod.mk.injEq] at this;exact this
     obtain ⟨k0,k1,k2,k3,k4,k5⟩:=cs6 BkR.out;have hvb : ∀ g,v.ownBlock = some g → g < wr.heap.size:=fun g hg => (HO.out.lt g hg).2;have hb0w : b < w.heap.size:=hb0;go_wp2_with fail;clear k0 k1 k2 k3 k4 k5;rename_i K0 hK0;refine Gi.wp_region_grow_last (R:=Rv v.ownBlock 59) (ex:=fun _ => none) (Rv.rel _ _) qqd2 rfl rfl qqd2 qqd2 ?_;refine' Gi.Grow.stepC _ rfl ?_ ?_;rotate_left 1
     ·exact qqa132
     refine' Gi.Grow.stepC _ rfl ?_ ?_;rotate_left 1
     ·refine Gi.Obl.plain rfl ?_;intro ac wg K lo hi hsz hW hpr hf hap hK;clear hsz hap hpr;have hW : wr.grownBy wg v.ownBlock:=hW;have e50:=hf 50 qqd3;simp [Gi.slotFact,List.lookup] at e50;clear hf;obtain ⟨o0,o1,o2,o3,o4,o5⟩:=cs6 ((hW.block b3 hor (fun e => by have:=(HO.out.lt _ e.symm).1;omega)).trans Bo.out);exact qqa34
     refine' Gi.Grow.stepC _ rfl ?_ ?_;rotate_left 1
     ·refine Gi.Obl.plain rfl ?_;intro ac wg K lo hi hsz hW hpr hf hap hK;clear hsz hap hpr;have hW : wr.grownBy wg v.ownBlock:=hW;have e1:=hf 1 qqd3;simp [Gi.slotFact,List.lookup] at e1;clear hf;exact qqa34
     refine' Gi.Grow.stepC _ rfl ?_ ?_;rotate_left 1
     ·refine Gi.Obl.plain rfl ?_;intro ac wg K lo hi hsz hW hpr hf hap hK;clear hsz hap hpr;have hW : wr.grownBy wg v.ownBlock:=hW;have e52:=hf 52 qqd3;simp [Gi.slotFact,List.lookup] at e52;clear hf;obtain ⟨k0,k1,k2,k3,k4,k5⟩:=cs6 ((hW.block w.heap.size hkr (fun e => by have:=(HO.out.lt _ e.symm).1;omega)).trans BkR.out);exact qqa34
     refine' Gi.Grow.stepC _ rfl ?_ ?_;rotate_left 1
     ·refine Gi.Obl.plain rfl ?_;intro ac wg K lo hi hsz hW hpr hf hap hK;clear hsz hap hpr;have hW : wr.grownBy wg v.ownBlock:=hW;have e6:=hf 6 qqd3;simp [Gi.slotFact,List.lookup] at e6;clear hf;exact qqa34
     refine' Gi.Grow.stepC _ rfl ?_ ?_;rotate_left 1
     ·refine Gi.Obl.plain rfl ?_;intro ac wg K lo hi hsz hW hpr hf hap hK;clear hsz hap hpr;have hW : wr.grownBy wg v.ownBlock:=hW;have e53:=hf 53 qqd3;simp [Gi.slotFact,List.lookup] at e53;have e54:=hf 54 qqd3;simp [Gi.slotFact,List.lookup] at e54;clear hf;exact qqa34
     refine' Gi.Grow.stepC _ rfl ?_ ?_;rotate_left 1
     ·refine Gi.Obl.plain rfl ?_;intro ac wg K lo hi hsz hW hpr hf hap hK;clear hsz hap hpr;have hW : wr.grownBy wg v.ownBlock:=hW;have e55:=hf 55 qqd3;simp [Gi.slotFact,List.lookup] at e55;clear hf;have c0g:=(World.cell?_of_block (hW.block b hbr (fun e => by have:=(HO.out.lt _ e.symm).1;omega))).trans c0;have c1g:=(World.cell?_of_block (hW.block b hbr (fun e => by have:=(HO.out.lt _ e.symm).1;omega))).trans c1;have c2g:=(World.cell?_of_block (hW.block b hbr (fun e => by have:=(HO.out.lt _ e.symm).1;omega))).trans c2;have c3g:=(World.cell?_of_block (hW.block b hbr (fun e => by have:=(HO.out.lt _ e.symm).1;omega))).trans c3;have c4g:=(World.cell?_of_block (hW.block b hbr (fun e => by have:=(HO.out.lt _ e.symm).1;omega))).trans c4;have c5g:=(World.cell?_of_block (hW.block b hbr (fun e => by have:=(HO.out.lt _ e.symm).1;omega))).trans c5;have c6g:=(World.cell?_of_block (hW.block b hbr (fun e => by have:=(HO.out.lt _ e.symm).1;omega))).trans c6;have c7g:=(World.cell?_of_block (hW.block b hbr (fun e => by have:=(HO.out.lt _ e.symm).1;omega))).trans c7;exact qqa34
     refine Gi.Grow.step (TvF wr.heap.size x) rfl (TvF.mono hvb) ?_ ?_
     ·refine Gi.Obl.plain rfl ?_;intro ac wg K lo hi hsz hW hpr hf hap hK;clear hsz hap hpr;have hW : wr.grownBy wg v.ownBlock:=hW;have e56:=hf 56 qqd3;simp [Gi.slotFact,List.lookup] at e56;clear hf;have hBg:=HBW.out.grown hW HBW.out.size (fun g hg => by have:=(HO.out.lt g hg).1;omega);go_simp;refine (Ap.scopy_any x.n x.c x.z x.k x.x x.m x.y va vl vc x.zs _ (HT.out.below hBg) hz8).mono ?_;rintro e w6 ⟨a',l',c',rfl,ho1,ho2,hb6⟩;have hws:=hW.size;exact hK _ _ (Rv.other qqd3 hb6) ⟨a',l',c',rfl,TOwn.into ⟨ho1,ho2⟩ (fun k _ s => Nat.le_trans hws s)⟩
     refine Gi.Grow.step (BsF wr.heap.size x) rfl (BsF.mono hvb) ?_ ?_
     ·refine Gi.Obl.plain rfl ?_;intro ac wg K lo hi hsz hW hpr hf hap hK;clear hsz hap hpr;have hW : wr.grownBy wg v.ownBlock:=hW;have e57:=hf 57 qqd3;simp [Gi.slotFact,List.lookup] at e57;clear hf;obtain ⟨a',l',c',e57,ho⟩:=e57;have HO7:=hidK ho;clear ho;go_simp;exact hK _ _ (Rv.other qqd3 (below1 _ _)) ⟨_,a',l',c',rfl,hW.size,Array.getElem?_push_size,HO7.out.below (below1 _ _)⟩
     refine Gi.Grow.step (ApF X1.heap.size k ((c.vs.take (k + 1)).map vdF) vss) rfl (ApF.mono) ?_ ?_
     ·refine Gi.Obl.plain rfl ?_;intro ac wg K lo hi hsz hW hpr hf hap hK;clear hsz hap;have hW : wr.grownBy wg v.ownBlock:=hW;have e51:=hf 51 qqd3;simp [Gi.slotFact,List.lookup] at e51;have e58:=hf 58 qqd3;simp [Gi.slotFact,List.lookup] at e58;clear hf;have hbW : Below wr.heap.size wr wg:=hpr rfl;clear hpr;obtain ⟨b5,a',l',c',e58,hb5,hg5,ho5⟩:=e58;obtain ⟨g,hg⟩:=ho5.fr;have hws:=hW.size;refine wp_append_own wg (.tmp 51) (.tmp 58) 32 rfl X1.heap.size 106 i3 (.agg #[.string ⟨#[]⟩,.int .i64 0,.string ⟨#[]⟩,.string ⟨#[]⟩,.bool false,.string ⟨#[]⟩,.bool false,.slice none 0 0]) 8 112 Tryz.underlying32 HI3.out.1 hz.1 hz.2.1 hz.2.2 rfl qqd3 v k vss.flatten (by simpa [Act.eval] using e51) (owns_below HO.out hbW) ⟨b5,0,none⟩ 1 1 [.string x.n,.int .i64 x.c,.string x.z,.string x.k,.bool x.x,.string x.m,.bool x.y,.slice a' l' c'] (by simpa [Act.eval] using e58) rfl (news_blk hg5) (by intro u hu;simp only [List.mem_cons,List.not_mem_nil,or_false] at hu;rcases hu with rfl | rfl | rfl | rfl | rfl | rfl | rfl | rfl <;> rfl) (by unfold maxLen;have:=HS.out.v;omega) (by have:=HS.out.v;omega) qqd1 ?_;intro v' w' hown hgr _;have hV:=HV.out.app (r:=vdF x) (vs:=[.string x.n,.int .i64 x.c,.string x.z,.string x.k,.bool x.x,.string x.m,.bool x.y,.slice a' l' c']) (hh:=g) hbW (owns_below HO.out hbW) qqd3 hgr rfl rfl (vd_fr HZz0.out HZz2.out HZz3.out HZz5.out (hg.keep (S':=fun k => X1.heap.size ≤ k) (fun cu _ q => rfl) (fun _ s => by have s1 : wr.heap.size ≤ g:=s;show X1.heap.size ≤ g;omega))) (fun i zs hi hz => by obtain ⟨_,rfl⟩:=vd_l hi;exact (hg.lt hz).1) (fun i i' zs zs' h1 _ h2 _ => (vd_l h1).1.trans (vd_l h2).1.symm);have e1 : (c.vs.take (k + 1)).map vdF = (c.vs.take k).map vdF ++ [vdF x]:=by rw [List.take_add_one,HX.out];simp
      rw [← e1] at hV;exact hK _ _ (Rv.this hgr) ⟨_,[.string x.n,.int .i64 x.c,.string x.z,.string x.k,.bool x.x,.string x.m,.bool x.y,.slice a' l' c'],by rw [List.flatten_append];simpa using hown,hV⟩
     refine' Gi.Grow.stepC _ rfl ?_ ?_;rotate_left 1
     ·exact qqa132
     refine Gi.Grow.done ?_;intro q wz lo hi hW hf hap;clear hap;have hW : wr.grownBy wz v.ownBlock:=hW;simp only [List.forall_mem_cons] at hf;obtain ⟨h60,h59,-⟩:=hf;have h60:=h60 qqd5;obtain ⟨H',vs',hs2,hs3⟩:=h59 qqd5;obtain ⟨v',hv'⟩ : ∃ v',q 59 = v':=⟨_,rfl⟩;rw [hv'] at hs2;obtain ⟨v1',v2',v3',rfl⟩:=owns_slice hs2;have bo5:=(hW.block b3 hor (fun e => by have:=(HO.out.lt _ e.symm).1;omega)).trans Bo.out;have HS1:=hidK (((HK.out.trans (KeptS.of_grown hW (fun g e => .inr (HO.out.lt g e).1))).set (i:=2) (v:=.slice v1' v2' v3') (.inl rfl)));have HS2:=hidK (owns_set (i:=2) (u:=.slice v1' v2' v3') hs2 bo5 qqd3);have HS3:=hidK (hs3.set (i:=2) (u:=.slice v1' v2' v3') bo5 qqd3);have HS4:=hidK (block_set (i:=2) bo5 (.slice v1' v2' v3'));obtain ⟨o0,o1,o2,o3,o4,o5⟩:=cs6 bo5;have fo0:=froK bo5 0;have fo1:=froK bo5 1;have fo2:=froK bo5 2;have fo3:=froK bo5 3;have fo4:=froK bo5 4;have fo5:=froK bo5 5;clear bo5 hs2 hs3 hW c0 c1 c2 c3 c4 c5 c6 c7;intro K hK;rw [if_pos (by rfl)];simp only [Gi.putsAll,List.foldr,Act.put,List.setIfInBounds_toArray,List.set_cons_zero,List.set_cons_succ,h60,hv'];simp only [List.getLast];go_simp;refine hK _ _ ?_;refine hK0 _ _ ?_;clear hK hK0 K K0;go_wp2;exact ⟨⟨k + 1,_,H',_,by omega,by go_num,HS1,HS2,HS3,HS4⟩,by simp [intOf];omega⟩
    ·have hkl : k = l3:=qqd1
     have h5:=HV.out;rw [List.take_of_length_le qqd1] at h5;obtain ⟨p3,q3,hv,hR⟩:=h5.own HO.out qqd7 qqd3 (fun g hg => (HO.out.lt g hg).1);have hl5 : (c.vs.map vdF).length = l3:=by simpa using hl3
     rw [hl5] at hv hR;subst hv;have R3:=hidK (hR.away Bo.out qqd3 qqd3);replace R2:=hidK (R2.out.keep (fun k hk s => HK.out.block k hk (fun q9 => by rcases q9 with q9 | q9;exact s.2 q9;omega)) (fun _ _ s => s));replace R4:=hidK (R4.out.keep (fun k hk s => HK.out.block k hk (fun q9 => by rcases q9 with q9 | q9;exact s.2 q9;omega)) (fun _ _ s => s));replace R1:=hidK (R1.out.keep (fun k hk s => HK.out.block k hk (fun q9 => by rcases q9 with q9 | q9;exact s.2 q9;omega)) (fun _ _ s => s));replace Br:=hidK ((HK.out.block (w.heap.size + 1) qqd1 (fun s => by rcases s with s | s <;> omega)).trans Br.out);replace Bk:=BkR;replace BoX:=Bo;replace HBX:=HBW;have hb3X2 : b3 < wr.heap.size:=lt_of_some BoX.out;clear BkR Bo HBW h5 hR HV HO HK hl5 hkl hk hKs hXs;generalize wr = X2 at *;obtain ⟨k0,k1,k2,k3,k4,k5⟩:=cs6 Bk.out;go_wp2;clear k0 k1 k2 k3 k4 k5 hlt;go_loopw [7] (fun vi wr => ∃ (k : Nat) (vss : List (List Value)) (H : Nat → Nat → Nat) (v : Value),k ≤ l5 ∧ vi = .int .i64 k ∧ Hid (KeptS (Cps b3 X2) X2 wr) ∧ Hid (wr.ownsRow X2.heap.size 69 6 v k vss.flatten) ∧ Hid (VRecs wr (fun k => X2.heap.size ≤ k) 6 ((c.ps.take k).map pdF) vss H) ∧ Hid (wr.heap[b3]? = some (.cells #[.slice p1 l1 q1,.slice p2 l2 q2,.slice p3 l3 q3,.slice p4 l4 q4,v,.int .i64 c.now] 36 (0,0)))) (fun vi _ => l5 - (intOf vi).toNat);case atStart => exact ⟨0,[],fun _ _ => 0,.slice none 0 0,by omega,rfl,KeptS.refl _ _,World.ownsRow_nil _ _ _ _,VRecs.nil _ _ _ _,BoX⟩
     case round =>
      obtain ⟨k,vss,H,v,hk,rfl,HK,HO,HV,Bo⟩:=hrel;obtain ⟨hXs,HBW,BkR,hKs⟩:=qqb28;by_cases hlt : k < l5
      ·obtain ⟨b,o,x,rfl,hb0,hx,hat⟩:=pd_at HR.out.p hlt;obtain ⟨va,vl,vc,hvr,z0,z2,z4,c0,c1,c2,c3,c4,c5⟩:=pd_cells hat;have hz8 : vl ≤ 8001:=by have h1:=hvr.1;have h2:=HS.out.ps k x hx;omega
       have HX:=hidK hx;have HT:=hidK hvr;have HZz0:=hidK z0;have HZz2:=hidK z2;have HZz4:=hidK z4;clear hat hx hvr z0 z2 z4;replace c0:=(cell_below HBW.out hb0).trans c0;replace c1:=(cell_below HBW.out hb0).trans c1;replace c2:=(cell_below HBW.out hb0).trans c2;replace c3:=(cell_below HBW.out hb0).trans c3;replace c4:=(cell_below HBW.out hb0).trans c4;replace c5:=(cell_below HBW.out hb0).trans c5;obtain ⟨hbr,hkr,hor⟩:=qqb80;have hz : i5.zero = some (.agg #[.string ⟨#[]⟩,.int .i64 0,.string ⟨#[]⟩,.slice none 0 0,.string ⟨#[]⟩,.int .i64 0]) ∧ i5.size = 6 ∧ i5.bytes = 88:=by have:=HI5.out.2;simp only [Prod.mk.injEq] at this;exact this
       obtain ⟨k0,k1,k2,k3,k4,k5⟩:=cs6 BkR.out;go_wp2_with (first | (at_builtin;refine wpList_texts rfl _ _ rfl (wr.heap.size + 1) rfl (heap2_1 _ _ _) va vl vc rfl x.zs (HT.out.below (HBW.out.trans ((below2 _ _ _).mono HBW.out.size))) hz8 ?_));intro a' l' c' w2 hT2 hb2;obtain ⟨hn2,-,hbx⟩:=slots2n hb2;obtain ⟨g,hg⟩:=hT2.fr;obtain ⟨hs2,hsl⟩:=qqb83;have hb4 : Below wr.heap.size wr ((w2.setCell ⟨wr.heap.size,3,none⟩ (.slice a' l' c')).alloc (.cells #[.string x.n,.int .i64 x.c,.string x.z,.slice a' l' c',.string x.d,.int .i64 x.p] 69)):=(set_below (Nat.le_refl _) hbx).alloc qqd13 _;have HF4 : Hid (LFr ((w2.setCell ⟨wr.heap.size,3,none⟩ (.slice a' l' c')).alloc (.cells #[.string x.n,.int .i64 x.c,.string x.z,.slice a' l' c',.string x.d,.int .i64 x.p] 69)) g (fun k => X2.heap.size ≤ k) x.zs (.slice a' l' c')):=hg.keep (fun cu _ q => (Below.heap_alloc _ _ _ (by simp [World.setCell];exact lt_of_some q)).trans (Below.heap_setCell _ _ _ _ (fun e => by subst e;rw [hn2] at q;cases q))) (fun _ s => by have:=hsl _ s;show X2.heap.size ≤ g;omega);obtain ⟨HG,HB4,HO4⟩:=qqb89;obtain ⟨n0,n1,n2,n3,n4,n5⟩:=cs6 hn2;have fn0:=froK hn2 0;have fn1:=froK hn2 1;have fn2:=froK hn2 2;have fn3:=froK hn2 3;have fn4:=froK hn2 4;have fn5:=froK hn2 5;have bo2:=(hbx.block _ hor).trans Bo.out;obtain ⟨o0,o1,o2,o3,o4,o5⟩:=cs6 bo2;have hor2 : b3 < w2.heap.size:=lt_of_some bo2;have hne3 : ¬ b3 = wr.heap.size:=qqd1
       clear hn2 hbx hT2 hg hb2 hsl hb4 bo2 k0 k1 k2 k3 k4 k5 c0 c1 c2 c3 c4 c5;go_wp2_with (first | (at_builtin;refine wpList_append_own _ rfl _ _ 34 rfl X2.heap.size 69 i5 (.agg #[.string ⟨#[]⟩,.int .i64 0,.string ⟨#[]⟩,.slice none 0 0,.string ⟨#[]⟩,.int .i64 0]) 6 88 Tryz.underlying34 HI5.out.1 hz.1 hz.2.1 hz.2.2 rfl qqd3 _ _ _ rfl HO4.out ⟨w2.heap.size,0,none⟩ 1 1 [.string x.n,.int .i64 x.c,.string x.z,.slice a' l' c',.string x.d,.int .i64 x.p] rfl rfl ?c1 ?c2 ?c3 ?c4 ?c5 ?_));case c1 => exact news_alloc_at _ _ (by simp [World.setCell]) _ _
       case c2 => intro u hu;simp only [List.mem_cons,List.not_mem_nil,or_false] at hu;rcases hu with rfl | rfl | rfl | rfl | rfl | rfl <;> rfl
       case c3 => unfold maxLen;have:=HS.out.p;omega
       case c4 => have:=HS.out.p;omega
       case c5 => simp [World.setCell];omega
       rintro v' w5 hown5 hgrow -;obtain ⟨v1',v2',v3',rfl⟩:=owns_slice hown5;clear n0 fn0 n1 fn1 n2 fn2 n3 fn3 n4 fn4 n5 fn5 o0 o1 o2 o3 o4 o5;have bo5:=cp_blk HO.out Bo.out hb3X2 HB4.out hgrow;obtain ⟨hs1,hs2',⟨H',hs3⟩,hs4⟩:=cp_step (f:=4) (r:=pdF x) (vs:=[.string x.n,.int .i64 x.c,.string x.z,.slice a' l' c',.string x.d,.int .i64 x.p]) (hh:=g) HK.out HO.out HV.out Bo.out hb3X2 HB4.out hown5 hgrow qqd3 qqd3 qqd3 rfl rfl (pd_fr HZz0.out HZz2.out HZz4.out HF4.out) (fun i zs hi hz => HG.out zs (pd_l hi).2.symm hz) (fun i i' zs zs' h1 _ h2 _ => (pd_l h1).1.trans (pd_l h2).1.symm);have e1 : (c.ps.take (k + 1)).map pdF = (c.ps.take k).map pdF ++ [pdF x]:=by rw [List.take_add_one,HX.out];simp
       exact qqa43
      ·have hkl : k = l5:=qqd1
       have h5:=HV.out;rw [List.take_of_length_le qqd1] at h5;obtain ⟨p5,q5,hv,hR⟩:=h5.own HO.out qqd7 qqd3 (fun g hg => (HO.out.lt g hg).1);have hl5 : (c.ps.map pdF).length = l5:=by simpa using hl5
       rw [hl5] at hv hR;subst hv;have R5:=hidK (hR.away Bo.out qqd3 qqd3);replace R2:=hidK (R2.out.keep (fun k hk s => HK.out.block k hk (fun q9 => by rcases q9 with q9 | q9;exact s.2 q9;omega)) (fun _ _ s => s));replace R4:=hidK (R4.out.keep (fun k hk s => HK.out.block k hk (fun q9 => by rcases q9 with q9 | q9;exact s.2 q9;omega)) (fun _ _ s => s));replace R1:=hidK (R1.out.keep (fun k hk s => HK.out.block k hk (fun q9 => by rcases q9 with q9 | q9;exact s.2 q9;omega)) (fun _ _ s => s));replace R3:=hidK (R3.out.keep (fun k hk s => HK.out.block k hk (fun q9 => by rcases q9 with q9 | q9;exact s.2 q9;omega)) (fun _ _ s => s));replace Br:=hidK ((HK.out.block (w.heap.size + 1) qqd1 (fun s => by rcases s with s | s <;> omega)).trans Br.out);replace Bk:=BkR;replace BoX:=Bo;replace HBX:=HBW;have hb3X3 : b3 < wr.heap.size:=lt_of_some BoX.out;clear BkR Bo HBW h5 hR HV HO HK hl5 hkl hk hKs hXs;generalize wr = X3 at *;obtain ⟨k0,k1,k2,k3,k4,k5⟩:=cs6 Bk.out;obtain ⟨o0,o1,o2,o3,o4,o5⟩:=cs6 BoX.out;obtain ⟨r0,r1,r2,r3,r4,r5⟩:=cs6 Br.out;have hXs:=HBX.out.size;obtain ⟨fr0,fr1,fr2,fr3,fr4,fr5⟩:=qqb8;go_wp2;refine bodyPost_ret (v:=.agg #[.slice p1 l1 q1,.slice p2 l2 q2,.slice p3 l3 q3,.slice p4 l4 q4,.slice p5 l5 q5,.int .i64 c.now]) (by simp [results,Tryz.results24,go_sem, *]) rfl ⟨⟨p1,l1,q1,p2,l2,q2,p3,l3,q3,p4,l4,q4,p5,l5,q5⟩,rfl,⟨?_,?_,?_,?_,?_⟩,set_below (show w.heap.size ≤ w.heap.size + 1 by omega) (set_below (show w.heap.size ≤ w.heap.size + 1 by omega) (set_below (show w.heap.size ≤ w.heap.size + 1 by omega) (set_below (show w.heap.size ≤ w.heap.size + 1 by omega) (set_below (show w.heap.size ≤ w.heap.size + 1 by omega) (set_below (show w.heap.size ≤ w.heap.size + 1 by omega) (HBX.out))))))⟩
       ·exact (R1.out.keep (S':=fun k => w.heap.size ≤ k) (fun k hk s => put6_ne (by have s1 : X.heap.size ≤ k:=s.1;omega)) (fun k _ s => by have s1 : X.heap.size ≤ k:=s.1;show w.heap.size ≤ k;omega))
       ·exact (R2.out.keep (S':=fun k => w.heap.size ≤ k) (fun k hk s => put6_ne (by have s1 : W.heap.size ≤ k:=s.1;omega)) (fun k _ s => by have s1 : W.heap.size ≤ k:=s.1;show w.heap.size ≤ k;omega))
       ·exact (R3.out.keep (S':=fun k => w.heap.size ≤ k) (fun k hk s => put6_ne (by have s1 : X1.heap.size ≤ k:=s.1;omega)) (fun k _ s => by have s1 : X1.heap.size ≤ k:=s.1;show w.heap.size ≤ k;omega))
       ·exact (R4.out.keep (S':=fun k => w.heap.size ≤ k) (fun k hk s => put6_ne (by have s1 : W.heap.size ≤ k:=s.1;omega)) (fun k _ s => by have s1 : W.heap.size ≤ k:=s.1;show w.heap.size ≤ k;omega))
       ·exact (R5.out.keep (S':=fun k => w.heap.size ≤ k) (fun k hk s => put6_ne (by have s1 : X2.heap.size ≤ k:=s.1;omega)) (fun k _ s => by have s1 : X2.heap.size ≤ k:=s.1;show w.heap.size ≤ k;omega))

theorem sill_any (p : Int) (w : World) :
  Calls Tryz.prog 22 #[.int .i64 p] w fun e w' => e = .returned (.agg #[.slice none 0 0,.slice none 0 0,.slice none 0 0,.slice none 0 0,.slice none 0 0,.int .i64 0,.string ⟨#[]⟩,.int .i64 p]) ∧ Below w.heap.size w w':=by
 go_enter Tryz.func22,Tryz.ntmps22;go_wp2;exact bodyPost_ret (v:=.agg #[.slice none 0 0,.slice none 0 0,.slice none 0 0,.slice none 0 0,.slice none 0 0,.int .i64 0,.string ⟨#[]⟩,.int .i64 p]) (by simp [results,Tryz.results22,go_sem]) rfl ⟨rfl,below1 _ _⟩

theorem wo_erase {α : Type} {nm : α → ByteArray} {t : ByteArray} {xs : List α} {k : Nat} {x : α} (hr : RisBy nm xs) (hx : xs[k]? = some x) (hn : nm x = t) : wo nm t xs = xs.take k ++ xs.drop (k + 1):=by
 have hk : k < xs.length:=(List.getElem?_eq_some_iff.1 hx).1;have e : xs = xs.take k ++ x :: xs.drop (k + 1):=by
  have h1 : xs.drop k = x :: xs.drop (k + 1):=by rw [List.drop_eq_getElem_cons hk];congr 1;exact (List.getElem?_eq_some_iff.1 hx).2
  rw [← h1,List.take_append_drop]
 have hno : ∀ (j : Nat) y,xs[j]? = some y → ¬ j = k → (!((nm y).toList == t.toList)) = true:=fun j y hj hne => by
  have : ¬ nm y = t:=fun q => hne (hr.inj hj hx (q.trans hn.symm)).1;simp [tl_no this]
 have h1 : (xs.take k).filter (fun x => !((nm x).toList == t.toList)) = xs.take k:=List.filter_eq_self.2 fun y hy => by
  obtain ⟨j,hj⟩:=List.getElem?_of_mem hy;rw [List.getElem?_take] at hj;split at hj
  ·exact hno j y hj qqd1
  ·cases hj
 have h2 : (xs.drop (k + 1)).filter (fun x => !((nm x).toList == t.toList)) = xs.drop (k + 1):=List.filter_eq_self.2 fun y hy => by
  obtain ⟨j,hj⟩:=List.getElem?_of_mem hy;rw [List.getElem?_drop] at hj;exact hno _ y hj qqd1
 unfold wo;conv => lhs;rw [e]
 rw [List.filter_append,List.filter_cons,h1,h2,tl_yes hn];rfl

theorem run_append_types (w : World) (t t' ty e e' : TypeId) (i : TypeInfo) (ht : Tryz.prog.underlying t = some (.slice e)) (ht' : Tryz.prog.underlying t' = some (.slice e')) (hi : Tryz.prog.info? e = some i) (a : Option Addr) (l c : Nat) (b : Value) : (Builtin.append_ #[t,t'] ty #[.slice a l c,b]).run Tryz.prog w = (Builtin.append_ #[t,t] ty #[.slice a l c,b]).run Tryz.prog w:=by
 simp [Builtin.append_,run_underlying ht,run_underlying ht',sizeOf,typeInfo,hi]
theorem wpList_append_two {w : World} {ops : Array Oper} {rest : List Oper} {o : Oper} {a : Act} {Q : Exit → Act → World → Prop} (hgd : o.guard = none) (s x : Operand) (t t' : TypeId)
  (ho : o.op = .call { callee:=.builtin .append,args:=#[s,x],argTypes:=#[t,t'] })
  (base : Nat) (e e' : TypeId) (i : TypeInfo) (z : Value) (size bytes : Nat) (ht : Tryz.prog.underlying t = some (.slice e)) (ht' : Tryz.prog.underlying t' = some (.slice e')) (hi : Tryz.prog.info? e = some i) (hz : i.zero = some z)
  (hsize : i.size = size) (hby : i.bytes = bytes) (hzs : z.cells.size = size) (hsz : 0 < size)
  (v : Value) (n : Nat) (xs : List Value) (hs : a.eval s = v) (hown : w.ownsRow base e size v n xs)
  (ad : Addr) (m c : Nat) (news : List Value) (hx : a.eval x = .slice (some ad) m c) (hl : news.length = m * size) (hnews : ∀ j u,news[j]? = some u → w.cell? (ad.add j) = some u) (h1 : ∀ u ∈ news,u.oneCell' = true)
  (h63 : n + m ≤ maxLen) (hbytes : (n + m) * bytes ≤ 140737488355328) (hbase : base ≤ w.heap.size)
  (h : ∀ v' w',w'.ownsRow base e size v' (n + m) (xs ++ news) → w.grownBy w' v.ownBlock → wpList Tryz.prog ops Q rest (a.put o.dst v') w') : wpList Tryz.prog ops Q (o :: rest) a w:=by
 refine wpList_plain hgd fun K hK => ?_;obtain ⟨v',w',hr,h2,h3,h4⟩:=run_append_own (P:=Tryz.prog) w base t o.type e i z size bytes ht hi hz hsize hby hzs hsz v n xs hown ad m c news hl hnews h1 h63 hbytes hbase;obtain ⟨va,vl,vc,rfl⟩ : ∃ a l c,v = .slice a l c:=by
  rcases hown.2 with ⟨rfl,_⟩ | ⟨g,cap,cur,rfl,_⟩
  ·exact ⟨_,_,_,rfl⟩
  ·exact ⟨_,_,_,rfl⟩
 rw [← run_append_types w t t' o.type e e' i ht ht' hi] at hr;unfold Oper.wp execOp;simp only [ho,resolve,invoke,builtin,Sem.run_bind,Sem.run_pure,Result.andThen_ok,List.map_toArray,List.map_cons,List.map_nil,hs,hx,hr];exact hK _ _ (h v' w' h2 h3)
theorem run_copy_rec (w : World) (dT sT ty elem : TypeId) (g o dLen dCap : Nat) (a : Addr) (sLen sCap m : Nat) (cur : Array Value) (t : TypeId) (cs : List Value) (i : TypeInfo)
  (hu : Tryz.prog.underlying dT = some (.slice elem)) (hi : Tryz.prog.info? elem = some i) (hs : i.size = m)
  (hg : w.heap[g]? = some (.cells cur t (0,0))) (hn : cs.length = Nat.min sLen dLen * m)
  (hsrc : ∀ j v,cs[j]? = some v → w.cell? (a.add j) = some v) (hfit : o + cs.length ≤ cur.size) (h1 : ∀ v ∈ cs,v.oneCell' = true) :
  (Builtin.copy_ #[dT,sT] ty #[.slice (some ⟨g,o,none⟩) dLen dCap,.slice (some a) sLen sCap]).run Tryz.prog w =
   .ok (goInt (Nat.min sLen dLen)) (w.setRow g (cur.toList.take o ++ cs ++ cur.toList.drop (o + cs.length)).toArray):=by
 have hl:=run_loadCells_list (P:=Tryz.prog) w a cs hsrc;have hst:=run_storeCells_at Tryz.prog g o t cs 0 cur w hg (by simpa using hfit) h1;rw [hn] at hl;simp [Builtin.copy_,run_underlying hu,Builtin.lenOf,Builtin.firstCells,sizeOf,typeInfo,hi,hs,hl,hst]
theorem wpList_copy_run (w : World) {ops : Array Oper} {rest : List Oper} {o : Oper} {a : Act} {Q : Exit → Act → World → Prop} (hgd : o.guard = none) (d s : Operand) (t t' : TypeId)
  (ho : o.op = .call { callee:=.builtin .copy,args:=#[d,s],argTypes:=#[t,t'] }) (v u : Value) (hd : a.eval d = v) (hs : a.eval s = u) {v' : Value} {w' : World}
  (hr : (Builtin.copy_ #[t,t'] o.type #[v,u]).run Tryz.prog w = .ok v' w') (h : wpList Tryz.prog ops Q rest (a.put o.dst v') w') : wpList Tryz.prog ops Q (o :: rest) a w:=by
 refine wpList_plain hgd fun K hK => ?_;unfold Oper.wp execOp;simp only [ho,resolve,invoke,builtin,Sem.run_bind,Sem.run_pure,Result.andThen_ok,List.map_toArray,List.map_cons,List.map_nil,hd,hs,hr];exact hK _ _ h
theorem ins_list {a b c m : Nat} {X ys cur c1 : List Value} (hX : cur.take b = X) (hc : cur.length = c) (h1 : a + m ≤ b) (h2 : b + m ≤ c) (hy : ys.length = m) (h : c1 = cur.take (a + m) ++ X.drop a ++ cur.drop (a + m + (X.drop a).length)) : (c1.take a ++ (ys ++ c1.drop (a + m))).take (b + m) = X.take a ++ ys ++ X.drop a:=by
 have hXl : X.length = b:=by rw [← hX,List.length_take];omega
 have e1 : c1.take a = X.take a:=by
  rw [h,List.append_assoc,List.take_append_of_le_length qqd17,List.take_take,← hX,List.take_take];congr 1;omega
 have e2 : c1.drop (a + m) = X.drop a ++ cur.drop (a + m + (X.drop a).length):=by
  rw [h,List.append_assoc];exact List.drop_left' qqd17
 rw [e1,e2,← List.append_assoc,← List.append_assoc];exact List.take_left' qqd25
theorem grow_list {a b m : Nat} {X ys R R2 S : List Value} (hX : R.take a = X.take a) (hXl : X.length = b) (h1 : a ≤ b) (hy : ys.length = m) (h : R2 = R.take a ++ ys ++ S) (T : List Value) : (R2.take (a + m) ++ X.drop a ++ T).take (b + m) = X.take a ++ ys ++ X.drop a:=by
 have e1 : R2.take (a + m) = X.take a ++ ys:=by
  rw [h,hX];exact List.take_left' (by simp only [List.length_append,List.length_take];omega)
 rw [e1];exact List.take_left' qqd25
theorem grown_setRow (w : World) (g : Nat) (cs : Array Value) : w.grownBy (w.setRow g cs) (some g):=⟨rfl,rfl,rfl,by simp [World.setRow],fun k _ h => setRow_other w g k cs (fun e => h (by rw [e]))⟩
theorem step_copy_run {ops : Array Oper} {o : Oper} {a : Act} {w : World} {K : Act → World → Prop} {Q : Exit → Act → World → Prop} {E : Prop}
  (hg : o.guard = none) (d x : Operand) (dT sT : TypeId) (hop : o.op = Op.call { callee:=Callee.builtin Builtin.copy,args:=#[d,x],argTypes:=#[dT,sT] })
  (v u : Value) (hd : a.eval d = v) (hx : a.eval x = u) {v' : Value} {w' : World} (hr : (Builtin.copy_ #[dT,sT] o.type #[v,u]).run Tryz.prog w = .ok v' w') (hK : K (a.put o.dst v') w') :
  if Region.wanted o (yielded ops a.tmps) = true then Oper.wp Tryz.prog o a w K Q else E:=by
 have hw : Region.wanted o (yielded ops a.tmps) = true:=by simp [Region.wanted,hg]
 rw [if_pos hw];unfold Oper.wp;simp [execOp,hop,resolve,invoke,builtin,hd,hx,hr,Result.andThen];exact hK

def inAt {α : Type} (p : Nat) (x : α) (xs : List α) : List α:=xs.take p ++ [x] ++ xs.drop p
theorem inAt_len {α : Type} {p : Nat} {x : α} {xs : List α} (h : p ≤ xs.length) : (inAt p x xs).length = xs.length + 1:=by
 simp only [inAt,List.length_append,List.length_take,List.length_drop,List.length_cons,List.length_nil];omega
theorem inAt_map {α β : Type} (f : α → β) (p : Nat) (x : α) (xs : List α) : (inAt p x xs).map f = inAt p (f x) (xs.map f):=by simp [inAt,List.map_take,List.map_drop]
theorem inAt_at {α : Type} {p : Nat} {x : α} {xs : List α} (h : p ≤ xs.length) (j : Nat) (hj : j < xs.length + 1) : (inAt p x xs)[j]? = (xs ++ [x])[if j < p then j else if j = p then xs.length else j - 1]?:=by
 unfold inAt;by_cases h1 : j < p
 ·rw [if_pos h1,List.append_assoc,List.getElem?_append_left qqd17,List.getElem?_append_left qqd1,List.getElem?_take,if_pos h1]
 ·rw [if_neg h1];by_cases h2 : j = p
  ·subst h2;have hl : (xs.take j).length = j:=by rw [List.length_take,Nat.min_eq_left h]
   have e1 : (xs.take j ++ [x] ++ xs.drop j)[j]? = some x:=by
    rw [List.append_assoc,List.getElem?_append_right qqd1,hl,Nat.sub_self];rfl
   rw [e1,if_pos rfl];simp
  ·rw [if_neg h2,List.getElem?_append_right (by simp only [List.length_append,List.length_take,List.length_cons,List.length_nil];omega),List.getElem?_append_left qqd1,List.getElem?_drop];congr 1;simp only [List.length_append,List.length_take,List.length_cons,List.length_nil];omega
theorem inAt_flat {α : Type} {m p : Nat} {vss : List (List α)} (h : ∀ (j : Nat) vs,vss[j]? = some vs → vs.length = m) (hp : p ≤ vss.length) (vs : List α) : (inAt p vs vss).flatten = vss.flatten.take (p * m) ++ vs ++ vss.flatten.drop (p * m):=by
 have hl : ((vss.take p).flatten).length = p * m:=by
  rw [flat_len (m:=m) (fun j v hv => by
   rw [List.getElem?_take] at hv;split at hv
   ·exact h j v hv
   ·cases hv),List.length_take,Nat.min_eq_left hp]
 have e : vss.flatten = (vss.take p).flatten ++ (vss.drop p).flatten:=by rw [← List.flatten_append,List.take_append_drop]
 have e1 : vss.flatten.take (p * m) = (vss.take p).flatten:=by rw [e];exact List.take_left' hl
 have e2 : vss.flatten.drop (p * m) = (vss.drop p).flatten:=by rw [e];exact List.drop_left' hl
 rw [e1,e2];simp [inAt]
theorem VRecs.ins {w : World} {S : Nat → Prop} {m : Nat} {rs : List (List Fv)} {vss : List (List Value)} {H : Nat → Nat → Nat} (h : VRecs w S m rs vss H) {r : List Fv} {vs : List Value} {hh : Nat → Nat} (hr : r.length = m) (hvs : vs.length = m) (hc : ∀ (i : Nat) f,r[i]? = some f → ∃ v,vs[i]? = some v ∧ f.Fr w (hh i) S v)
  (hn : ∀ (i : Nat) zs,r[i]? = some (.l zs) → zs ≠ [] → ∀ (j : Nat) r' (i' : Nat) zs',rs[j]? = some r' → r'[i']? = some (.l zs') → zs' ≠ [] → ¬ H j i' = hh i)
  (h1 : ∀ (i i' : Nat) zs zs',r[i]? = some (.l zs) → zs ≠ [] → r[i']? = some (.l zs') → zs' ≠ [] → i = i') {p : Nat} (hp : p ≤ rs.length) : ∃ H',VRecs w S m (inAt p r rs) (inAt p vs vss) H':=by
 have hl:=h.len;have e1 : (inAt p r rs).length = rs.length + 1:=inAt_len hp;have e2 : (inAt p vs vss).length = vss.length + 1:=inAt_len qqd1;refine ⟨_,(h.push hr hvs hc hn h1).sel (fun j => if j < p then j else if j = p then rs.length else j - 1) qqd1 (fun j hj => inAt_at hp j qqd1) (fun j hj => ?_) (fun j j' hj hj' e => ?_)⟩
 ·have:=inAt_at (x:=vs) (xs:=vss) (p:=p) qqd1 j qqd1;rw [hl] at this;exact this
 ·split at e <;> split at e
  ·exact e
  all_goals (try split at e) <;> (try split at e) <;> omega

theorem inspd_any (a : Option Addr) (n cap i base vb : Nat) (X ys : List Value) (w : World) (ho : w.ownsRow base 69 6 (.slice a n cap) n X) (hn : n ≤ 8) (hin : i ≤ n) (hbs : base ≤ w.heap.size) (hy : w.heap[vb]? = some (.cells ys.toArray 69 (0,0))) (hyl : ys.length = 6) (hy1 : ∀ u ∈ ys,u.oneCell' = true) (hX1 : ∀ u ∈ X,u.oneCell' = true) (hne : ∀ g,a = some ⟨g,0,none⟩ → ¬ vb = g) :
  Calls Tryz.prog 109 #[.slice a n cap,.int .i64 i,.slice (some ⟨vb,0,none⟩) 1 1] w fun e w' => ∃ v',e = .returned v' ∧ w'.ownsRow base 69 6 v' (n + 1) (X.take (i * 6) ++ ys ++ X.drop (i * 6)) ∧ w.grownBy w' ((.slice a n cap : Value).ownBlock):=by
 obtain ⟨i0,hi,hz0,hz1,hz2⟩:=info_parts infopd;have HI0:=hidK (And.intro hi (And.intro hz0 (And.intro hz1 hz2)));clear hi hz0 hz1 hz2;have hXl : X.length = n * 6:=ho.1;have hnc : n ≤ cap ∧ cap ≤ 9223372036854775807:=by
  rcases ho.2 with ⟨h1,h2⟩ | ⟨g,cp,cur,h1,_,_,h4,h5,_⟩
  ·cases h1;omega
  ·cases h1;unfold maxLen at h5;omega
 have hyn : ∀ (j : Nat) u,ys[j]? = some u → w.cell? ((⟨vb,0,none⟩ : Addr).add j) = some u:=fun j u hu => by
  rw [Addr.add_lit,cellK hy,Nat.zero_add];simpa using hu
 have HYN:=hidK hyn;have HO:=hidK ho;have HY:=hidK hy;have hvl : vb < w.heap.size:=lt_of_some hy;have HX1:=hidK hX1;have HY1:=hidK hy1;clear hyn ho hy hX1 hy1;by_cases hie : i = n
 ·subst hie;have e1 : X.take (i * 6) ++ ys ++ X.drop (i * 6) = X ++ ys:=by rw [List.take_of_length_le qqd1,List.drop_of_length_le qqd1,List.append_nil]
  rw [e1];clear e1;have hc0 : i ≤ cap:=hnc.1;have hq : cap = i ∨ ¬ cap = i:=Classical.em _;rcases hq with rfl | hcap
  ·exact qqa29
  ·exact qqa29
 have hil : i < n:=qqd1
 obtain ⟨g,cur,rfl,hbg,hg,hcs,htk⟩ : ∃ g cur,a = some ⟨g,0,none⟩ ∧ base ≤ g ∧ w.heap[g]? = some (.cells cur 69 (0,0)) ∧ cur.size = cap * 6 ∧ cur.toList.take (n * 6) = X:=by
  rcases HO.out.2 with ⟨h1,h2⟩ | ⟨g,cp,cur,h1,h2,h3,h4,h5,h6,h7⟩
  ·cases h1;omega
  ·cases h1;exact ⟨g,cur,rfl,h2,h3,h6,h7⟩
 have hvg : ¬ vb = g:=hne g rfl;clear hne;have hcell : ∀ (j : Nat) u,X[j]? = some u → w.cell? ⟨g,j,none⟩ = some u:=fun j u hj => by
  rw [cellK hg];rw [← htk,List.getElem?_take] at hj;split at hj
  ·simpa using hj
  ·cases hj
 have hdl : (X.drop (i * 6)).length = (n - i) * 6:=by rw [List.length_drop,hXl,Nat.sub_mul]
 have hgl : g < w.heap.size:=lt_of_some hg;by_cases hroom : n + 1 ≤ cap
 ·have hcp1 : ∀ ty dc sc,(Builtin.copy_ #[65,65] ty #[.slice (some ⟨g,(i + 1) * 6,none⟩) (n - i) dc,.slice (some ⟨g,i * 6,none⟩) (n + 1 - i) sc]).run Tryz.prog w.drew = .ok (goInt (Nat.min (n + 1 - i) (n - i))) (w.drew.setRow g (cur.toList.take ((i + 1) * 6) ++ X.drop (i * 6) ++ cur.toList.drop ((i + 1) * 6 + (X.drop (i * 6)).length)).toArray):=fun ty dc sc =>
   run_copy_rec w.drew 65 65 ty 69 g ((i + 1) * 6) (n - i) dc ⟨g,i * 6,none⟩ (n + 1 - i) sc 6 cur 69 (X.drop (i * 6)) i0 Tryz.underlying65 HI0.out.1 HI0.out.2.2.1 hg (by rw [hdl];simp only [Nat.min_def];split <;> omega) (fun j u hj => by
    rw [List.getElem?_drop] at hj;rw [Addr.add_lit]
    exact hcell _ u hj) (by rw [hdl,hcs];omega) (fun u hu => HX1.out u (List.mem_of_mem_drop hu))
  obtain ⟨cur1,hcur1⟩ : ∃ c1 : List Value,c1 = cur.toList.take ((i + 1) * 6) ++ X.drop (i * 6) ++ cur.toList.drop ((i + 1) * 6 + (X.drop (i * 6)).length):=⟨_,rfl⟩;rw [← hcur1] at hcp1;have hc1l : cur1.length = cap * 6:=by rw [hcur1];simp only [List.length_append,List.length_take,List.length_drop,hXl,Array.length_toList,hcs];omega
  obtain ⟨W1,hW1⟩ : ∃ W1,W1 = w.drew.setRow g cur1.toArray:=⟨_,rfl⟩;rw [← hW1] at hcp1;have hg1 : W1.heap[g]? = some (.cells cur1.toArray 69 (0,0)):=by rw [hW1];exact setRow_heap w.drew g _ _ 69 _ hg
  have hv1 : W1.heap[vb]? = w.heap[vb]?:=by rw [hW1];exact setRow_other w.drew g vb _ hvg
  have hcp2 : ∀ ty dc,(Builtin.copy_ #[65,34] ty #[.slice (some ⟨g,i * 6,none⟩) (n + 1 - i) dc,.slice (some ⟨vb,0,none⟩) 1 1]).run Tryz.prog W1 = .ok (goInt (Nat.min 1 (n + 1 - i))) (W1.setRow g (cur1.take (i * 6) ++ ys ++ cur1.drop (i * 6 + ys.length)).toArray):=fun ty dc => by
   have:=run_copy_rec W1 65 34 ty 69 g (i * 6) (n + 1 - i) dc ⟨vb,0,none⟩ 1 1 6 cur1.toArray 69 ys i0 Tryz.underlying65 HI0.out.1 HI0.out.2.2.1 hg1 (by rw [hyl];simp only [Nat.min_def];split <;> omega) (fun j u hj => by
    rw [Addr.add_lit,cellK (hv1.trans HY.out),Nat.zero_add];simpa using hj) (by simp only [List.size_toArray];rw [hc1l,hyl];omega) HY1.out
   simpa using this
  have hov : ∀ lb cb,(callFunc 142 #[.slice (some ⟨vb,0,none⟩) 1 1,.slice (some ⟨g,(i + 1) * 6,none⟩) lb cb]).run Tryz.prog w = .ok (.value (.bool false)) w:=fun lb cb => by
   rw [run_callFunc_extern Tryz.func142 qqd2 qqd2 qqd2 (e:=Extern.SlicesOverlaps.overlaps #[34,34] #[4]) qqd2,
    Lib.run_overlaps_apart w 34 4 69 Tryz.underlying34 6 (fun w => by kernel_rfl) ⟨vb,0,none⟩ ⟨g,(i + 1) * 6,none⟩ 1 1 lb cb hvg 69 69 ys.toArray.size cur.size (by simp [World.shape?,HY.out]) (by simp [World.shape?,hg]) (Nat.ne_of_gt (by rw [hcs];omega)) (froK HY.out _) (froK HY.out _)]
   rfl
  have hb2 : ¬ cap = i + 1:=qqd1
  have hb4 : ¬ cap = i:=qqd1
  have hb5 : ¬ ((i : Int) = (n : Int)):=qqd1
  have hb6 : ¬ ((cap : Int) < (n : Int) + 1):=qqd1
  have mixed : Tryz.prog.follows .mixedOrders = true:=qqd2
  have hw1 : IntKind.i64.wrap ((i : Int) + 1) = (i : Int) + 1:=by rw [IntKind.wrap_i64];omega
  have hb1 : (0 : Int) ≤ (i : Int) + 1:=qqd1
  have hin : i ≤ n:=qqd1
  have htn : ((i : Int) + 1).toNat = i + 1:=qqd1
  have hb3 : (i : Int) ≤ (n : Int) + 1:=qqd1
  have u0:=run_underlying Tryz.underlying65;have HG:=hidK hg;have HG1:=hidK hg1;have HW1:=hidK hW1;have HC1:=hidK hcur1;have HTK:=hidK htk;clear hg hg1 hW1 hcur1 htk hv1 hcell hdl hie;go_enter Tryz.func109,Tryz.ntmps109;go_wp2_with (simp only [hov]);go_region_law_o (refine step_copy_run rfl _ _ 65 65 rfl _ _ qqd22 qqd22 (hcp1 (3) (cap - (i + 1)) (cap - i)) ?_);go_wp2_with (at_builtin;refine wpList_copy_run _ rfl _ _ 65 34 rfl _ _ rfl rfl (hcp2 _ _) ?_);go_ret;refine ⟨_,rfl,⟨?_,Or.inr ⟨g,cap,(cur1.take (i * 6) ++ (ys ++ cur1.drop (i * 6 + 6))).toArray,rfl,hbg,setRow_heap W1 g _ _ _ _ HG1.out,hroom,by unfold maxLen;omega,?_,?_⟩⟩,?_⟩
  ·simp only [List.length_append,List.length_take,List.length_drop];omega
  ·simp only [List.size_toArray,List.length_append,List.length_take,List.length_drop,hc1l];omega
  ·have e:=ins_list (a:=i * 6) (b:=n * 6) (c:=cap * 6) (m:=6) (c1:=cur1) HTK.out (by rw [Array.length_toList,hcs]) qqd1 qqd1 hyl (by rw [HC1.out,show (i + 1) * 6 = i * 6 + 6 by omega]);rw [show (n + 1) * 6 = n * 6 + 6 by omega];simpa using e
  ·have h1 : w.grownBy w.drew (some g):=⟨rfl,rfl,rfl,Nat.le_refl _,fun _ _ _ => rfl⟩;have h2 : w.drew.grownBy W1 (some g):=by rw [HW1.out];exact grown_setRow w.drew g _
   exact (h1.trans h2).trans (grown_setRow W1 g _)
 have hcn : cap = n:=qqd1
 subst hcn;obtain ⟨N,hN⟩ : ∃ N,N = w.heap.size:=⟨_,rfl⟩;obtain ⟨G,hG⟩ : ∃ G,G = grownCap w (cap + 1) cap 69:=⟨_,rfl⟩;obtain ⟨ROW,hROW⟩ : ∃ R : Array Value,R = (X.take (i * 6)).toArray ++ Builtin.zeroCells (.agg #[.string ⟨#[]⟩,.int .i64 0,.string ⟨#[]⟩,.slice none 0 0,.string ⟨#[]⟩,.int .i64 0] : Value).cells (cap + 1 - i) ++ Builtin.zeroCells (.agg #[.string ⟨#[]⟩,.int .i64 0,.string ⟨#[]⟩,.slice none 0 0,.string ⟨#[]⟩,.int .i64 0] : Value).cells (G - (cap + 1)):=⟨_,rfl⟩;obtain ⟨W1,hW1⟩ : ∃ W1,W1 = w.drew.alloc (.cells ROW 69):=⟨_,rfl⟩;have hGn : cap + 1 ≤ G:=by rw [hG];exact grownCap_ge w _ _ _
 have hG63 : G ≤ 9223372036854775807:=by
  have:=grownCap_le_maxLen w (cap + 1) cap 69 qqd9;rw [← hG] at this;unfold maxLen at this;omega
 have hRs : ROW.size = G * 6:=by
  rw [hROW];simp only [Array.size_append,List.size_toArray,List.length_take,size_zeroCells,hXl];rw [show (.agg #[.string ⟨#[]⟩,.int .i64 0,.string ⟨#[]⟩,.slice none 0 0,.string ⟨#[]⟩,.int .i64 0] : Value).cells.size = 6 from rfl];omega
 have hRt : ROW.toList.take (i * 6) = X.take (i * 6):=by
  rw [hROW,Array.toList_append,Array.toList_append,List.append_assoc];exact List.take_left' qqd17
 have hrz : ∀ ty,(Builtin.append_ #[65,3] ty #[.slice (some ⟨g,0,none⟩) i cap,.int .i64 ((cap : Int) + 1 - (i : Int))]).run Tryz.prog w = .ok (.slice (some ⟨N,0,none⟩) (cap + 1) G) W1:=fun ty => by
  have hold : (Builtin.firstCells i0.size i (.slice (some ⟨g,0,none⟩) i cap)).run Tryz.prog w.drew = .ok (X.take (i * 6)).toArray w.drew:=by
   rw [HI0.out.2.2.1];exact run_firstCells_some w.drew 6 i ⟨g,0,none⟩ i cap (X.take (i * 6)) qqd17 (fun j v hj => by
    rw [Addr.add_lit,Nat.zero_add];rw [List.getElem?_take] at hj;split at hj
    ·exact hcell j v hj
    ·cases hj)
  have h:=Lib.run_append_grow_zeros w 65 3 ty 69 i0 _ .i64 .i64 Tryz.underlying65 Tryz.underlying3 HI0.out.1 HI0.out.2.1 (some ⟨g,0,none⟩) i cap (X.take (i * 6)) hold (cap + 1 - i) qqd1 (by rw [HI0.out.2.2.1];decide) qqd1 qqd1 (by rw [HI0.out.2.2.2];omega) (by rw [HI0.out.2.2.2];exact growslice_fits qqd1 qqd1);rw [show i + (cap + 1 - i) = cap + 1 by omega,← hG,← hROW,← hW1,← hN] at h;rw [show (cap : Int) + 1 - (i : Int) = ((cap + 1 - i : Nat) : Int) by omega];exact h
 have hgN : W1.heap[N]? = some (.cells ROW 69 (0,0)):=by rw [hW1,hN];exact Go.heap_alloc_new w.drew _
 have hg1 : W1.heap[g]? = w.heap[g]?:=by rw [hW1];exact Go.heap_alloc_old w.drew _ hgl
 have hv1 : W1.heap[vb]? = w.heap[vb]?:=by rw [hW1];exact Go.heap_alloc_old w.drew _ hvl
 obtain ⟨R2,hR2⟩ : ∃ R2 : List Value,R2 = ROW.toList.take (i * 6) ++ ys ++ ROW.toList.drop (i * 6 + ys.length):=⟨_,rfl⟩;obtain ⟨W2,hW2⟩ : ∃ W2,W2 = W1.setRow N R2.toArray:=⟨_,rfl⟩;have hcpA : ∀ ty dc,(Builtin.copy_ #[65,34] ty #[.slice (some ⟨N,i * 6,none⟩) (cap + 1 - i) dc,.slice (some ⟨vb,0,none⟩) 1 1]).run Tryz.prog W1 = .ok (goInt (Nat.min 1 (cap + 1 - i))) W2:=fun ty dc => by
  rw [hW2,hR2];exact run_copy_rec W1 65 34 ty 69 N (i * 6) (cap + 1 - i) dc ⟨vb,0,none⟩ 1 1 6 ROW 69 ys i0 Tryz.underlying65 HI0.out.1 HI0.out.2.2.1 hgN (by rw [hyl];simp only [Nat.min_def];split <;> omega) (fun j u hj => by
   rw [Addr.add_lit,cellK (hv1.trans HY.out),Nat.zero_add];simpa using hj) (by rw [hRs,hyl];omega) HY1.out
 have hR2l : R2.length = G * 6:=by
  rw [hR2];simp only [List.length_append,List.length_take,List.length_drop,Array.length_toList,hRs,hyl];omega
 have hgN2 : W2.heap[N]? = some (.cells R2.toArray 69 (0,0)):=by rw [hW2];exact setRow_heap W1 N _ _ 69 _ hgN
 have hgn : ¬ g = N:=qqd1
 have hg2 : W2.heap[g]? = w.heap[g]?:=by rw [hW2,setRow_other W1 N g _ hgn];exact hg1
 obtain ⟨R3,hR3⟩ : ∃ R3 : List Value,R3 = R2.take ((i + 1) * 6) ++ X.drop (i * 6) ++ R2.drop ((i + 1) * 6 + (X.drop (i * 6)).length):=⟨_,rfl⟩;obtain ⟨W3,hW3⟩ : ∃ W3,W3 = W2.drew.setRow N R3.toArray:=⟨_,rfl⟩;have hcpB : ∀ ty dc sc,(Builtin.copy_ #[65,65] ty #[.slice (some ⟨N,(i + 1) * 6,none⟩) (cap - i) dc,.slice (some ⟨g,i * 6,none⟩) (cap - i) sc]).run Tryz.prog W2.drew = .ok (goInt (Nat.min (cap - i) (cap - i))) W3:=fun ty dc sc => by
  have:=run_copy_rec W2.drew 65 65 ty 69 N ((i + 1) * 6) (cap - i) dc ⟨g,i * 6,none⟩ (cap - i) sc 6 R2.toArray 69 (X.drop (i * 6)) i0 Tryz.underlying65 HI0.out.1 HI0.out.2.2.1 hgN2 (by rw [hdl];simp only [Nat.min_def];split <;> omega) (fun j u hj => by
   rw [List.getElem?_drop] at hj;have hc:=hcell _ u hj;rw [Addr.add_lit];rw [← hc];exact World.cell?_of_block (w:=w) (w':=W2.drew) hg2) (by rw [hdl,List.size_toArray,hR2l];omega) (fun u hu => HX1.out u (List.mem_of_mem_drop hu))
  rw [hW3,hR3];simpa only [List.toList_toArray] using this
 have hW3o : ∀ k,¬ k = N → W3.heap[k]? = W1.heap[k]?:=fun k hk => by rw [hW3,setRow_other W2.drew N k _ hk];exact (congrArg (fun z : World => z.heap[k]?) hW2).trans (setRow_other W1 N k _ hk)
 have hfin : w.grownBy W3 (some g):=by
  have h0 : w.grownBy w.drew (some g):=⟨rfl,rfl,rfl,Nat.le_refl _,fun _ _ _ => rfl⟩;have h1 : w.grownBy W1 (some g):=by rw [hW1];exact h0.trans (World.grownBy_alloc w.drew _ _)
  refine ⟨?_,?_,?_,?_,fun k hk hkg => (hW3o k qqd1).trans (h1.block k hk hkg)⟩
  ·rw [hW3,hW2];exact h1.os
  ·rw [hW3,hW2];exact h1.tape
  ·rw [hW3,hW2];exact h1.output
  ·rw [hW3,hW2];exact Nat.le_trans h1.size (by simp [World.setRow])
 have hrow : W3.ownsRow base 69 6 (.slice (some ⟨N,0,none⟩) (cap + 1) G) (cap + 1) (X.take (i * 6) ++ ys ++ X.drop (i * 6)):=by
  refine ⟨?_,Or.inr ⟨N,G,R3.toArray,rfl,by omega,by rw [hW3];exact setRow_heap W2.drew N _ _ 69 _ hgN2,hGn,by unfold maxLen;omega,?_,?_⟩⟩
  ·simp only [List.length_append,List.length_take,List.length_drop];omega
  ·rw [hR3];simp only [List.size_toArray,List.length_append,List.length_take,List.length_drop,hR2l];omega
  ·have e:=grow_list (a:=i * 6) (b:=cap * 6) (m:=6) (R2:=R2) hRt hXl qqd1 hyl hR2 (R2.drop ((i + 1) * 6 + (X.drop (i * 6)).length));rw [hR3,show (cap + 1) * 6 = cap * 6 + 6 by omega,show (i + 1) * 6 = i * 6 + 6 by omega];rw [show (i + 1) * 6 = i * 6 + 6 by omega] at e;simpa using e
 have hGi : ¬ G = i:=qqd1
 have hGim : ¬ G = i + 1:=qqd1
 have hci : ¬ cap = i:=qqd1
 have hz2 : ¬ ((i : Int) = (cap : Int)):=qqd1
 have hz3 : (cap : Int) < (cap : Int) + 1:=qqd1
 have mixed : Tryz.prog.follows .mixedOrders = true:=qqd2
 have hw1 : IntKind.i64.wrap ((i : Int) + 1) = (i : Int) + 1:=by rw [IntKind.wrap_i64];omega
 have hb1 : (0 : Int) ≤ (i : Int) + 1:=qqd1
 have hin : i ≤ cap:=qqd1
 have htn : ((i : Int) + 1).toNat = i + 1:=qqd1
 have hb3 : (i : Int) ≤ (cap : Int):=qqd1
 have u0:=run_underlying Tryz.underlying65;have HF:=hidK (And.intro hrow hfin);clear hN hrow hfin hW3o hW3 hW2 hR3 hg2 hgN2 hR2l hR2 hv1 hg1 hgN hRt hRs hW1 hROW hG hcell hdl hie hg htk hcs HO;go_enter Tryz.func109,Tryz.ntmps109;go_wp2_with (first
  | (at_builtin;refine Lib.wpList_append_run _ rfl _ _ _ _ rfl _ _ rfl rfl _ _ (hrz _) ?_)
  | (at_builtin;refine wpList_copy_run _ rfl _ _ 65 34 rfl _ _ rfl rfl (hcpA _ _) ?_))

 go_region_law_o (refine step_copy_run rfl _ _ 65 65 rfl _ _ qqd22 qqd22 (hcpB 3 (G - (i + 1)) (cap - i)) ?_)
 go_wp2
 go_ret;exact ⟨_,rfl,HF.out.1,HF.out.2⟩

theorem clonepd_any (a : Option Addr) (n cap : Nat) (X : List Value) (w : World) (hn : n ≤ 8) (hXl : X.length = n * 6) (hX1 : ∀ u ∈ X,u.oneCell' = true) (hXc : ∀ (j : Nat) u,X[j]? = some u → ∃ g,a = some ⟨g,0,none⟩ ∧ w.cell? ⟨g,j,none⟩ = some u) :
  Calls Tryz.prog 110 #[.slice a n cap] w fun e w' => ∃ a' c',e = .returned (.slice a' n c') ∧ w'.ownsRow w.heap.size 69 6 (.slice a' n c') n X ∧ Below w.heap.size w w':=by
 obtain ⟨i0,hi,hz0,hz1,hz2⟩:=info_parts infopd;have HI0:=hidK (And.intro hi (And.intro hz0 (And.intro hz1 hz2)));clear hi hz0 hz1 hz2;have HX1:=hidK hX1;have HXC:=hidK hXc;have heq : ∀ w : World,(binOp .eql 65 (.slice a n cap) (.slice none 0 0)).run Tryz.prog w = .ok (.bool a.isNone) w:=fun w => Lib.run_eql_slice_nil w 65 69 a n cap 0 0 Tryz.underlying65;clear hX1 hXc;cases a with
 | none =>
  obtain rfl : X = []:=by
   rcases X with _ | ⟨u,X⟩
   ·rfl
   ·obtain ⟨g,e,_⟩:=HXC.out 0 u rfl
    cases e
  obtain rfl : n = 0:=by simp at hXl;omega
  go_enter Tryz.func110,Tryz.ntmps110
  go_wp2
  go_ret;exact ⟨none,0,rfl,World.ownsRow_nil _ _ _ _,Below.refl _ _⟩
 | some ad =>
  obtain ⟨ab,ao,asp⟩:=ad
  have hnew : ∀ (j : Nat) u,X[j]? = some u → (w.alloc (.cells #[] 69)).cell? ((⟨ab,ao,asp⟩ : Addr).add j) = some u:=fun j u hu => by
   obtain ⟨g,e,hc⟩:=HXC.out j u hu
   cases e
   rw [Addr.add_lit,Nat.zero_add];have hlt:=cell_lt hc;rw [← hc];exact World.cell?_of_block (heap_alloc_old w _ hlt)
  have HN:=hidK hnew;have HO : Hid ((w.alloc (.cells #[] 69)).ownsRow w.heap.size 69 6 (.slice (some ⟨w.heap.size,0,none⟩) 0 0) 0 []):=World.ownsRow_made w #[] 0 (Nat.le_refl _) (Nat.zero_le _) qqd6;clear hnew HXC
  go_enter Tryz.func110,Tryz.ntmps110
  go_wp2_with (at_builtin;refine wpList_append_two rfl _ _ 65 65 rfl w.heap.size 69 69 i0 (.agg #[.string ⟨#[]⟩,.int .i64 0,.string ⟨#[]⟩,.slice none 0 0,.string ⟨#[]⟩,.int .i64 0]) 6 88 Tryz.underlying65 Tryz.underlying65 HI0.out.1 HI0.out.2.1 HI0.out.2.2.1 HI0.out.2.2.2 rfl qqd3 _ _ _ rfl HO.out ⟨ab,ao,asp⟩ n cap X rfl hXl HN.out HX1.out qqd9 qqd1 qqd6 ?_)
  intro v' w' h1 h2
  obtain ⟨a',c',rfl⟩ : ∃ a' c',v' = .slice a' n c':=by
   rcases h1.2 with ⟨rfl,h0⟩ | ⟨g,cp,cu,rfl,_⟩
   ·exact ⟨none,0,by rw [h0]⟩
   ·exact ⟨_,_,rfl⟩
  have H1:=hidK h1;have H2:=hidK h2;clear h1 h2
  go_wp2
  go_ret;refine ⟨a',c',rfl,H1.out,((below1 w (.cells #[] 69)).grown H2.out qqd6 (fun g hg => ?_))⟩
  simp [Value.ownBlock] at hg
  omega

theorem withpd_any (a : Option Addr) (n cap : Nat) (xs : List Pd) (x : Pd) (va : Option Addr) (vl vc hh : Nat) (Q Q2 : Nat → Prop) (w : World) (ho : ROwn w a n cap 6 69 (xs.map pdF) Q) (hn : n ≤ 8) (hxf : ∀ (i : Nat) f,(pdF x)[i]? = some f → ∃ v,[.string x.n,.int .i64 x.c,.string x.z,.slice va vl vc,.string x.d,.int .i64 x.p][i]? = some v ∧ f.Fr w hh Q2 v) (hq : ∀ k,Q k → Q2 k → False) :
  Calls Tryz.prog 88 #[.slice a n cap,.agg #[.string x.n,.int .i64 x.c,.string x.z,.slice va vl vc,.string x.d,.int .i64 x.p]] w fun e w' => ∃ a' l' c',e = .returned (.slice a' l' c') ∧ ROwn w' a' l' c' 6 69 ((inAt (pl Pd.n xs x.n) x xs).map pdF) (fun k => (Q k ∨ Q2 k) ∨ w.heap.size ≤ k) ∧ Below w.heap.size w w':=by
 have HR:=hidK ho.row;have hxl : xs.length = n:=by simpa using ho.1
 obtain ⟨vss,H,hV,hcell⟩:=ho.recs;have hvl : vss.length = n:=by rw [hV.len,List.length_map,hxl]
 have hfl : vss.flatten.length = n * 6:=by rw [flat_len hV.all,hvl]
 have HV:=hidK hV;have HC:=hidK hcell;have HF:=hidK hxf;have HQ:=hidK hq;clear ho hV hcell hxf hq;have hmcalled : ∀ (v : Value) (w : World),(method 335 69 v "loop.example/g00571/impl.called").run Tryz.prog w = .ok (178,v) w:=fun _ _ => by kernel_rfl
 obtain ⟨j,hj⟩ : ∃ j,j = pl Pd.n xs x.n:=⟨_,rfl⟩;have hjn : j ≤ n:=by rw [hj,← hxl];exact List.findIdx_le_length
 have HJ:=hidK hj;have HFIN : Hid (∀ (w4 : World) v4 base,w.heap.size ≤ base → Below w.heap.size w w4 → w4.ownsRow base 69 6 v4 (n + 1) (vss.flatten.take (j * 6) ++ [.string x.n,.int .i64 x.c,.string x.z,.slice va vl vc,.string x.d,.int .i64 x.p] ++ vss.flatten.drop (j * 6)) → ∃ a' c',v4 = .slice a' (n + 1) c' ∧ ROwn w4 a' (n + 1) c' 6 69 ((inAt (pl Pd.n xs x.n) x xs).map pdF) (fun k => (Q k ∨ Q2 k) ∨ w.heap.size ≤ k)):=fun w4 v4 base hbs hB4 ho4 => by
  rw [← inAt_flat HV.out.all qqd1] at ho4;have hV4:=(HV.out.below hB4).keep (w':=w4) (S':=fun k => (Q k ∨ Q2 k) ∨ w.heap.size ≤ k) (fun _ _ _ _ => rfl) (fun _ _ s => .inl (.inl s));obtain ⟨H4,hV5⟩:=hV4.ins (p:=j) (r:=pdF x) (vs:=[.string x.n,.int .i64 x.c,.string x.z,.slice va vl vc,.string x.d,.int .i64 x.p]) (hh:=fun _ => hh) rfl rfl (fun i f hf => by
   obtain ⟨v,h1,h2⟩:=HF.out i f hf;exact ⟨v,h1,h2.keep (fun cu _ q => hB4.block _ (lt_of_some q)) (fun _ s => .inl (.inr s))⟩) (fun i zs h hz k r i2 zs2 hr2 hz2 hne e => by
  obtain ⟨v,_,h2⟩:=HF.out i _ h;obtain ⟨_,_,_,_,_,_,_,_,h3⟩:=h2;have hkv : k < vss.length:=by rw [HV.out.len];exact (List.getElem?_eq_some_iff.1 hr2).1
  obtain ⟨v',_,h5⟩:=HV.out.cell k r _ hr2 (List.getElem?_eq_getElem hkv) i2 _ hz2;obtain ⟨_,_,_,_,_,_,_,_,h6⟩:=h5;rcases h3 with h3 | ⟨_,h3,_⟩
  ·exact hz h3
  ·rcases h6 with h6 | ⟨_,h6,_⟩
   ·exact hne h6
   ·rw [e] at h6;exact HQ.out _ h6 h3) (fun i i2 zs zs2 h _ h2 _ => by
  rcases i with _ | _ | _ | _ | _ | _ | i <;> simp [pdF] at h <;> rcases i2 with _ | _ | _ | _ | _ | _ | i2 <;> simp [pdF] at h2 <;> rfl) (by rw [List.length_map];omega)
  have h45 : VRecs w4 (fun k => (Q k ∨ Q2 k) ∨ w.heap.size ≤ k) 6 ((inAt j x xs).map pdF) (inAt j [.string x.n,.int .i64 x.c,.string x.z,.slice va vl vc,.string x.d,.int .i64 x.p] vss) H4:=by rw [inAt_map];exact hV5
  have hle : ((inAt j x xs).map pdF).length = n + 1:=by rw [List.length_map,inAt_len qqd1,hxl]
  obtain ⟨a',c',e,hR⟩:=h45.own ho4 hle.symm qqd3 (fun g hg => .inr (by have:=(ho4.lt g hg).1;omega));rw [hle] at e hR;rw [hj] at hR;exact ⟨a',c',e,hR⟩
 have HCL : Hid (∀ W,Below w.heap.size w W → ∀ (k : Nat) u,vss.flatten[k]? = some u → ∃ g,a = some ⟨g,0,none⟩ ∧ W.cell? ⟨g,k,none⟩ = some u):=fun W hW k u hu => by
  obtain ⟨g,h1,_,h3⟩:=HC.out k u hu;exact ⟨g,h1,(cell_below hW (cell_lt h3)).trans h3⟩
 have HV1:=hidK HV.out.one;clear HV HC HF HQ hj;go_enter Tryz.func88,Tryz.ntmps88;go_wp2_with fail;refine (calledpd_any x va vl vc _).mono ?_;rintro e w1 ⟨rfl,hb1⟩;obtain ⟨hn1,hbx⟩:=slots1 hb1;have HN1:=hidK hn1;have HB1:=hidK hbx;clear hb1 hn1 hbx;go_wp2_with fail;refine (placepd_any a n cap xs x.n _ (HR.out.below HB1.out)).mono ?_;rintro e w2 ⟨rfl,hb2⟩;have HN2:=hidK ((hb2.block w.heap.size (lt_of_some HN1.out)).trans HN1.out);have HB2:=upB HB1 hb2;clear hb2 HN1 HB1;rw [← HJ.out];generalize hit Pd.n xs x.n = bb;have hs2 : w.heap.size < w2.heap.size:=lt_of_some HN2.out;have HBD : Hid (Below w.heap.size w w2.drew):=Below.drewn HB2.out;obtain ⟨n0,n1,n2,n3,n4,n5⟩:=cs6 (show w2.drew.heap[w.heap.size]? = _ from HN2.out);have hcl1 : Calls Tryz.prog 110 #[.slice a n cap] w2.drew fun e w3 => ∃ a3 c3,e = .returned (.slice a3 n c3) ∧ Hid (w3.ownsRow w2.heap.size 69 6 (.slice a3 n c3) n vss.flatten) ∧ Hid (Below w.heap.size w w3) ∧ w2.heap.size ≤ w3.heap.size ∧ w.heap.size < w3.heap.size ∧ w3.heap[w.heap.size]? = some (.cells #[.string x.n,.int .i64 x.c,.string x.z,.slice va vl vc,.string x.d,.int .i64 x.p] 69 (0,0)):=by
  refine (clonepd_any a n cap vss.flatten w2.drew hn hfl HV1.out (HCL.out _ HBD.out)).mono ?_;rintro e w3 ⟨a3,c3,rfl,ho3,hb3⟩;have hs3 : w2.heap.size ≤ w3.heap.size:=hb3.size;exact ⟨a3,c3,rfl,ho3,HBD.out.trans (hb3.mono HBD.out.size),hs3,by omega,(hb3.block w.heap.size hs2).trans (show w2.drew.heap[w.heap.size]? = _ from HN2.out)⟩
 have hcl2 : Calls Tryz.prog 110 #[.slice a n cap] (w2.alloc (.cells #[.string x.n,.int .i64 x.c,.string x.z,.slice va vl vc,.string x.d,.int .i64 x.p] 69)).drew fun e w3 => ∃ a3 c3,e = .returned (.slice a3 n c3) ∧ Hid (w3.ownsRow (w2.heap.size + 1) 69 6 (.slice a3 n c3) n vss.flatten) ∧ Hid (Below w.heap.size w w3) ∧ w2.heap.size + 1 ≤ w3.heap.size ∧ Hid (w3.heap[w2.heap.size]? = some (.cells #[.string x.n,.int .i64 x.c,.string x.z,.slice va vl vc,.string x.d,.int .i64 x.p] 69 (0,0))):=by
  have hbl:=Below.drewn (HB2.out.alloc HB2.out.size (.cells #[.string x.n,.int .i64 x.c,.string x.z,.slice va vl vc,.string x.d,.int .i64 x.p] 69));have hsz : (w2.alloc (.cells #[.string x.n,.int .i64 x.c,.string x.z,.slice va vl vc,.string x.d,.int .i64 x.p] 69)).drew.heap.size = w2.heap.size + 1:=qqd6
  refine (clonepd_any a n cap vss.flatten _ hn hfl HV1.out (HCL.out _ hbl)).mono ?_;rintro e w3 ⟨a3,c3,rfl,ho3,hb3⟩;have hs3:=hb3.size;rw [hsz] at ho3 hs3;exact ⟨a3,c3,rfl,ho3,hbl.trans (hb3.mono hbl.size),hs3,(hb3.block w2.heap.size (by rw [hsz];omega)).trans (show (w2.alloc (.cells #[.string x.n,.int .i64 x.c,.string x.z,.slice va vl vc,.string x.d,.int .i64 x.p] 69)).drew.heap[w2.heap.size]? = _ from heap_alloc_new w2 _)⟩
 have hin1 : ∀ (w3 : World) a3 c3,w3.ownsRow w2.heap.size 69 6 (.slice a3 n c3) n vss.flatten → Below w.heap.size w w3 → w2.heap.size ≤ w3.heap.size → Calls Tryz.prog 109 #[.slice a3 n c3,.int .i64 j,.slice (some ⟨w3.heap.size,0,none⟩) 1 1] (w3.alloc (.cells #[.string x.n,.int .i64 x.c,.string x.z,.slice va vl vc,.string x.d,.int .i64 x.p] 69)) fun e w4 => ∃ a' c',e = .returned (.slice a' (n + 1) c') ∧ Hid (ROwn w4 a' (n + 1) c' 6 69 ((inAt (pl Pd.n xs x.n) x xs).map pdF) (fun k => (Q k ∨ Q2 k) ∨ w.heap.size ≤ k)) ∧ Hid (Below w.heap.size w w4):=fun w3 a3 c3 ho3 hB3 hs3 => by
  refine (inspd_any a3 n c3 j w2.heap.size w3.heap.size vss.flatten [.string x.n,.int .i64 x.c,.string x.z,.slice va vl vc,.string x.d,.int .i64 x.p] (w3.alloc (.cells #[.string x.n,.int .i64 x.c,.string x.z,.slice va vl vc,.string x.d,.int .i64 x.p] 69)) (ho3.alloc _) hn hjn qqd7 (heap_alloc_new w3 _) rfl (by simp [Value.oneCell']) HV1.out (fun g hg e => by
   have h9:=(ho3.lt g (by rw [hg];rfl)).2;omega)).mono ?_
  rintro e w4 ⟨v4,rfl,ho4,hg4⟩;have hB5:=(hB3.alloc hB3.size (.cells #[.string x.n,.int .i64 x.c,.string x.z,.slice va vl vc,.string x.d,.int .i64 x.p] 69)).grown hg4 qqd7 (fun g hg => by
   have h9:=(ho3.lt g hg).1;omega)
  obtain ⟨a',c',rfl,hR⟩:=HFIN.out w4 v4 _ qqd1 hB5 ho4;exact ⟨a',c',rfl,hR,hB5⟩
 have hin2 : ∀ (w3 : World) a3 c3,w3.ownsRow (w2.heap.size + 1) 69 6 (.slice a3 n c3) n vss.flatten → Below w.heap.size w w3 → w2.heap.size + 1 ≤ w3.heap.size → w3.heap[w2.heap.size]? = some (.cells #[.string x.n,.int .i64 x.c,.string x.z,.slice va vl vc,.string x.d,.int .i64 x.p] 69 (0,0)) → Calls Tryz.prog 109 #[.slice a3 n c3,.int .i64 j,.slice (some ⟨w2.heap.size,0,none⟩) 1 1] w3 fun e w4 => ∃ a' c',e = .returned (.slice a' (n + 1) c') ∧ Hid (ROwn w4 a' (n + 1) c' 6 69 ((inAt (pl Pd.n xs x.n) x xs).map pdF) (fun k => (Q k ∨ Q2 k) ∨ w.heap.size ≤ k)) ∧ Hid (Below w.heap.size w w4):=fun w3 a3 c3 ho3 hB3 hs3 hy3 => by
  refine (inspd_any a3 n c3 j (w2.heap.size + 1) w2.heap.size vss.flatten [.string x.n,.int .i64 x.c,.string x.z,.slice va vl vc,.string x.d,.int .i64 x.p] w3 ho3 hn hjn hs3 hy3 rfl (by simp [Value.oneCell']) HV1.out (fun g hg e => by
   have h9:=(ho3.lt g (by rw [hg];rfl)).1;omega)).mono ?_
  rintro e w4 ⟨v4,rfl,ho4,hg4⟩;have hB5:=hB3.grown hg4 qqd1 (fun g hg => by
   have h9:=(ho3.lt g hg).1;omega)
  obtain ⟨a',c',rfl,hR⟩:=HFIN.out w4 v4 _ qqd1 hB5 ho4;exact ⟨a',c',rfl,hR,hB5⟩
 have C1:=hidK hcl1;have C2:=hidK hcl2;have I1:=hidK hin1;have I2:=hidK hin2;clear hcl1 hcl2 hin1 hin2 HFIN HCL HR HJ HBD HB2;have mixed : Tryz.prog.follows .mixedOrders = true:=qqd2
 go_wp2;go_region_with (first
  | (go_at_call 110;refine C1.out.mono ?_;rintro e w3 ⟨a3,c3,rfl,HO3,HB3,hs3,hw3l,hx3⟩;obtain ⟨m0,m1,m2,m3,m4,m5⟩:=cs6 hx3;clear hx3)
  | (go_at_call 110;refine C2.out.mono ?_;rintro e w3 ⟨a3,c3,rfl,HO3,HB3,hs3,HY3⟩)
  | (go_at_call 109;refine (I1.out w3 a3 c3 HO3.out HB3.out hs3).mono ?_;rintro e w4 ⟨a',c',rfl,HR5,HB5⟩)
  | (go_at_call 109;refine (I2.out w3 a3 c3 HO3.out HB3.out hs3 HY3.out).mono ?_;rintro e w4 ⟨a',c',rfl,HR5,HB5⟩))
 all_goals (
  go_wp2
  go_ret
  exact ⟨a',_,c',rfl,HR5.out,HB5.out⟩)

def Gone (c : Cl) (x : Pd) : Prop:=∃ n : Nd,c.ns[pl Nd.n c.ns x.d]? = some n ∧ n.n = x.d ∧ n.d = true ∧ n.u + 5 < c.now
def idle (x : Pd) : Pd:=⟨x.n,x.c,x.z,x.zs,⟨#[]⟩,0⟩
def evC (c : Cl) (t : ByteArray) (x : Pd) : Cl:=⟨c.ns,c.ks,c.vs,c.xs,c.ps.set (pl Pd.n c.ps t) (idle x),c.now⟩
def putP (c : Cl) (x : Pd) : Cl:=⟨c.ns,c.ks,c.vs,c.xs,inAt (pl Pd.n (wo Pd.n x.n c.ps) x.n) x (wo Pd.n x.n c.ps),c.now⟩
def EvWhy (c : Cl) (t : ByteArray) : Nat → Prop
 | 0 => 8000 < t.size
 | 1 => ¬ 8000 < t.size ∧ ¬ RightI c
 | 2 => ¬ 8000 < t.size ∧ RightI c ∧ hit Pd.n c.ps t = false
 | 8 => ¬ 8000 < t.size ∧ RightI c ∧ ∃ x,c.ps[pl Pd.n c.ps t]? = some x ∧ x.n = t ∧ x.p = 0
 | 7 => ¬ 8000 < t.size ∧ RightI c ∧ ∃ x,c.ps[pl Pd.n c.ps t]? = some x ∧ x.n = t ∧ ¬ x.p = 0 ∧ ¬ Gone c x
 | _ => False
def EvictIs (c : Cl) (t : ByteArray) (o : Co) : Prop:=(∃ i,EvWhy c t i ∧ o = co0 (codeOf i)) ∨ (¬ 8000 < t.size ∧ RightI c ∧ ∃ x,c.ps[pl Pd.n c.ps t]? = some x ∧ x.n = t ∧ ¬ x.p = 0 ∧ Gone c x ∧ o = ⟨evC c t x,⟨#[]⟩,0⟩)
theorem EvWhy.cases {c : Cl} {t : ByteArray} {i : Nat} (h : EvWhy c t i) : (i = 0 ∧ 8000 < t.size) ∨ (i = 1 ∧ ¬ 8000 < t.size ∧ ¬ RightI c) ∨ (i = 2 ∧ ¬ 8000 < t.size ∧ RightI c ∧ hit Pd.n c.ps t = false) ∨ (i = 8 ∧ ¬ 8000 < t.size ∧ RightI c ∧ ∃ x,c.ps[pl Pd.n c.ps t]? = some x ∧ x.n = t ∧ x.p = 0) ∨ (i = 7 ∧ ¬ 8000 < t.size ∧ RightI c ∧ ∃ x,c.ps[pl Pd.n c.ps t]? = some x ∧ x.n = t ∧ ¬ x.p = 0 ∧ ¬ Gone c x):=by
 rcases i with _ | _ | _ | _ | _ | _ | _ | _ | _ | i <;> simp only [EvWhy] at h
 ·exact .inl ⟨rfl,h⟩
 ·exact .inr (.inl ⟨rfl,h⟩)
 ·exact .inr (.inr (.inl ⟨rfl,h⟩))
 ·exact .inr (.inr (.inr (.inr ⟨rfl,h⟩)))
 ·exact .inr (.inr (.inr (.inl ⟨rfl,h⟩)))
theorem ev_hit {c : Cl} {t : ByteArray} {x : Pd} (hr : RightI c) (h : c.ps[pl Pd.n c.ps t]? = some x) (hn : x.n = t) : hit Pd.n c.ps t = true:=(hit_at hr.2.1.2.2.2.2.2.2 h hn).2
theorem EvictIs.same {c : Cl} {t : ByteArray} {o o' : Co} (h : EvictIs c t o) (h' : EvictIs c t o') : o = o':=by
 rcases h with ⟨i,a,rfl⟩ | ⟨a1,a2,x,a3,a4,a5,a6,rfl⟩ <;> rcases h' with ⟨j,b,rfl⟩ | ⟨b1,b2,y,b3,b4,b5,b6,rfl⟩
 ·rcases a.cases with ⟨rfl,a1⟩ | ⟨rfl,a1,a2⟩ | ⟨rfl,a1,a2,a3⟩ | ⟨rfl,a1,a2,x,a3,a4,a5⟩ | ⟨rfl,a1,a2,x,a3,a4,a5,a6⟩ <;> rcases b.cases with ⟨rfl,b1⟩ | ⟨rfl,b1,b2⟩ | ⟨rfl,b1,b2,b3⟩ | ⟨rfl,b1,b2,y,b3,b4,b5⟩ | ⟨rfl,b1,b2,y,b3,b4,b5,b6⟩
  all_goals first
   | rfl
   | exact absurd a1 b1
   | exact absurd b1 a1
   | exact absurd a2 b2
   | exact absurd b2 a2
   | (rw [ev_hit a2 b3 b4] at a3;cases a3;done)
   | (rw [ev_hit a2 a3 a4] at b3;cases b3;done)
   | (rw [a3] at b3;obtain rfl:=Option.some.inj b3;exact absurd a5 b5)
   | (rw [a3] at b3;obtain rfl:=Option.some.inj b3;exact absurd b5 a5)
 ·rcases a.cases with ⟨rfl,a1⟩ | ⟨rfl,a1,a2⟩ | ⟨rfl,a1,a2,a3⟩ | ⟨rfl,a1,a2,x,a3,a4,a5⟩ | ⟨rfl,a1,a2,x,a3,a4,a5,a6⟩
  ·exact absurd a1 b1
  ·exact absurd b2 a2
  ·rw [ev_hit a2 b3 b4] at a3;cases a3
  ·rw [a3] at b3;obtain rfl:=Option.some.inj b3;exact absurd a5 b5
  ·rw [a3] at b3;obtain rfl:=Option.some.inj b3;exact absurd b6 a6
 ·rcases b.cases with ⟨rfl,b1⟩ | ⟨rfl,b1,b2⟩ | ⟨rfl,b1,b2,b3⟩ | ⟨rfl,b1,b2,y,b3,b4,b5⟩ | ⟨rfl,b1,b2,y,b3,b4,b5,b6⟩
  ·exact absurd b1 a1
  ·exact absurd a2 b2
  ·rw [ev_hit a2 a3 a4] at b3;cases b3
  ·rw [a3] at b3;obtain rfl:=Option.some.inj b3;exact absurd b5 a5
  ·rw [a3] at b3;obtain rfl:=Option.some.inj b3;exact absurd a6 b6
 ·rw [a3] at b3;obtain rfl:=Option.some.inj b3;rfl
theorem EvictIs.marks {c : Cl} {t : ByteArray} {o : Co} (h : EvictIs c t o) (hf : ClFit c) : mkCn 1 o.c.raw ≤ 1152921504606846976:=by
 rcases h with ⟨i,_,rfl⟩ | ⟨_,_,x,h3,_,_,_,rfl⟩
 ·exact co0_marks _
 ·refine ClFit.marks (c:=evC c t x) ⟨hf.l1,hf.f1,hf.l2,hf.l3,hf.f3,hf.l4,?_,fun j y hy => ?_⟩
  ·show (c.ps.set _ _).length ≤ _;rw [List.length_set];exact hf.l5
  ·have hy' : (c.ps.set (pl Pd.n c.ps t) (idle x))[j]? = some y:=hy;rw [get_set (List.getElem?_eq_some_iff.1 h3).1] at hy';split at hy'
   ·obtain rfl:=Option.some.inj hy';exact hf.f5 _ x h3
   ·exact hf.f5 j y hy'
theorem RightI.node {c : Cl} {x : Pd} {i : Nat} (h : RightI c) (hx : c.ps[i]? = some x) (hp : ¬ x.p = 0) : ∃ (j : Nat) (n : Nd),c.ns[j]? = some n ∧ n.n = x.d ∧ Inn n.u 0 1000000:=by
 have h1:=h.2.1.2.2.2.2.2.1 i x hx;have h2:=(h.2.2.2.1.1 i x hx).2;have hd : ¬ x.d = ⟨#[]⟩:=fun e => by
  have h3 : SuitsOk x.d x.p:=h1.2.2.2.2;rw [e] at h3;rcases h3 with ⟨h3,_⟩ | ⟨_,h3⟩
  ·exact hp h3
  ·have h5:=h3.1;revert h5;decide
 obtain ⟨j,n,h3,h4,_⟩:=h2.resolve_left hd;exact ⟨j,n,h3,h4,(h.2.1.1.2.1 j n h3).2.2.2.2.1⟩
theorem put_set {ps : List Pd} {t : ByteArray} {k : Nat} {x y : Pd} (hr : RisBy Pd.n ps) (hx : ps[k]? = some x) (hn : x.n = t) : inAt (pl Pd.n (wo Pd.n t ps) t) y (wo Pd.n t ps) = ps.set k y:=by
 have hk : k < ps.length:=(List.getElem?_eq_some_iff.1 hx).1;have hw:=wo_erase hr hx hn;have hpl : pl Pd.n (wo Pd.n t ps) t = k:=by
  rw [hw];have hlt : ∀ (j : Nat) z,j < k → (ps.take k ++ ps.drop (k + 1))[j]? = some z → Op.bytesLess z.n.toList t.toList = true:=fun j z hj hz => by
   have h1 : (ps.take k).length = k:=by rw [List.length_take];omega
   rw [List.getElem?_append_left qqd1,List.getElem?_take,if_pos hj] at hz;have:=hr.lt hj hz hx;rw [hn] at this;exact this
  by_cases he : k + 1 < ps.length
  ·have h1 : (ps.take k).length = k:=by rw [List.length_take];omega
   have h2 : (ps.take k ++ ps.drop (k + 1))[k]? = some ps[k + 1]:=by
    rw [List.getElem?_append_right qqd1,h1,Nat.sub_self,List.getElem?_drop];exact List.getElem?_eq_getElem he
   refine pl_at hlt h2 ?_;have h3:=hr.lt (Nat.lt_succ_self k) hx (List.getElem?_eq_getElem he);rw [hn] at h3;cases h9 : Op.bytesLess ps[k + 1].n.toList t.toList
   ·rfl
   ·have h8:=less_trans _ _ _ h3 h9;rw [less_irr] at h8;cases h8
  ·have h4 : ps.take k ++ ps.drop (k + 1) = ps.take k:=by rw [List.drop_eq_nil_of_le qqd1,List.append_nil]
   rw [h4];rw [h4] at hlt;have h1 : (ps.take k).length = k:=by rw [List.length_take];omega
   rw [pl_end (fun j z hz => hlt j z qqd4 hz),h1]
 rw [hpl,hw];unfold inAt;have h1 : (ps.take k).length = k:=by rw [List.length_take];omega
 rw [List.take_left' h1,List.drop_left' h1,List.set_eq_take_append_cons_drop,if_pos hk];simp

theorem ilease_any (d : Ad) (now : Int) (n z : ByteArray) (p s u : Int) (y : Bool) (va : Option Addr) (vl vc : Nat) (w : World)  :
  Calls Tryz.prog 50 #[.agg #[.slice d.a1 d.l1 d.c1,.slice d.a2 d.l2 d.c2,.slice d.a3 d.l3 d.c3,.slice d.a4 d.l4 d.c4,.slice d.a5 d.l5 d.c5,.int .i64 now],.agg #[.string n,.string z,.int .i64 p,.int .i64 s,.int .i64 u,.bool y,.slice va vl vc]] w fun e w' => e = .returned (.agg #[.int .i64 u,.int .i64 now]) ∧ Below w.heap.size w w':=by
 go_enter Tryz.func50,Tryz.ntmps50;go_wp2;exact bodyPost_ret (v:=.agg #[.int .i64 u,.int .i64 now]) (by simp [results,Tryz.results50,go_sem]) rfl ⟨rfl,below3 _ _ _ _⟩

theorem iout_any (u now : Int) (w : World) (h0 : 0 ≤ u) (h1 : u ≤ 1000000) :
  Calls Tryz.prog 51 #[.agg #[.int .i64 u,.int .i64 now]] w fun e w' => e = .returned (.bool (decide (u + 5 < now))) ∧ Below w.heap.size w w':=by
 go_enter Tryz.func51,Tryz.ntmps51;go_wp2;go_ret;exact ⟨rfl,below1 _ _⟩

theorem sgone_any (d : Ad) (now : Int) (n : Nd) (va : Option Addr) (vl vc : Nat) (w : World) (h0 : 0 ≤ n.u) (h1 : n.u ≤ 1000000) :
  Calls Tryz.prog 46 #[.agg #[.slice d.a1 d.l1 d.c1,.slice d.a2 d.l2 d.c2,.slice d.a3 d.l3 d.c3,.slice d.a4 d.l4 d.c4,.slice d.a5 d.l5 d.c5,.int .i64 now],.agg #[.string n.n,.string n.z,.int .i64 n.c,.int .i64 n.s,.int .i64 n.u,.bool n.d,.slice va vl vc]] w fun e w' => e = .returned (.bool (n.d && decide (n.u + 5 < now))) ∧ Below w.heap.size w w':=by
 cases hd : n.d;all_goals (
  go_enter Tryz.func46,Tryz.ntmps46
  go_wp2
  go_ret
  exact ⟨by simp,below2 _ _ _⟩)

theorem sgone_is (d : Ad) (now : Int) (n : Nd) (va : Option Addr) (vl vc : Nat) (w : World) (h0 : 0 ≤ n.u) (h1 : n.u ≤ 1000000) (g : Bool) (hg : (n.d && decide (n.u + 5 < now)) = g) :
  Calls Tryz.prog 46 #[.agg #[.slice d.a1 d.l1 d.c1,.slice d.a2 d.l2 d.c2,.slice d.a3 d.l3 d.c3,.slice d.a4 d.l4 d.c4,.slice d.a5 d.l5 d.c5,.int .i64 now],.agg #[.string n.n,.string n.z,.int .i64 n.c,.int .i64 n.s,.int .i64 n.u,.bool n.d,.slice va vl vc]] w fun e w' => e = .returned (.bool g) ∧ Below w.heap.size w w':=by
 rw [← hg];exact sgone_any d now n va vl vc w h0 h1

theorem iwithP_any (d : Ad) (c : Cl) (x : Pd) (va : Option Addr) (vl vc : Nat) (w : World) (hr : ClRow w d c.raw) (hs : Sm c) (hx : TxRow w va vl vc x.zs) (hvl : vl ≤ 8001) (z0 : x.n.size ≤ 9223372036854775807) (z2 : x.z.size ≤ 9223372036854775807) (z4 : x.d.size ≤ 9223372036854775807) :
  Calls Tryz.prog 52 #[.agg #[.slice d.a1 d.l1 d.c1,.slice d.a2 d.l2 d.c2,.slice d.a3 d.l3 d.c3,.slice d.a4 d.l4 d.c4,.slice d.a5 d.l5 d.c5,.int .i64 c.now],.agg #[.string x.n,.int .i64 x.c,.string x.z,.slice va vl vc,.string x.d,.int .i64 x.p]] w fun e w' => ∃ d',e = .returned (.agg #[.slice d'.a1 d'.l1 d'.c1,.slice d'.a2 d'.l2 d'.c2,.slice d'.a3 d'.l3 d'.c3,.slice d'.a4 d'.l4 d'.c4,.slice d'.a5 d'.l5 d'.c5,.int .i64 c.now]) ∧ ClOwn w' d' (putP c x).raw (fun k => w.heap.size ≤ k) ∧ Below w.heap.size w w':=by
 have HR:=hidK hr;have HS:=hidK hs;have HX:=hidK hx;have HB:=hidK (Below.refl w.heap.size w);clear hr hs hx;go_enter Tryz.func52,Tryz.ntmps52;go_wp2_with fail;refine (iownC_any d c _ (HR.out.below (HB.out.trans ((below3 _ _ _ _).mono HB.out.size))) HS.out).mono ?_;rintro e w1 ⟨d',rfl,ho,hb⟩;have HQ2:=hidK hb.size;simp only [size1] at HQ2 ho;obtain ⟨HA0,HA1,HA2,hbx⟩:=slots3 hb;have Bk:=hidK HA0;have Bp:=hidK HA1;have Br:=hidK HA2;replace HB:=upB HB hbx;clear hb hbx HA0 HA1 HA2;obtain ⟨P,hP⟩:=ho;have HP:=hidK hP;have hq2 : w.heap.size + 1 + 1 + 1 ≤ w1.heap.size:=HQ2.out;clear hP;obtain ⟨p0,p1,p2,p3,p4,p5⟩:=cs6 Bp.out;have ltp_1:=lt_of_some Bp.out;have h5:=(HP.out.p.into (S':=(fun k => (w.heap.size + 1 + 1 + 1 ≤ k ∧ P k = 5) ∧ k < w1.heap.size)) (fun k hk s => ⟨s,hk⟩)).below (below1 w1 (.cells #[.slice d'.a1 d'.l1 d'.c1,.slice d'.a2 d'.l2 d'.c2,.slice d'.a3 d'.l3 d'.c3,.slice d'.a4 d'.l4 d'.c4,.slice d'.a5 d'.l5 d'.c5,.int .i64 c.now] 36));have hlen : d'.l5 ≤ 8:=by have h6:=HP.out.p.1;have h7 : (c.ps.map pdF).length = d'.l5:=h6;rw [List.length_map] at h7;have:=HS.out.p;omega
 have hbo : Below w1.heap.size w1 (w1.alloc (.cells #[.slice d'.a1 d'.l1 d'.c1,.slice d'.a2 d'.l2 d'.c2,.slice d'.a3 d'.l3 d'.c3,.slice d'.a4 d'.l4 d'.c4,.slice d'.a5 d'.l5 d'.c5,.int .i64 c.now] 36)):=below1 w1 (.cells #[.slice d'.a1 d'.l1 d'.c1,.slice d'.a2 d'.l2 d'.c2,.slice d'.a3 d'.l3 d'.c3,.slice d'.a4 d'.l4 d'.c4,.slice d'.a5 d'.l5 d'.c5,.int .i64 c.now] 36);have hpk:=lt_of_some Bp.out;have hc1 : Calls Tryz.prog 34 #[.slice d'.a5 d'.l5 d'.c5,.string x.n] (w1.alloc (.cells #[.slice d'.a1 d'.l1 d'.c1,.slice d'.a2 d'.l2 d'.c2,.slice d'.a3 d'.l3 d'.c3,.slice d'.a4 d'.l4 d'.c4,.slice d'.a5 d'.l5 d'.c5,.int .i64 c.now] 36)).drew fun e W => ∃ a2 l2 c2,e = .returned (.slice a2 l2 c2) ∧ Hid (ROwn W a2 l2 c2 6 69 ((wo Pd.n x.n c.ps).map pdF) (fun k => (fun k => (w.heap.size + 1 + 1 + 1 ≤ k ∧ P k = 5) ∧ k < w1.heap.size) k ∨ w1.heap.size + 1 ≤ k)) ∧ Hid (Below (w1.alloc (.cells #[.slice d'.a1 d'.l1 d'.c1,.slice d'.a2 d'.l2 d'.c2,.slice d'.a3 d'.l3 d'.c3,.slice d'.a4 d'.l4 d'.c4,.slice d'.a5 d'.l5 d'.c5,.int .i64 c.now] 36)).heap.size (w1.alloc (.cells #[.slice d'.a1 d'.l1 d'.c1,.slice d'.a2 d'.l2 d'.c2,.slice d'.a3 d'.l3 d'.c3,.slice d'.a4 d'.l4 d'.c4,.slice d'.a5 d'.l5 d'.c5,.int .i64 c.now] 36)) W) ∧ Hid (W.heap[w.heap.size + 1]? = some (.cells #[.string x.n,.int .i64 x.c,.string x.z,.slice va vl vc,.string x.d,.int .i64 x.p] 69 (0,0))) ∧ Hid (W.heap[w1.heap.size]? = some (.cells #[.slice d'.a1 d'.l1 d'.c1,.slice d'.a2 d'.l2 d'.c2,.slice d'.a3 d'.l3 d'.c3,.slice d'.a4 d'.l4 d'.c4,.slice d'.a5 d'.l5 d'.c5,.int .i64 c.now] 36 (0,0))) ∧ Hid (W.heap[w.heap.size + 1 + 1]? = some (.cells #[.slice none 0 0,.slice none 0 0,.slice none 0 0,.slice none 0 0,.slice none 0 0,.int .i64 0] 36 (0,0))):=by
  refine (iwopd_any d'.a5 d'.l5 d'.c5 c.ps x.n (fun k => (w.heap.size + 1 + 1 + 1 ≤ k ∧ P k = 5) ∧ k < w1.heap.size) (w1.alloc (.cells #[.slice d'.a1 d'.l1 d'.c1,.slice d'.a2 d'.l2 d'.c2,.slice d'.a3 d'.l3 d'.c3,.slice d'.a4 d'.l4 d'.c4,.slice d'.a5 d'.l5 d'.c5,.int .i64 c.now] 36)).drew (h5.keep (fun _ _ _ => rfl) (fun _ _ s => s)) hlen).mono ?_;rintro e W ⟨a2,l2,c2,rfl,hN,hb⟩;have hb' : Below (w1.alloc (.cells #[.slice d'.a1 d'.l1 d'.c1,.slice d'.a2 d'.l2 d'.c2,.slice d'.a3 d'.l3 d'.c3,.slice d'.a4 d'.l4 d'.c4,.slice d'.a5 d'.l5 d'.c5,.int .i64 c.now] 36)).heap.size (w1.alloc (.cells #[.slice d'.a1 d'.l1 d'.c1,.slice d'.a2 d'.l2 d'.c2,.slice d'.a3 d'.l3 d'.c3,.slice d'.a4 d'.l4 d'.c4,.slice d'.a5 d'.l5 d'.c5,.int .i64 c.now] 36)) W:=⟨hb.os,hb.tape,hb.output,hb.size,hb.block⟩;have hN':=hN.into (S':=fun k => (fun k => (w.heap.size + 1 + 1 + 1 ≤ k ∧ P k = 5) ∧ k < w1.heap.size) k ∨ w1.heap.size + 1 ≤ k) (fun k _ s => s.imp id (fun q => by have q1 : (w1.alloc (.cells #[.slice d'.a1 d'.l1 d'.c1,.slice d'.a2 d'.l2 d'.c2,.slice d'.a3 d'.l3 d'.c3,.slice d'.a4 d'.l4 d'.c4,.slice d'.a5 d'.l5 d'.c5,.int .i64 c.now] 36)).drew.heap.size ≤ k:=q;simpa using q1));exact ⟨a2,l2,c2,rfl,hN',hb',(hb'.block _ qqd7).trans ((hbo.block _ hpk).trans Bp.out),(hb'.block _ qqd6).trans (heap_alloc_new w1 (.cells #[.slice d'.a1 d'.l1 d'.c1,.slice d'.a2 d'.l2 d'.c2,.slice d'.a3 d'.l3 d'.c3,.slice d'.a4 d'.l4 d'.c4,.slice d'.a5 d'.l5 d'.c5,.int .i64 c.now] 36)),(hb'.block _ qqd7).trans ((hbo.block _ qqd1).trans Br.out)⟩
 have hc2 : ∀ W,Below (w1.alloc (.cells #[.slice d'.a1 d'.l1 d'.c1,.slice d'.a2 d'.l2 d'.c2,.slice d'.a3 d'.l3 d'.c3,.slice d'.a4 d'.l4 d'.c4,.slice d'.a5 d'.l5 d'.c5,.int .i64 c.now] 36)).heap.size (w1.alloc (.cells #[.slice d'.a1 d'.l1 d'.c1,.slice d'.a2 d'.l2 d'.c2,.slice d'.a3 d'.l3 d'.c3,.slice d'.a4 d'.l4 d'.c4,.slice d'.a5 d'.l5 d'.c5,.int .i64 c.now] 36)) W → Hid (W.heap[w.heap.size + 1]? = some (.cells #[.string x.n,.int .i64 x.c,.string x.z,.slice va vl vc,.string x.d,.int .i64 x.p] 69 (0,0))) ∧ Hid (W.heap[w1.heap.size]? = some (.cells #[.slice d'.a1 d'.l1 d'.c1,.slice d'.a2 d'.l2 d'.c2,.slice d'.a3 d'.l3 d'.c3,.slice d'.a4 d'.l4 d'.c4,.slice d'.a5 d'.l5 d'.c5,.int .i64 c.now] 36 (0,0))) ∧ Hid (W.heap[w.heap.size + 1 + 1]? = some (.cells #[.slice none 0 0,.slice none 0 0,.slice none 0 0,.slice none 0 0,.slice none 0 0,.int .i64 0] 36 (0,0))) → Calls Tryz.prog 74 #[.agg #[.string x.n,.int .i64 x.c,.string x.z,.slice va vl vc,.string x.d,.int .i64 x.p]] W fun e W3 => ∃ a3 l3 c3,e = .returned (.agg #[.string x.n,.int .i64 x.c,.string x.z,.slice a3 l3 c3,.string x.d,.int .i64 x.p]) ∧ Hid (TOwn W3 a3 l3 c3 x.zs (fun k => W.heap.size ≤ k)) ∧ Hid (Below W.heap.size W W3) ∧ Hid (W3.heap[w.heap.size + 1]? = some (.cells #[.string x.n,.int .i64 x.c,.string x.z,.slice va vl vc,.string x.d,.int .i64 x.p] 69 (0,0))) ∧ Hid (W3.heap[w1.heap.size]? = some (.cells #[.slice d'.a1 d'.l1 d'.c1,.slice d'.a2 d'.l2 d'.c2,.slice d'.a3 d'.l3 d'.c3,.slice d'.a4 d'.l4 d'.c4,.slice d'.a5 d'.l5 d'.c5,.int .i64 c.now] 36 (0,0))) ∧ Hid (W3.heap[w.heap.size + 1 + 1]? = some (.cells #[.slice none 0 0,.slice none 0 0,.slice none 0 0,.slice none 0 0,.slice none 0 0,.int .i64 0] 36 (0,0))):=fun W hb hkp => by
  refine (iownpd_any x va vl vc W (HX.out.below (HB.out.trans ((hbo.trans (hb.mono qqd6)).mono HB.out.size))) hvl).mono ?_;rintro e W3 ⟨a3,l3,c3,rfl,hO,hb3⟩;exact ⟨a3,l3,c3,rfl,hO,hb3,(hb3.block _ (lt_of_some hkp.1.out)).trans hkp.1.out,(hb3.block _ (lt_of_some hkp.2.1.out)).trans hkp.2.1.out,(hb3.block _ (lt_of_some hkp.2.2.out)).trans hkp.2.2.out⟩
 have hc3 : ∀ (W W3 : World) a2 l2 c2 a3 l3 c3,Below (w1.alloc (.cells #[.slice d'.a1 d'.l1 d'.c1,.slice d'.a2 d'.l2 d'.c2,.slice d'.a3 d'.l3 d'.c3,.slice d'.a4 d'.l4 d'.c4,.slice d'.a5 d'.l5 d'.c5,.int .i64 c.now] 36)).heap.size (w1.alloc (.cells #[.slice d'.a1 d'.l1 d'.c1,.slice d'.a2 d'.l2 d'.c2,.slice d'.a3 d'.l3 d'.c3,.slice d'.a4 d'.l4 d'.c4,.slice d'.a5 d'.l5 d'.c5,.int .i64 c.now] 36)) W → ROwn W a2 l2 c2 6 69 ((wo Pd.n x.n c.ps).map pdF) (fun k => (fun k => (w.heap.size + 1 + 1 + 1 ≤ k ∧ P k = 5) ∧ k < w1.heap.size) k ∨ w1.heap.size + 1 ≤ k) → Below W.heap.size W W3 → TOwn W3 a3 l3 c3 x.zs (fun k => W.heap.size ≤ k) → Hid (W3.heap[w.heap.size + 1]? = some (.cells #[.string x.n,.int .i64 x.c,.string x.z,.slice va vl vc,.string x.d,.int .i64 x.p] 69 (0,0))) ∧ Hid (W3.heap[w1.heap.size]? = some (.cells #[.slice d'.a1 d'.l1 d'.c1,.slice d'.a2 d'.l2 d'.c2,.slice d'.a3 d'.l3 d'.c3,.slice d'.a4 d'.l4 d'.c4,.slice d'.a5 d'.l5 d'.c5,.int .i64 c.now] 36 (0,0))) ∧ Hid (W3.heap[w.heap.size + 1 + 1]? = some (.cells #[.slice none 0 0,.slice none 0 0,.slice none 0 0,.slice none 0 0,.slice none 0 0,.int .i64 0] 36 (0,0))) → Calls Tryz.prog 88 #[.slice a2 l2 c2,.agg #[.string x.n,.int .i64 x.c,.string x.z,.slice a3 l3 c3,.string x.d,.int .i64 x.p]] W3 fun e W4 => ∃ a4 l4 c4,e = .returned (.slice a4 l4 c4) ∧ Hid (ROwn W4 a4 l4 c4 6 69 ((putP c x).ps.map pdF) (fun k => (fun k => (w.heap.size + 1 + 1 + 1 ≤ k ∧ P k = 5) ∧ k < w1.heap.size) k ∨ w1.heap.size + 1 ≤ k)) ∧ Hid (Below w1.heap.size w1 W4) ∧ Hid (W4.heap[w.heap.size + 1]? = some (.cells #[.string x.n,.int .i64 x.c,.string x.z,.slice va vl vc,.string x.d,.int .i64 x.p] 69 (0,0))) ∧ Hid (W4.heap[w1.heap.size]? = some (.cells #[.slice d'.a1 d'.l1 d'.c1,.slice d'.a2 d'.l2 d'.c2,.slice d'.a3 d'.l3 d'.c3,.slice d'.a4 d'.l4 d'.c4,.slice d'.a5 d'.l5 d'.c5,.int .i64 c.now] 36 (0,0))) ∧ Hid (W4.heap[w.heap.size + 1 + 1]? = some (.cells #[.slice none 0 0,.slice none 0 0,.slice none 0 0,.slice none 0 0,.slice none 0 0,.int .i64 0] 36 (0,0))):=fun W W3 a2 l2 c2 a3 l3 c3 hb hO2 hb3 hO3 hkp => by
  obtain ⟨g,hg⟩:=hO3.fr;have hr2:=(hO2.into (S':=fun k => ((fun k => (w.heap.size + 1 + 1 + 1 ≤ k ∧ P k = 5) ∧ k < w1.heap.size) k ∨ w1.heap.size + 1 ≤ k) ∧ k < W.heap.size) (fun k hk s => ⟨s,hk⟩)).below hb3;have hl2 : l2 ≤ 8:=by have h6:=hO2.1;rw [List.length_map] at h6;have h7:=wo_le Pd.n x.n c.ps;have:=HS.out.p;omega
  have hs1:=hb.size;simp only [size1] at hs1;refine (withpd_any a2 l2 c2 (wo Pd.n x.n c.ps) x a3 l3 c3 g _ (fun k => W.heap.size ≤ k) W3 hr2 hl2 (fun i f hf => by rcases i with _ | _ | _ | _ | _ | _ | i <;> simp [pdF] at hf <;> subst hf;exact ⟨_,rfl,rfl,z0⟩;exact ⟨_,rfl,rfl⟩;exact ⟨_,rfl,rfl,z2⟩;exact ⟨_,rfl,hg⟩;exact ⟨_,rfl,rfl,z4⟩;exact ⟨_,rfl,rfl⟩) (fun k q1 q2 => by have q3:=q1.2;have q4 : W.heap.size ≤ k:=q2;omega)).mono ?_;rintro e W4 ⟨a4,l4,c4,rfl,hN,hb4⟩;have hs3:=hb3.size;have hb14 : Below w1.heap.size w1 W4:=(hbo.trans (hb.mono qqd6)).trans ((hb3.mono qqd1).trans (hb4.mono qqd1));have hN':=hN.into (S':=fun k => (fun k => (w.heap.size + 1 + 1 + 1 ≤ k ∧ P k = 5) ∧ k < w1.heap.size) k ∨ w1.heap.size + 1 ≤ k) (fun k _ s => by
   rcases s with (s | s) | s
   ·exact s.1
   ·have s1 : W.heap.size ≤ k:=s;exact .inr qqd1
   ·have s1 : W3.heap.size ≤ k:=s;exact .inr qqd1)
  exact ⟨a4,l4,c4,rfl,hN',hb14,(hb4.block _ (lt_of_some hkp.1.out)).trans hkp.1.out,(hb4.block _ (lt_of_some hkp.2.1.out)).trans hkp.2.1.out,(hb4.block _ (lt_of_some hkp.2.2.out)).trans hkp.2.2.out⟩
 have C1:=hidK hc1;have C2:=hidK hc2;have C3:=hidK hc3;clear hc1 hc2 hc3 h5 HX;have mixed : Tryz.prog.follows .mixedOrders = true:=qqd2
 go_wp2;go_region_with (first
  | (go_at_call 34;refine C1.out.mono ?_;rintro e w2 ⟨a2,l2,c2,rfl,HO2,HB2,HKP2⟩;obtain ⟨p0,p1,p2,p3,p4,p5⟩:=cs6 HKP2.1.out)
  | (go_at_call 74;refine (C2.out w2 HB2.out HKP2).mono ?_;rintro e w3 ⟨a3,l3,c3,rfl,HO3,HB3,HKP3⟩)
  | (go_at_call 88;refine (C3.out w2 w3 a2 l2 c2 a3 l3 c3 HB2.out HO2.out HB3.out HO3.out HKP3).mono ?_;rintro e w4 ⟨a4,l4,c4,rfl,HO4,HB4,HKP4⟩;obtain ⟨o0,o1,o2,o3,o4,o5⟩:=cs6 HKP4.2.1.out;have hol:=lt_of_some HKP4.2.1.out;have fo4:=froK HKP4.2.1.out 4))
 all_goals (
  obtain ⟨r0,r1,r2,r3,r4,r5⟩:=cs6 HKP4.2.2.out;have fr0:=froK HKP4.2.2.out 0;have fr1:=froK HKP4.2.2.out 1;have fr2:=froK HKP4.2.2.out 2;have fr3:=froK HKP4.2.2.out 3;have fr4:=froK HKP4.2.2.out 4;have fr5:=froK HKP4.2.2.out 5;have hrl:=lt_of_some HKP4.2.2.out
  have hne : ¬ w.heap.size + 1 + 1 = w1.heap.size:=qqd1
  have hne2 : ¬ w1.heap.size = w.heap.size + 1 + 1:=qqd1
  go_wp2
  refine bodyPost_ret (v:=.agg #[.slice d'.a1 d'.l1 d'.c1,.slice d'.a2 d'.l2 d'.c2,.slice d'.a3 d'.l3 d'.c3,.slice d'.a4 d'.l4 d'.c4,.slice a4 l4 c4,.int .i64 c.now]) (by simp [results,Tryz.results52,go_sem, *]) rfl ⟨⟨d'.a1,d'.l1,d'.c1,d'.a2,d'.l2,d'.c2,d'.a3,d'.l3,d'.c3,d'.a4,d'.l4,d'.c4,a4,l4,c4⟩,rfl,?_,set_below (show w.heap.size ≤ w.heap.size + 1 + 1 by omega) (set_below (show w.heap.size ≤ w.heap.size + 1 + 1 by omega) (set_below (show w.heap.size ≤ w.heap.size + 1 + 1 by omega) (set_below (show w.heap.size ≤ w.heap.size + 1 + 1 by omega) (set_below (show w.heap.size ≤ w.heap.size + 1 + 1 by omega) (set_below (show w.heap.size ≤ w.heap.size + 1 + 1 by omega) (set_below (show w.heap.size ≤ w1.heap.size by omega) (HB.out.trans (HB4.out.mono HB.out.size))))))))⟩;have h9:=HP.out.put5 hq2 HO4.out HB4.out (w4:=(((((((w4.setCell ⟨w1.heap.size,4,none⟩ (.slice a4 l4 c4)).setCell ⟨w.heap.size + 1 + 1,0,none⟩ (.slice d'.a1 d'.l1 d'.c1)).setCell ⟨w.heap.size + 1 + 1,1,none⟩ (.slice d'.a2 d'.l2 d'.c2)).setCell ⟨w.heap.size + 1 + 1,2,none⟩ (.slice d'.a3 d'.l3 d'.c3)).setCell ⟨w.heap.size + 1 + 1,3,none⟩ (.slice d'.a4 d'.l4 d'.c4)).setCell ⟨w.heap.size + 1 + 1,4,none⟩ (.slice a4 l4 c4)).setCell ⟨w.heap.size + 1 + 1,5,none⟩ (.int .i64 c.now))) (fun k h1 h2 => by rw [Below.heap_setCell _ _ _ _ (show k ≠ w.heap.size + 1 + 1 by omega),Below.heap_setCell _ _ _ _ (show k ≠ w.heap.size + 1 + 1 by omega),Below.heap_setCell _ _ _ _ (show k ≠ w.heap.size + 1 + 1 by omega),Below.heap_setCell _ _ _ _ (show k ≠ w.heap.size + 1 + 1 by omega),Below.heap_setCell _ _ _ _ (show k ≠ w.heap.size + 1 + 1 by omega),Below.heap_setCell _ _ _ _ (show k ≠ w.heap.size + 1 + 1 by omega),Below.heap_setCell _ _ _ _ (show k ≠ w1.heap.size by omega)])
  exact h9.into (fun k _ s => by have s1 : w.heap.size + 1 + 1 + 1 ≤ k:=s;show w.heap.size ≤ k;omega))

theorem AskPWhy.ev {c : Cl} {t : ByteArray} {i : Nat} (h : AskPWhy c t i) : EvWhy c t i:=by
 rcases i with _ | _ | _ | i <;> first | exact h | exact h.elim
theorem evC_put {c : Cl} {t : ByteArray} {x : Pd} (hr : RightI c) (hx : c.ps[pl Pd.n c.ps t]? = some x) (hn : x.n = t) : putP c (idle x) = evC c t x:=by
 unfold putP evC;have h:=put_set (y:=idle x) hr.2.1.2.2.2.2.2.2 hx hn;rw [← hn] at h ⊢;rw [show (idle x).n = x.n from rfl,h]

theorem ievict_any (d : Ad) (c : Cl) (t : ByteArray) (E : Nat → Addr) (w : World) (hr : ClRow w d c.raw) (hG : Ers w E) :
  Calls Tryz.prog 15 #[.agg #[.slice d.a1 d.l1 d.c1,.slice d.a2 d.l2 d.c2,.slice d.a3 d.l3 d.c3,.slice d.a4 d.l4 d.c4,.slice d.a5 d.l5 d.c5,.int .i64 c.now],.string t] w (OutI (EvictIs c t) w):=by
 obtain ⟨HR,HE,HB⟩:=qqb74;clear hr hG;go_enter Tryz.func15,Tryz.ntmps15;go_wp2_with fail;refine (iaskP_any d c t E _ (HR.out.below (HB.out.trans ((below2 _ _ _).mono HB.out.size))) (HE.out.below (HB.out.trans ((below2 _ _ _).mono HB.out.size)))).mono ?_;rintro e w1 ⟨hb,hf⟩;have HBW:=hidK hb;obtain ⟨HA0,HA1,hbx⟩:=slots2 hb;have Bk:=hidK HA0;have Br:=hidK HA1;replace HB:=upB HB hbx;clear hb hbx HA0 HA1;rcases hf with ⟨i,hi8,hwhy,rfl⟩ | ⟨hl,hT,x,va,vl,vc,hx,hn,rfl,hvr⟩
 ·obtain ⟨k0,k1,k2,k3,k4,k5⟩:=cs6 Bk.out;have ltk_1:=lt_of_some Bk.out;have HV : Hid (EvictIs c t (co0 (codeOf i))):=.inl ⟨i,hwhy.ev,rfl⟩;obtain ⟨cc,hcc⟩ : ∃ cc,cc = codeOf i:=⟨_,rfl⟩;rw [← hcc] at HV;go_wp2_with fail;refine (refused_any E i cc hcc _ (HE.out.below (HB.out.trans ((below1 _ _).mono HB.out.size))) qqd24).mono ?_;rintro e w2 ⟨rfl,hb⟩;clear k0 k1 k2 k3 k4 k5 ltk_1;obtain ⟨HA0,hbx⟩:=slots1 hb;replace Bk:=upK Bk hbx;replace Br:=upK Br hbx;have Bp:=hidK HA0;exact qqa121
 have HQ1 : Hid (w.heap.size + 1 < w1.heap.size):=lt_of_some Br.out;have HT:=hidK hT;have HX:=hidK (And.intro hx hn);have HVR:=hidK (hvr.below HBW.out);have HY:=hidK (Bw.refl w1);clear hT hx hn hvr HBW;by_cases hp : x.p = 0
 ·have hpb : (x.p == 0) = true:=by simpa using hp
  obtain ⟨k0,k1,k2,k3,k4,k5⟩:=cs6 Bk.out;have ltk_1:=lt_of_some Bk.out;have HV : Hid (EvictIs c t (co0 (codeOf 8))):=.inl ⟨8,⟨hl,HT.out,x,HX.out.1,HX.out.2,hp⟩,rfl⟩;obtain ⟨cc,hcc⟩ : ∃ cc,cc = codeOf 8:=⟨_,rfl⟩;rw [← hcc] at HV;have ev:=(HE.out.below HB.out).v8;have evl:=cell_lt ev;go_wp2_with fail;refine (refused_any E 8 cc hcc _ (HE.out.below (HB.out.trans ((below1 _ _).mono HB.out.size))) qqd24).mono ?_;rintro e w2 ⟨rfl,hb⟩;clear k0 k1 k2 k3 k4 k5 ltk_1;obtain ⟨HA0,hbx⟩:=slots1 hb;replace Bk:=upK Bk hbx;replace Br:=upK Br hbx;have Bp:=hidK HA0;replace HY:=hidK (HY.out.below hbx);exact qqa121
 have hpb : (x.p == 0) = false:=by simpa using hp
 obtain ⟨k0,k1,k2,k3,k4,k5⟩:=cs6 Bk.out;have ltk_1:=lt_of_some Bk.out;go_wp2_with fail;refine (thend_any d c.now c.ns x.d w _ HR.out.n (HB.out.trans ((below1 _ _).mono HB.out.size))).mono ?_;rintro e w2 ⟨hb,hf⟩;clear k0 k1 k2 k3 k4 k5 ltk_1;obtain ⟨HA0,hbx⟩:=slots1 hb;replace Bk:=upK Bk hbx;replace Br:=upK Br hbx;have Bp:=hidK HA0;replace HY:=hidK (HY.out.below hbx);replace HB:=upB HB hbx;clear hb hbx HA0;rcases hf with ⟨hh,n,ua,ul,uc,hnx,hnn,rfl,zz0,zz1,hur⟩ | ⟨hh,rfl⟩;rotate_left
 ·obtain ⟨j,n,h1,h2,_⟩:=HT.out.node HX.out.1 hp;have h3:=(hit_at HT.out.2.1.1.2.2 h1 h2).2;rw [hh] at h3;cases h3
 have HN:=hidK (And.intro hnx hnn);obtain ⟨hu0,hu1⟩:=(HT.out.2.1.1.2.1 _ n hnx).2.2.2.2.1;clear hh hnx hnn zz0 zz1 hur;cases hd : n.d
 ·obtain ⟨k0,k1,k2,k3,k4,k5⟩:=cs6 Bk.out;have ltk_2:=lt_of_some Bk.out;obtain ⟨p0,p1,p2,p3,p4,p5⟩:=cs6 Bp.out;have ltp_2:=lt_of_some Bp.out;have HV : Hid (EvictIs c t (co0 (codeOf 7))):=.inl ⟨7,⟨hl,HT.out,x,HX.out.1,HX.out.2,hp,fun h => (by obtain ⟨m,h1,_,h3,h4⟩:=h;rw [HN.out.1] at h1;obtain rfl:=Option.some.inj h1;rw [hd] at h3;cases h3)⟩,rfl⟩;obtain ⟨cc,hcc⟩ : ∃ cc,cc = codeOf 7:=⟨_,rfl⟩;rw [← hcc] at HV;have ev:=(HE.out.below HB.out).v7;have evl:=cell_lt ev;go_wp2_with fail;refine (refused_any E 7 cc hcc _ (HE.out.below (HB.out.trans ((below1 _ _).mono HB.out.size))) qqd24).mono ?_;rintro e w3 ⟨rfl,hb⟩;clear k0 k1 k2 k3 k4 k5 ltk_2 p0 p1 p2 p3 p4 p5 ltp_2;obtain ⟨HA0,hbx⟩:=slots1 hb;replace Bk:=upK Bk hbx;replace Br:=upK Br hbx;replace Bp:=upK Bp hbx;have Bn:=hidK HA0;replace HY:=hidK (HY.out.below hbx);replace HB:=upB HB hbx;clear hb hbx HA0;clear hcc;obtain ⟨r0,r1,r2,r3,r4,r5,r6,r7⟩:=cs8 Br.out;have ltr_3:=lt_of_some Br.out;obtain ⟨fr0,fr1,fr2,fr3,fr4,fr5⟩:=qqb8;obtain ⟨fr6,fr7,hrl⟩:=qqb62;exact qqa7
 obtain ⟨k0,k1,k2,k3,k4,k5⟩:=cs6 Bk.out;have ltk_2:=lt_of_some Bk.out;obtain ⟨p0,p1,p2,p3,p4,p5⟩:=cs6 Bp.out;have ltp_2:=lt_of_some Bp.out;go_wp2_with fail;refine (ilease_any d c.now n.n n.z n.c n.s n.u true ua ul uc _).mono ?_;rintro e w3 ⟨rfl,hb⟩;clear k0 k1 k2 k3 k4 k5 ltk_2 p0 p1 p2 p3 p4 p5 ltp_2;obtain ⟨HA0,hbx⟩:=slots1 hb;replace Bk:=upK Bk hbx;replace Br:=upK Br hbx;replace Bp:=upK Bp hbx;have Bn:=hidK HA0;replace HY:=hidK (HY.out.below hbx);replace HB:=upB HB hbx;clear hb hbx HA0;go_wp2_with fail;refine (iout_any n.u c.now _ hu0 hu1).mono ?_;rintro e w4 ⟨rfl,hb⟩;replace Bk:=upK Bk hb;replace Br:=upK Br hb;replace Bp:=upK Bp hb;replace Bn:=upK Bn hb;replace HY:=hidK (HY.out.below hb);replace HB:=upB HB hb;clear hb;by_cases hg : n.u + 5 < c.now;rotate_left
 ·have hgb : decide (n.u + 5 < c.now) = false:=by simpa using hg
  obtain ⟨k0,k1,k2,k3,k4,k5⟩:=cs6 Bk.out;have ltk_4:=lt_of_some Bk.out;obtain ⟨p0,p1,p2,p3,p4,p5⟩:=cs6 Bp.out;have ltp_4:=lt_of_some Bp.out;have HV : Hid (EvictIs c t (co0 (codeOf 7))):=.inl ⟨7,⟨hl,HT.out,x,HX.out.1,HX.out.2,hp,fun h => (by obtain ⟨m,h1,_,h3,h4⟩:=h;rw [HN.out.1] at h1;obtain rfl:=Option.some.inj h1;exact hg h4)⟩,rfl⟩;obtain ⟨cc,hcc⟩ : ∃ cc,cc = codeOf 7:=⟨_,rfl⟩;rw [← hcc] at HV;have ev:=(HE.out.below HB.out).v7;have evl:=cell_lt ev;go_wp2_with fail;refine (refused_any E 7 cc hcc _ (HE.out.below HB.out) qqd24).mono ?_;rintro e w5 ⟨rfl,hb⟩;clear k0 k1 k2 k3 k4 k5 ltk_4 p0 p1 p2 p3 p4 p5 ltp_4;replace Bk:=upK Bk hb;replace Br:=upK Br hb;replace Bp:=upK Bp hb;replace Bn:=upK Bn hb;replace HY:=hidK (HY.out.below hb);replace HB:=upB HB hb;clear hb;clear hcc;obtain ⟨r0,r1,r2,r3,r4,r5,r6,r7⟩:=cs8 Br.out;have ltr_5:=lt_of_some Br.out;obtain ⟨fr0,fr1,fr2,fr3,fr4,fr5⟩:=qqb8;have fr6:=froK Br.out 6;have fr7:=froK Br.out 7;have hrl : w.heap.size + 1 < w5.heap.size:=lt_of_some Br.out;exact qqa7
 have hgb : decide (n.u + 5 < c.now) = true:=by simpa using hg
 have HV : Hid (EvictIs c t ⟨evC c t x,⟨#[]⟩,0⟩):=.inr ⟨hl,HT.out,x,HX.out.1,HX.out.2,hp,⟨n,HN.out.1,HN.out.2,hd,hg⟩,rfl⟩;obtain ⟨k0,k1,k2,k3,k4,k5⟩:=cs6 Bk.out;have ltk_4:=lt_of_some Bk.out;obtain ⟨p0,p1,p2,p3,p4,p5⟩:=cs6 Bp.out;have ltp_4:=lt_of_some Bp.out;have fp0:=froK Bp.out 0;have fp1:=froK Bp.out 1;have fp2:=froK Bp.out 2;have fp3:=froK Bp.out 3;have fp4:=froK Bp.out 4;have fp5:=froK Bp.out 5;have hq1:=HQ1.out;have hne : ¬ w.heap.size = w1.heap.size:=qqd1
 have hne2 : ¬ w1.heap.size = w.heap.size:=qqd1
 have hne3 : ¬ w1.heap.size = w.heap.size + 1:=qqd1
 have hne4 : ¬ w.heap.size + 1 = w1.heap.size:=qqd1
 go_wp2_with fail;have hpo:=HT.out.2.1.2.2.2.2.2.1 _ x HX.out.1;have z0 : (idle x).n.size ≤ 9223372036854775807:=by have h1:=hpo.1.2.1;show x.n.size ≤ _;omega
 have z2 : (idle x).z.size ≤ 9223372036854775807:=by
  show x.z.size ≤ _;rcases hpo.2.2.1 with h1 | h1
  ·rw [h1];decide
  ·have h2:=h1.2.1;omega
 have hvl : vl ≤ 8001:=by have h1:=HVR.out.1;have h2:=hpo.2.2.2.1.1;omega
 have hbs : Below w.heap.size w ((w4.setCell ⟨w1.heap.size,4,none⟩ (.string ⟨#[]⟩)).setCell ⟨w1.heap.size,5,none⟩ (.int .i64 0)):=set_below qqd1 (set_below qqd1 HB.out);have hby : Below w1.heap.size w1 ((w4.setCell ⟨w1.heap.size,4,none⟩ (.string ⟨#[]⟩)).setCell ⟨w1.heap.size,5,none⟩ (.int .i64 0)):=set_below (Nat.le_refl _) (set_below (Nat.le_refl _) HY.out.out);refine (iwithP_any d c (idle x) va vl vc _ (HR.out.below hbs) HT.out.sm (HVR.out.below hby) hvl z0 z2 (by show (0 : Nat) ≤ _;omega)).mono ?_;rintro e w5 ⟨d',rfl,ho,hb⟩;rw [evC_put HT.out HX.out.1 HX.out.2] at ho;have HO:=hidK ho;have hs5:=hb.size;have hs45 : ((w4.setCell ⟨w1.heap.size,4,none⟩ (.string ⟨#[]⟩)).setCell ⟨w1.heap.size,5,none⟩ (.int .i64 0)).heap.size = w4.heap.size:=qqd6
 have hw4 : w1.heap.size < w4.heap.size:=lt_of_some Bp.out;have Br5:=hidK ((hb.block (w.heap.size + 1) (by rw [hs45];omega)).trans ((Below.heap_setCell _ _ _ _ hne4).trans ((Below.heap_setCell _ _ _ _ hne4).trans Br.out)));have HB5:=hidK (hbs.trans (hb.mono hbs.size));clear hb ho hby hbs;clear k0 k1 k2 k3 k4 k5 ltk_4 p0 p1 p2 p3 p4 p5 ltp_4;obtain ⟨r0,r1,r2,r3,r4,r5,r6,r7⟩:=cs8 Br5.out;have fr0:=froK Br5.out 0;have fr1:=froK Br5.out 1;have fr2:=froK Br5.out 2;have fr3:=froK Br5.out 3;have fr4:=froK Br5.out 4;have fr5:=froK Br5.out 5;have fr6:=froK Br5.out 6;have fr7:=froK Br5.out 7;have hrl:=lt_of_some Br5.out;go_wp2;refine bodyPost_ret (v:=.agg #[.slice d'.a1 d'.l1 d'.c1,.slice d'.a2 d'.l2 d'.c2,.slice d'.a3 d'.l3 d'.c3,.slice d'.a4 d'.l4 d'.c4,.slice d'.a5 d'.l5 d'.c5,.int .i64 c.now,.string ⟨#[]⟩,.int .i64 0]) (by simp [results,Tryz.results15,go_sem, *]) rfl ⟨d',⟨evC c t x,⟨#[]⟩,0⟩,rfl,HV.out,?_,set_below (show w.heap.size ≤ w.heap.size + 1 by omega) (set_below (show w.heap.size ≤ w.heap.size + 1 by omega) (set_below (show w.heap.size ≤ w.heap.size + 1 by omega) (set_below (show w.heap.size ≤ w.heap.size + 1 by omega) (set_below (show w.heap.size ≤ w.heap.size + 1 by omega) (set_below (show w.heap.size ≤ w.heap.size + 1 by omega) (set_below (show w.heap.size ≤ w.heap.size + 1 by omega) (set_below (show w.heap.size ≤ w.heap.size + 1 by omega) (HB5.out))))))))⟩;obtain ⟨P,hP⟩:=HO.out;exact ⟨P,hP.keep (w':=((((((((w5.setCell ⟨w.heap.size + 1,0,none⟩ (.slice d'.a1 d'.l1 d'.c1)).setCell ⟨w.heap.size + 1,1,none⟩ (.slice d'.a2 d'.l2 d'.c2)).setCell ⟨w.heap.size + 1,2,none⟩ (.slice d'.a3 d'.l3 d'.c3)).setCell ⟨w.heap.size + 1,3,none⟩ (.slice d'.a4 d'.l4 d'.c4)).setCell ⟨w.heap.size + 1,4,none⟩ (.slice d'.a5 d'.l5 d'.c5)).setCell ⟨w.heap.size + 1,5,none⟩ (.int .i64 c.now)).setCell ⟨w.heap.size + 1,6,none⟩ (.string ⟨#[]⟩)).setCell ⟨w.heap.size + 1,7,none⟩ (.int .i64 0))) (fun k hk s => by have s1 : ((w4.setCell ⟨w1.heap.size,4,none⟩ (.string ⟨#[]⟩)).setCell ⟨w1.heap.size,5,none⟩ (.int .i64 0)).heap.size ≤ k:=s;rw [hs45] at s1;rw [Below.heap_setCell _ _ _ _ (show k ≠ w.heap.size + 1 by omega),Below.heap_setCell _ _ _ _ (show k ≠ w.heap.size + 1 by omega),Below.heap_setCell _ _ _ _ (show k ≠ w.heap.size + 1 by omega),Below.heap_setCell _ _ _ _ (show k ≠ w.heap.size + 1 by omega),Below.heap_setCell _ _ _ _ (show k ≠ w.heap.size + 1 by omega),Below.heap_setCell _ _ _ _ (show k ≠ w.heap.size + 1 by omega),Below.heap_setCell _ _ _ _ (show k ≠ w.heap.size + 1 by omega),Below.heap_setCell _ _ _ _ (show k ≠ w.heap.size + 1 by omega)]) (fun k _ s => by have s1 : ((w4.setCell ⟨w1.heap.size,4,none⟩ (.string ⟨#[]⟩)).setCell ⟨w1.heap.size,5,none⟩ (.int .i64 0)).heap.size ≤ k:=s;rw [hs45] at s1;show w.heap.size ≤ k;omega)⟩

theorem sevict_any (d : Ad) (c : Cl) (t : ByteArray) (w : World) (hr : ClRow w d c.raw) :
  Calls Tryz.prog 14 #[.agg #[.slice d.a1 d.l1 d.c1,.slice d.a2 d.l2 d.c2,.slice d.a3 d.l3 d.c3,.slice d.a4 d.l4 d.c4,.slice d.a5 d.l5 d.c5,.int .i64 c.now],.string t] w (OutS (EvictIs c t) w):=by
 obtain ⟨a1,l1,y1,a2,l2,y2,a3,l3,y3,a4,l4,y4,a5,l5,y5⟩:=d;dsimp only;obtain ⟨HR,hl1,hm1,hl2,hm2,hl3,hm3,hl4,hm4,hl5,hm5⟩:=qqb1;clear hr;have HB:=hidK (Below.refl w.heap.size w);go_enter Tryz.func14,Tryz.ntmps14;go_wp2_with fail;refine (sbeg_any ⟨a1,l1,y1,a2,l2,y2,a3,l3,y3,a4,l4,y4,a5,l5,y5⟩ c t _ (HR.out.below (HB.out.trans ((below2 _ _ _).mono HB.out.size)))).mono ?_;rintro e w1 ⟨p,rfl,hp,hb⟩;obtain ⟨HA0,HA1,hbx⟩:=slots2 hb;have Bk:=hidK HA0;have Br:=hidK HA1;replace HB:=upB HB hbx;clear hb hbx HA0 HA1;have hp0 : (¬ p = 0 ∧ EvictIs c t (co0 p)) ∨ (p = 0 ∧ ¬ 8000 < t.size ∧ RightI c):=by
  rcases hp with ⟨h1,rfl⟩ | ⟨h1,h2,rfl⟩ | ⟨h1,h2,rfl⟩
  ·exact .inl ⟨by decide,.inl ⟨0,h1,rfl⟩⟩
  ·exact .inl ⟨by decide,.inl ⟨1,⟨h1,h2⟩,rfl⟩⟩
  ·exact .inr ⟨rfl,h1,h2⟩
 clear hp;rcases hp0 with ⟨hp0,hV⟩ | ⟨rfl,hl,hT⟩
 ·have HV:=hidK hV;clear hV;have hp1 : (p == 0) = false:=by simpa using hp0
  obtain ⟨k0,k1,k2,k3,k4,k5⟩:=cs6 Bk.out;have ltk_1:=lt_of_some Bk.out;go_wp2_with fail;refine (sill_any p _).mono ?_;rintro e w2 ⟨rfl,hb⟩;clear k0 k1 k2 k3 k4 k5 ltk_1;replace Bk:=upK Bk hb;replace Br:=upK Br hb;replace HB:=upB HB hb;clear hb;obtain ⟨r0,r1,r2,r3,r4,r5,r6,r7⟩:=cs8 Br.out;have ltr_2:=lt_of_some Br.out;obtain ⟨fr0,fr1,fr2,fr3,fr4,fr5⟩:=qqb8;have fr6:=froK Br.out 6;have fr7:=froK Br.out 7;have hrl : w.heap.size + 1 < w2.heap.size:=lt_of_some Br.out;go_wp2;exact bodyPost_ret (v:=.agg #[.slice none 0 0,.slice none 0 0,.slice none 0 0,.slice none 0 0,.slice none 0 0,.int .i64 0,.string ⟨#[]⟩,.int .i64 p]) qqd14 rfl ⟨ad0,co0 p,rfl,HV.out,(own0 _ (fun _ => True)).row,set_below (show w.heap.size ≤ w.heap.size + 1 by omega) (set_below (show w.heap.size ≤ w.heap.size + 1 by omega) (set_below (show w.heap.size ≤ w.heap.size + 1 by omega) (set_below (show w.heap.size ≤ w.heap.size + 1 by omega) (set_below (show w.heap.size ≤ w.heap.size + 1 by omega) (set_below (show w.heap.size ≤ w.heap.size + 1 by omega) (set_below (show w.heap.size ≤ w.heap.size + 1 by omega) (set_below (show w.heap.size ≤ w.heap.size + 1 by omega) (HB.out))))))))⟩
 have HT:=hidK hT;clear hT;obtain ⟨k0,k1,k2,k3,k4,k5⟩:=cs6 Bk.out;have ltk_1:=lt_of_some Bk.out;go_wp2_with fail;refine (sxpd_any ⟨a1,l1,y1,a2,l2,y2,a3,l3,y3,a4,l4,y4,a5,l5,y5⟩ c.now c.ps t _ (HR.out.p.below HB.out)).mono ?_;rintro e w2 ⟨hb,hf⟩;clear k0 k1 k2 k3 k4 k5 ltk_1;replace Bk:=upK Bk hb;replace Br:=upK Br hb;replace HB:=upB HB hb;clear hb;rcases hf with ⟨i,x,hx,hn,rfl⟩ | ⟨hno,rfl⟩;rotate_left
 ·have HV : Hid (EvictIs c t (co0 6)):=.inl ⟨2,⟨hl,HT.out,hit_no hno⟩,rfl⟩;clear hno;obtain ⟨k0,k1,k2,k3,k4,k5⟩:=cs6 Bk.out;have ltk_2:=lt_of_some Bk.out;go_wp2_with fail;refine (sill_any 6 _).mono ?_;rintro e w3 ⟨rfl,hb⟩;clear k0 k1 k2 k3 k4 k5 ltk_2;replace Bk:=upK Bk hb;replace Br:=upK Br hb;replace HB:=upB HB hb;clear hb;obtain ⟨r0,r1,r2,r3,r4,r5,r6,r7⟩:=cs8 Br.out;have ltr_3:=lt_of_some Br.out;obtain ⟨fr0,fr1,fr2,fr3,fr4,fr5⟩:=qqb8;obtain ⟨fr6,fr7,hrl⟩:=qqb62;go_wp2;exact bodyPost_ret (v:=.agg #[.slice none 0 0,.slice none 0 0,.slice none 0 0,.slice none 0 0,.slice none 0 0,.int .i64 0,.string ⟨#[]⟩,.int .i64 6]) qqd14 rfl ⟨ad0,co0 6,rfl,HV.out,(own0 _ (fun _ => True)).row,set_below (show w.heap.size ≤ w.heap.size + 1 by omega) (set_below (show w.heap.size ≤ w.heap.size + 1 by omega) (set_below (show w.heap.size ≤ w.heap.size + 1 by omega) (set_below (show w.heap.size ≤ w.heap.size + 1 by omega) (set_below (show w.heap.size ≤ w.heap.size + 1 by omega) (set_below (show w.heap.size ≤ w.heap.size + 1 by omega) (set_below (show w.heap.size ≤ w.heap.size + 1 by omega) (set_below (show w.heap.size ≤ w.heap.size + 1 by omega) (HB.out))))))))⟩
 have hri:=HT.out.2.1.2.2.2.2.2.2;have hpl:=(hit_at hri hx hn).1;have HXX : Hid (c.ps[pl Pd.n c.ps t]? = some x ∧ x.n = t):=⟨by rw [hpl];exact hx,hn⟩;have HXI:=hidK hx;have HPL:=hidK hpl;clear hpl hri hn;have hi5 : i < l5:=by have:=(List.getElem?_eq_some_iff.1 hx).1;omega
 have hi0 : ¬ (i : Int) < 0:=qqd1
 obtain ⟨b,o,y,rfl,hbl,hy,hat⟩:=pd_at (HR.out.p.below HB.out) hi5;rw [HXI.out] at hy;obtain rfl:=Option.some.inj hy;obtain ⟨va,vl,vc,hvr,z0,z2,z4,c0,c1,c2,c3,c4,c5⟩:=pd_cells hat;clear hat hvr z0 z2 z4 hy hx c0 c1 c2 c3;have HC4:=hidK c4;have HC5:=hidK c5;clear c4 c5;by_cases hp : x.p = 0
 ·have hpb : (x.p == 0) = true:=by simpa using hp
  have c5:=HC5.out;have HV : Hid (EvictIs c t (co0 10)):=.inl ⟨8,⟨hl,HT.out,x,HXX.out.1,HXX.out.2,hp⟩,rfl⟩;obtain ⟨k0,k1,k2,k3,k4,k5⟩:=cs6 Bk.out;have ltk_2:=lt_of_some Bk.out;go_wp2_with fail;refine (sill_any 10 _).mono ?_;rintro e w3 ⟨rfl,hb⟩;clear k0 k1 k2 k3 k4 k5 ltk_2;replace Bk:=upK Bk hb;replace Br:=upK Br hb;replace HB:=upB HB hb;clear hb;obtain ⟨r0,r1,r2,r3,r4,r5,r6,r7⟩:=cs8 Br.out;have ltr_3:=lt_of_some Br.out;obtain ⟨fr0,fr1,fr2,fr3,fr4,fr5⟩:=qqb8;obtain ⟨fr6,fr7,hrl⟩:=qqb62;go_wp2;exact bodyPost_ret (v:=.agg #[.slice none 0 0,.slice none 0 0,.slice none 0 0,.slice none 0 0,.slice none 0 0,.int .i64 0,.string ⟨#[]⟩,.int .i64 10]) qqd14 rfl ⟨ad0,co0 10,rfl,HV.out,(own0 _ (fun _ => True)).row,set_below (show w.heap.size ≤ w.heap.size + 1 by omega) (set_below (show w.heap.size ≤ w.heap.size + 1 by omega) (set_below (show w.heap.size ≤ w.heap.size + 1 by omega) (set_below (show w.heap.size ≤ w.heap.size + 1 by omega) (set_below (show w.heap.size ≤ w.heap.size + 1 by omega) (set_below (show w.heap.size ≤ w.heap.size + 1 by omega) (set_below (show w.heap.size ≤ w.heap.size + 1 by omega) (set_below (show w.heap.size ≤ w.heap.size + 1 by omega) (HB.out))))))))⟩
 have hpb : (x.p == 0) = false:=by simpa using hp
 obtain ⟨jn,n,hnj,hnn,hnu⟩:=HT.out.node HXI.out hp;have hj1 : jn < l1:=by have:=(List.getElem?_eq_some_iff.1 hnj).1;omega
 have hj0 : ¬ (jn : Int) < 0:=qqd1
 obtain ⟨bn,on,y,rfl,hbn,hy,hat⟩:=nd_at (HR.out.n.below HB.out) hj1;rw [hnj] at hy;obtain rfl:=Option.some.inj hy;obtain ⟨ua,ul,uc,hur,u0,u1,d0,d1,d2,d3,d4,d5,d6⟩:=nd_cells hat;clear hat hur u0 u1 hy;have HNJ:=hidK hnj;have HNN:=hidK hnn;have HNU:=hidK hnu;have hri:=HT.out.2.1.1.2.2;have HRN:=hidK hri;have HPN:=hidK (hit_at hri hnj hnn).1;clear hnj hnn hnu hri;have c4:=HC4.out;have c5:=HC5.out;obtain ⟨k0,k1,k2,k3,k4,k5⟩:=cs6 Bk.out;have ltk_2:=lt_of_some Bk.out;go_wp2_with fail;clear k0 k1 k2 k3 k4 k5 ltk_2;by_cases hg : n.d = true ∧ n.u + 5 < c.now;rotate_left
 ·have HG : Hid ((n.d && decide (n.u + 5 < c.now)) = false):=by
   show (n.d && decide (n.u + 5 < c.now)) = false;cases hd : n.d
   ·rfl
   ·simp only [Bool.true_and,decide_eq_false_iff_not];exact fun h => hg ⟨hd,h⟩
  have HV : Hid (EvictIs c t (co0 11)):=.inl ⟨7,⟨hl,HT.out,x,HXX.out.1,HXX.out.2,hp,fun h => (by
   obtain ⟨m,h1,_,h3,h4⟩:=h;rw [HPN.out,HNJ.out] at h1;obtain rfl:=Option.some.inj h1;exact hg ⟨h3,h4⟩)⟩,rfl⟩
  obtain ⟨Gk,Gr,HW⟩:=qqb37;obtain ⟨k0,k1,k2,k3,k4,k5⟩:=sl6 Gk;obtain ⟨pd4,e0,e1,e2,e3,e4,e5,e6,hne0,HC0⟩:=qqb18;have HC1:=hidK (fun q : Wd w2 => sgone_is ⟨(some ⟨bn,on,none⟩),l1,y1,a2,l2,y2,a3,l3,y3,a4,l4,y4,(some ⟨b,o,none⟩),l5,y5⟩ c.now n ua ul uc q.w HNU.out.1 HNU.out.2 false HG.out);go_wp2_with fail;refine wp_region_wide qqd2 qqd2 ?_;repeat (go_big_quiet_step (first | (go_at_call 47;exact Calls.wide (HC0.out _)) | (go_at_call 46;exact Calls.wide (HC1.out _)) | fail))
  refine wpQuiet_nil ?_;rintro _ ⟨q1,rfl⟩;have HB3:=upB HW q1.b;obtain ⟨Ck,Cr⟩:=qqb34;clear hne0 HW HB HC0 HC1 k0 k1 k2 k3 k4 k5 pd4 e0 e1 e2 e3 e4 e5 e6 Gk Gr Bk Br c4 c5 d0 d1 d2 d3 d4 d5 d6 hbn;have HB:=HB3;clear HB3;have Bk:=Ck;clear Ck;have Br:=Cr;clear Cr;obtain ⟨k0,k1,k2,k3,k4,k5⟩:=cs6 Bk.out;have ltk_3:=lt_of_some Bk.out;go_wp2_with fail;refine (sill_any 11 _).mono ?_;rintro e w3 ⟨rfl,hb⟩;clear k0 k1 k2 k3 k4 k5 ltk_3;replace Bk:=upK Bk hb;replace Br:=upK Br hb;replace HB:=upB HB hb;clear hb;obtain ⟨r0,r1,r2,r3,r4,r5,r6,r7⟩:=cs8 Br.out;have ltr_4:=lt_of_some Br.out;obtain ⟨fr0,fr1,fr2,fr3,fr4,fr5⟩:=qqb8;obtain ⟨fr6,fr7,hrl⟩:=qqb62;go_wp2;exact bodyPost_ret (v:=.agg #[.slice none 0 0,.slice none 0 0,.slice none 0 0,.slice none 0 0,.slice none 0 0,.int .i64 0,.string ⟨#[]⟩,.int .i64 11]) qqd14 rfl ⟨ad0,co0 11,rfl,HV.out,(own0 _ (fun _ => True)).row,set_below (show w.heap.size ≤ w.heap.size + 1 by omega) (set_below (show w.heap.size ≤ w.heap.size + 1 by omega) (set_below (show w.heap.size ≤ w.heap.size + 1 by omega) (set_below (show w.heap.size ≤ w.heap.size + 1 by omega) (set_below (show w.heap.size ≤ w.heap.size + 1 by omega) (set_below (show w.heap.size ≤ w.heap.size + 1 by omega) (set_below (show w.heap.size ≤ w.heap.size + 1 by omega) (set_below (show w.heap.size ≤ w.heap.size + 1 by omega) (HB.out))))))))⟩
 have HG : Hid ((n.d && decide (n.u + 5 < c.now)) = true):=by
  show (n.d && decide (n.u + 5 < c.now)) = true;rw [hg.1];simpa using hg.2
 have HV : Hid (EvictIs c t ⟨evC c t x,⟨#[]⟩,0⟩):=.inr ⟨hl,HT.out,x,HXX.out.1,HXX.out.2,hp,⟨n,by rw [HPN.out];exact HNJ.out,HNN.out,hg.1,hg.2⟩,rfl⟩;clear hg;obtain ⟨Gk,Gr,HW⟩:=qqb37;obtain ⟨k0,k1,k2,k3,k4,k5⟩:=sl6 Gk;obtain ⟨pd4,e0,e1,e2,e3,e4,e5,e6,hne0,HC0⟩:=qqb18;have HC1:=hidK (fun q : Wd w2 => sgone_is ⟨(some ⟨bn,on,none⟩),l1,y1,a2,l2,y2,a3,l3,y3,a4,l4,y4,(some ⟨b,o,none⟩),l5,y5⟩ c.now n ua ul uc q.w HNU.out.1 HNU.out.2 true HG.out);go_wp2_with fail;refine wp_region_wide qqd2 qqd2 ?_;repeat (go_big_quiet_step (first | (go_at_call 47;exact Calls.wide (HC0.out _)) | (go_at_call 46;exact Calls.wide (HC1.out _)) | fail))
 refine wpQuiet_nil ?_;rintro _ ⟨q1,rfl⟩;have HB3:=upB HW q1.b;obtain ⟨Ck,Cr⟩:=qqb34;clear hne0 HW HB HC0 HC1 k0 k1 k2 k3 k4 k5 pd4 e0 e1 e2 e3 e4 e5 e6 Gk Gr Bk Br c4 c5 d0 d1 d2 d3 d4 d5 d6 hbn;have HB:=HB3;clear HB3;have Bk:=Ck;clear Ck;have Br:=Cr;clear Cr;have HQ1 : Hid (w.heap.size + 1 < q1.w.heap.size):=lt_of_some Br.out;obtain ⟨k0,k1,k2,k3,k4,k5⟩:=cs6 Bk.out;have ltk_3:=lt_of_some Bk.out;go_wp2_with fail;refine (scopyC_any ⟨(some ⟨bn,on,none⟩),l1,y1,a2,l2,y2,a3,l3,y3,a4,l4,y4,(some ⟨b,o,none⟩),l5,y5⟩ c _ (HR.out.below HB.out) HT.out.sm).mono ?_;rintro e w3 ⟨d',rfl,ho,hb⟩;have HQ2:=hidK hb.size;clear k0 k1 k2 k3 k4 k5 ltk_3;replace Bk:=upK Bk hb;replace Br:=upK Br hb;replace HB:=upB HB hb;clear hb;obtain ⟨x1,m1,n1,x2,m2,n2,x3,m3,n3,x4,m4,n4,x5,m5,n5⟩:=d';have hm5 : m5 = l5:=by have h6 : (c.ps.map pdF).length = m5:=ho.p.1;rw [List.length_map] at h6;omega
 subst hm5;obtain ⟨g,hga,hS⟩:=(ho.p.into (S':=fun k => q1.w.heap.size ≤ k ∧ k < w3.heap.size) (fun k hk s => ⟨s,hk⟩)).st (KeptS.refl _ w3) (i:=i) (r:=pdF x) (show (c.ps.map pdF)[i]? = some (pdF x) by rw [List.getElem?_map,HXI.out];rfl);have hga' : x5 = some ⟨g,0,none⟩:=hga;subst hga';have hq1 : w.heap.size + 1 < q1.w.heap.size:=HQ1.out;have hq2 : q1.w.heap.size ≤ w3.heap.size:=HQ2.out;have hgS:=(by obtain ⟨⟨cur,H,h1,_⟩,_⟩:=hS;exact ⟨h1.inS,lt_of_some h1.blk⟩ : (q1.w.heap.size ≤ g ∧ g < w3.heap.size) ∧ g < w3.heap.size);obtain ⟨⟨hg1,hg2⟩,-⟩:=hgS;obtain ⟨v4,hv4⟩:=hS.cell (i:=4) rfl;obtain ⟨v5,hv5⟩:=hS.cell (i:=5) rfl;have hf4:=hS.fro (i * 6 + 4);have hf5:=hS.fro (i * 6 + 5);have HST:=hidK hS;have HO:=hidK ho;have hne : ¬ g = w3.heap.size:=qqd1
 have hne2 : ¬ w3.heap.size = g:=qqd1
 have hne3 : ¬ g = w.heap.size + 1:=qqd1
 have hne4 : ¬ w.heap.size + 1 = g:=qqd1
 have hne5 : ¬ w.heap.size + 1 = w3.heap.size:=qqd1
 have hne6 : ¬ w3.heap.size = w.heap.size + 1:=qqd1
 clear hS ho hga;obtain ⟨k0,k1,k2,k3,k4,k5⟩:=cs6 Bk.out;have ltk_4:=lt_of_some Bk.out;obtain ⟨r0,r1,r2,r3,r4,r5,r6,r7⟩:=cs8 Br.out;have ltr_4:=lt_of_some Br.out;obtain ⟨fr0,fr1,fr2,fr3,fr4,fr5⟩:=qqb8;have fr6:=froK Br.out 6;have fr7:=froK Br.out 7;go_wp2;refine bodyPost_ret (v:=.agg #[.slice x1 m1 n1,.slice x2 m2 n2,.slice x3 m3 n3,.slice x4 m4 n4,.slice (some ⟨g,0,none⟩) m5 n5,.int .i64 c.now,.string ⟨#[]⟩,.int .i64 0]) qqd14 rfl ⟨⟨x1,m1,n1,x2,m2,n2,x3,m3,n3,x4,m4,n4,some ⟨g,0,none⟩,m5,n5⟩,⟨evC c t x,⟨#[]⟩,0⟩,rfl,HV.out,?_,Below.alloc (set_below (show w.heap.size ≤ w.heap.size + 1 by omega) (set_below (show w.heap.size ≤ w.heap.size + 1 by omega) (set_below (show w.heap.size ≤ w.heap.size + 1 by omega) (set_below (show w.heap.size ≤ w.heap.size + 1 by omega) (set_below (show w.heap.size ≤ w.heap.size + 1 by omega) (set_below (show w.heap.size ≤ w.heap.size + 1 by omega) (set_below (show w.heap.size ≤ w.heap.size + 1 by omega) (set_below (show w.heap.size ≤ w.heap.size + 1 by omega) (set_below (show w.heap.size ≤ g by omega) (set_below (show w.heap.size ≤ g by omega) HB.out)))))))))) qqd7 _⟩;have hk2 : ∀ k,q1.w.heap.size ≤ k → k < w3.heap.size → (((((((((((w3.setCell ⟨g,i * 6 + 4,none⟩ (.string ⟨#[]⟩)).setCell ⟨g,i * 6 + 5,none⟩ (.int .i64 0)).setCell ⟨w.heap.size + 1,0,none⟩ (.slice x1 m1 n1)).setCell ⟨w.heap.size + 1,1,none⟩ (.slice x2 m2 n2)).setCell ⟨w.heap.size + 1,2,none⟩ (.slice x3 m3 n3)).setCell ⟨w.heap.size + 1,3,none⟩ (.slice x4 m4 n4)).setCell ⟨w.heap.size + 1,4,none⟩ (.slice (some ⟨g,0,none⟩) m5 n5)).setCell ⟨w.heap.size + 1,5,none⟩ (.int .i64 c.now)).setCell ⟨w.heap.size + 1,6,none⟩ (.string ⟨#[]⟩)).setCell ⟨w.heap.size + 1,7,none⟩ (.int .i64 0)).alloc (.cells #[.slice x1 m1 n1,.slice x2 m2 n2,.slice x3 m3 n3,.slice x4 m4 n4,.slice (some ⟨g,0,none⟩) m5 n5,.int .i64 c.now] 36)).heap[k]? = ((w3.setCell ⟨g,i * 6 + 4,none⟩ (.string ⟨#[]⟩)).setCell ⟨g,i * 6 + 5,none⟩ (.int .i64 0)).heap[k]?:=fun k h1 h2 => by
  refine (Below.heap_alloc _ _ _ (by simpa using h2)).trans ?_;rw [Below.heap_setCell _ _ _ _ (show k ≠ w.heap.size + 1 by omega),Below.heap_setCell _ _ _ _ (show k ≠ w.heap.size + 1 by omega),Below.heap_setCell _ _ _ _ (show k ≠ w.heap.size + 1 by omega),Below.heap_setCell _ _ _ _ (show k ≠ w.heap.size + 1 by omega),Below.heap_setCell _ _ _ _ (show k ≠ w.heap.size + 1 by omega),Below.heap_setCell _ _ _ _ (show k ≠ w.heap.size + 1 by omega),Below.heap_setCell _ _ _ _ (show k ≠ w.heap.size + 1 by omega),Below.heap_setCell _ _ _ _ (show k ≠ w.heap.size + 1 by omega)]
 have hk3 : ∀ k,q1.w.heap.size ≤ k → ¬ k = g → k < w3.heap.size → (((((((((((w3.setCell ⟨g,i * 6 + 4,none⟩ (.string ⟨#[]⟩)).setCell ⟨g,i * 6 + 5,none⟩ (.int .i64 0)).setCell ⟨w.heap.size + 1,0,none⟩ (.slice x1 m1 n1)).setCell ⟨w.heap.size + 1,1,none⟩ (.slice x2 m2 n2)).setCell ⟨w.heap.size + 1,2,none⟩ (.slice x3 m3 n3)).setCell ⟨w.heap.size + 1,3,none⟩ (.slice x4 m4 n4)).setCell ⟨w.heap.size + 1,4,none⟩ (.slice (some ⟨g,0,none⟩) m5 n5)).setCell ⟨w.heap.size + 1,5,none⟩ (.int .i64 c.now)).setCell ⟨w.heap.size + 1,6,none⟩ (.string ⟨#[]⟩)).setCell ⟨w.heap.size + 1,7,none⟩ (.int .i64 0)).alloc (.cells #[.slice x1 m1 n1,.slice x2 m2 n2,.slice x3 m3 n3,.slice x4 m4 n4,.slice (some ⟨g,0,none⟩) m5 n5,.int .i64 c.now] 36)).heap[k]? = w3.heap[k]?:=fun k h1 h3 h2 => by
  rw [hk2 k h1 h2,Below.heap_setCell _ _ _ _ h3,Below.heap_setCell _ _ _ _ h3]
 obtain ⟨⟨cur,H,hbk,_⟩,_⟩:=HST.out;have h2:=(HST.out.setS (i:=4) rfl ⟨#[]⟩ qqd3).setI (i:=5) rfl 0;obtain ⟨⟨cur2,H2,h3,_⟩,_,_⟩:=h2;have hps : (evC c t x).raw.p = (c.ps.map pdF).set i (pdF (idle x)):=by
  show (c.ps.set (pl Pd.n c.ps t) (idle x)).map pdF = _;rw [HPL.out,List.map_set]
 refine ⟨?_,?_,?_,?_,?_⟩
 ·exact ((HO.out.n.away hbk.blk qqd3 qqd3).keep (w':=(((((((((((w3.setCell ⟨g,i * 6 + 4,none⟩ (.string ⟨#[]⟩)).setCell ⟨g,i * 6 + 5,none⟩ (.int .i64 0)).setCell ⟨w.heap.size + 1,0,none⟩ (.slice x1 m1 n1)).setCell ⟨w.heap.size + 1,1,none⟩ (.slice x2 m2 n2)).setCell ⟨w.heap.size + 1,2,none⟩ (.slice x3 m3 n3)).setCell ⟨w.heap.size + 1,3,none⟩ (.slice x4 m4 n4)).setCell ⟨w.heap.size + 1,4,none⟩ (.slice (some ⟨g,0,none⟩) m5 n5)).setCell ⟨w.heap.size + 1,5,none⟩ (.int .i64 c.now)).setCell ⟨w.heap.size + 1,6,none⟩ (.string ⟨#[]⟩)).setCell ⟨w.heap.size + 1,7,none⟩ (.int .i64 0)).alloc (.cells #[.slice x1 m1 n1,.slice x2 m2 n2,.slice x3 m3 n3,.slice x4 m4 n4,.slice (some ⟨g,0,none⟩) m5 n5,.int .i64 c.now] 36))) (S':=fun _ => True) (fun k hk s => hk3 k s.1 s.2 hk) (fun _ _ _ => trivial)).row
 ·exact ((HO.out.k.away hbk.blk qqd3 qqd3).keep (w':=(((((((((((w3.setCell ⟨g,i * 6 + 4,none⟩ (.string ⟨#[]⟩)).setCell ⟨g,i * 6 + 5,none⟩ (.int .i64 0)).setCell ⟨w.heap.size + 1,0,none⟩ (.slice x1 m1 n1)).setCell ⟨w.heap.size + 1,1,none⟩ (.slice x2 m2 n2)).setCell ⟨w.heap.size + 1,2,none⟩ (.slice x3 m3 n3)).setCell ⟨w.heap.size + 1,3,none⟩ (.slice x4 m4 n4)).setCell ⟨w.heap.size + 1,4,none⟩ (.slice (some ⟨g,0,none⟩) m5 n5)).setCell ⟨w.heap.size + 1,5,none⟩ (.int .i64 c.now)).setCell ⟨w.heap.size + 1,6,none⟩ (.string ⟨#[]⟩)).setCell ⟨w.heap.size + 1,7,none⟩ (.int .i64 0)).alloc (.cells #[.slice x1 m1 n1,.slice x2 m2 n2,.slice x3 m3 n3,.slice x4 m4 n4,.slice (some ⟨g,0,none⟩) m5 n5,.int .i64 c.now] 36))) (S':=fun _ => True) (fun k hk s => hk3 k s.1 s.2 hk) (fun _ _ _ => trivial)).row
 ·exact ((HO.out.v.away hbk.blk qqd3 qqd3).keep (w':=(((((((((((w3.setCell ⟨g,i * 6 + 4,none⟩ (.string ⟨#[]⟩)).setCell ⟨g,i * 6 + 5,none⟩ (.int .i64 0)).setCell ⟨w.heap.size + 1,0,none⟩ (.slice x1 m1 n1)).setCell ⟨w.heap.size + 1,1,none⟩ (.slice x2 m2 n2)).setCell ⟨w.heap.size + 1,2,none⟩ (.slice x3 m3 n3)).setCell ⟨w.heap.size + 1,3,none⟩ (.slice x4 m4 n4)).setCell ⟨w.heap.size + 1,4,none⟩ (.slice (some ⟨g,0,none⟩) m5 n5)).setCell ⟨w.heap.size + 1,5,none⟩ (.int .i64 c.now)).setCell ⟨w.heap.size + 1,6,none⟩ (.string ⟨#[]⟩)).setCell ⟨w.heap.size + 1,7,none⟩ (.int .i64 0)).alloc (.cells #[.slice x1 m1 n1,.slice x2 m2 n2,.slice x3 m3 n3,.slice x4 m4 n4,.slice (some ⟨g,0,none⟩) m5 n5,.int .i64 c.now] 36))) (S':=fun _ => True) (fun k hk s => hk3 k s.1 s.2 hk) (fun _ _ _ => trivial)).row
 ·exact ((HO.out.x.away hbk.blk qqd3 qqd3).keep (w':=(((((((((((w3.setCell ⟨g,i * 6 + 4,none⟩ (.string ⟨#[]⟩)).setCell ⟨g,i * 6 + 5,none⟩ (.int .i64 0)).setCell ⟨w.heap.size + 1,0,none⟩ (.slice x1 m1 n1)).setCell ⟨w.heap.size + 1,1,none⟩ (.slice x2 m2 n2)).setCell ⟨w.heap.size + 1,2,none⟩ (.slice x3 m3 n3)).setCell ⟨w.heap.size + 1,3,none⟩ (.slice x4 m4 n4)).setCell ⟨w.heap.size + 1,4,none⟩ (.slice (some ⟨g,0,none⟩) m5 n5)).setCell ⟨w.heap.size + 1,5,none⟩ (.int .i64 c.now)).setCell ⟨w.heap.size + 1,6,none⟩ (.string ⟨#[]⟩)).setCell ⟨w.heap.size + 1,7,none⟩ (.int .i64 0)).alloc (.cells #[.slice x1 m1 n1,.slice x2 m2 n2,.slice x3 m3 n3,.slice x4 m4 n4,.slice (some ⟨g,0,none⟩) m5 n5,.int .i64 c.now] 36))) (S':=fun _ => True) (fun k hk s => hk3 k s.1 s.2 hk) (fun _ _ _ => trivial)).row
 ·have hR : ROwn ((w3.setCell ⟨g,i * 6 + 4,none⟩ (.string ⟨#[]⟩)).setCell ⟨g,i * 6 + 5,none⟩ (.int .i64 0)) (some ⟨g,0,none⟩) m5 n5 6 69 (evC c t x).raw.p (fun k => q1.w.heap.size ≤ k ∧ k < w3.heap.size):=by
   rw [hps];exact ⟨by rw [List.length_set];exact HO.out.p.1,HO.out.p.2.1,HO.out.p.2.2.1,.inr ⟨g,cur2,H2,rfl,h3⟩⟩
  exact (hR.keep (w':=(((((((((((w3.setCell ⟨g,i * 6 + 4,none⟩ (.string ⟨#[]⟩)).setCell ⟨g,i * 6 + 5,none⟩ (.int .i64 0)).setCell ⟨w.heap.size + 1,0,none⟩ (.slice x1 m1 n1)).setCell ⟨w.heap.size + 1,1,none⟩ (.slice x2 m2 n2)).setCell ⟨w.heap.size + 1,2,none⟩ (.slice x3 m3 n3)).setCell ⟨w.heap.size + 1,3,none⟩ (.slice x4 m4 n4)).setCell ⟨w.heap.size + 1,4,none⟩ (.slice (some ⟨g,0,none⟩) m5 n5)).setCell ⟨w.heap.size + 1,5,none⟩ (.int .i64 c.now)).setCell ⟨w.heap.size + 1,6,none⟩ (.string ⟨#[]⟩)).setCell ⟨w.heap.size + 1,7,none⟩ (.int .i64 0)).alloc (.cells #[.slice x1 m1 n1,.slice x2 m2 n2,.slice x3 m3 n3,.slice x4 m4 n4,.slice (some ⟨g,0,none⟩) m5 n5,.int .i64 c.now] 36))) (S':=fun _ => True) (fun k hk s => hk2 k s.1 s.2) (fun _ _ _ => trivial)).row

end Rc
end Go.Proofs.YtpibkpofdbjdaaaGreatDoor

namespace Go.Proofs.YtpibkpofdbjdaaaGreatDoor
open Go.RowKit Rc Mk

def EvictClV (c : Cl) : Fact:=fun v w => ∃ d : Ad,v = .agg #[.slice d.a1 d.l1 d.c1,.slice d.a2 d.l2 d.c2,.slice d.a3 d.l3 d.c3,.slice d.a4 d.l4 d.c4,.slice d.a5 d.l5 d.c5,.int .i64 c.now] ∧ ClRow w d c.raw
theorem EvictClV.mono (c : Cl) : Fact.Mono (EvictClV c):=by
 rintro v w w' ⟨d,h1,h2⟩ hb;exact ⟨d,h1,h2.below hb⟩

set_option linter.unusedVariables false in
theorem evict_walk (d : Ad) (c : Cl) (t : ByteArray) (E : Nat → Addr) (w : World) (hr : ClRow w d c.raw) (ht : t.size ≤ maxLen) (hG : Ers w E) :
  Calls Tryz.prog 4 #[.agg #[.slice d.a1 d.l1 d.c1,.slice d.a2 d.l2 d.c2,.slice d.a3 d.l3 d.c3,.slice d.a4 d.l4 d.c4,.slice d.a5 d.l5 d.c5,.int .i64 c.now],.string t] w fun e w' => e = .returned (.bool true) ∧ Below w.heap.size w w':=by
 obtain ⟨HR,HE,HB⟩:=qqb74;clear hr hG;by_cases hlongt : 1048576 < t.size
 ·go_enter Tryz.func4,Tryz.ntmps4;go_wp2;go_ret;exact ⟨rfl,below1 _ _⟩
 go_enter Tryz.func4,Tryz.ntmps4;go_wp2_with fail;refine (szCluster_any d c _ (HR.out.below (HB.out.trans ((below1 _ _).mono HB.out.size)))).mono ?_;rintro e w1 ⟨r,rfl,hi,hb⟩;obtain ⟨HA0,hbx⟩:=slots1 hb;have Bk:=hidK HA0;replace HB:=upB HB hbx;clear hb hbx HA0;rcases hi with rfl | ⟨hr0,-,hft⟩
 ·obtain ⟨k0,k1,k2,k3,k4,k5⟩:=cs6 Bk.out;have ltk_1:=lt_of_some Bk.out;go_wp2;go_ret;exact ⟨rfl,HB.out⟩
 have HF:=hidK hft;clear hft;obtain ⟨k0,k1,k2,k3,k4,k5⟩:=cs6 Bk.out;have ltk_1:=lt_of_some Bk.out;go_wp2_with fail;refine (toCluster_any d c _ (HR.out.below HB.out) HF.out).mono ?_;rintro e w2 ⟨d1,rfl,ho,hb⟩;clear k0 k1 k2 k3 k4 k5 ltk_1;replace Bk:=upK Bk hb;replace HB:=upB HB hb;clear hb;have HO:=hidK ho.row;clear ho;go_wp2_with fail;refine (sevict_any d1 c t _ HO.out).mono ?_;rintro e w3 ⟨dg0,o,rfl,hI,ho,hb⟩;have R0:=hidK ho;have HIS:=hidK hI;clear ho hI HO;replace Bk:=upK Bk hb;replace HB:=upB HB hb;clear hb;have HY:=hidK (Bw.refl w3);have HQ3:=hidK (show w.heap.size < w3.heap.size from lt_of_some Bk.out);obtain ⟨k0,k1,k2,k3,k4,k5⟩:=cs6 Bk.out;have ltk_3:=lt_of_some Bk.out;go_wp2_with fail;refine (toCluster_any d c _ (HR.out.below (HB.out.trans ((below1 _ _).mono HB.out.size))) HF.out).mono ?_;rintro e w4 ⟨d2,rfl,ho,hb⟩;clear k0 k1 k2 k3 k4 k5 ltk_3;obtain ⟨HA0,hbx⟩:=slots1 hb;replace Bk:=upK Bk hbx;have Ba:=hidK HA0;replace HY:=hidK (HY.out.below hbx);replace HB:=upB HB hbx;clear hb hbx HA0;have HQ4 : Hid (w3.heap.size + 1 ≤ w4.heap.size):=by have:=HY.out.le;have:=lt_of_some Ba.out;show w3.heap.size + 1 ≤ _;omega
 have HO2:=hidK (ho.into (S':=fun k => w3.heap.size + 1 ≤ k ∧ k < w4.heap.size) (fun k hk s => ⟨(show w3.heap.size + 1 ≤ k by simpa using s),hk⟩));clear ho;obtain ⟨k0,k1,k2,k3,k4,k5⟩:=cs6 Bk.out;have ltk_4:=lt_of_some Bk.out;obtain ⟨a0,a1,a2,a3,a4,a5,a6,a7⟩:=cs8 Ba.out;have lta_4:=lt_of_some Ba.out;go_wp2_with fail;have HOX:=hidK (HO2.out.below (below1 w4 (.cells #[.slice d2.a1 d2.l1 d2.c1,.slice d2.a2 d2.l2 d2.c2,.slice d2.a3 d2.l3 d2.c3,.slice d2.a4 d2.l4 d2.c4,.slice d2.a5 d2.l5 d2.c5,.int .i64 c.now] 36)));refine (ievict_any d2 c t E _ HOX.out.row (HE.out.below (HB.out.trans ((below1 _ _).mono HB.out.size)))).mono ?_;rintro e w5 ⟨dg1,o1,rfl,hI,ho,hb⟩;clear HOX;obtain rfl:=HIS.out.same hI;clear hI;clear k0 k1 k2 k3 k4 k5 ltk_4 a0 a1 a2 a3 a4 a5 a6 a7 lta_4;obtain ⟨HA0,hbx⟩:=slots1 hb;replace Bk:=upK Bk hbx;replace Ba:=upK Ba hbx;have Bx:=hidK HA0;replace HY:=hidK (HY.out.below hbx);replace HO2:=hidK (HO2.out.below hbx);replace HB:=upB HB hbx;clear hb hbx HA0;have HQ5 : Hid (w4.heap.size < w5.heap.size):=lt_of_some Bx.out;have HO1:=hidK (ho.into (S':=fun k => w4.heap.size + 1 ≤ k ∧ k < w5.heap.size) (fun k hk s => ⟨(show w4.heap.size + 1 ≤ k by simpa using s),hk⟩));clear ho;have hlz : mkCn 1 o.c.raw ≤ 1152921504606846976:=HIS.out.marks HF.out;have HH:=hidK (fun (W : World) (hr : ClRow W dg1 (mkC 1 o.c.raw)) => heldCout_any dg1 o 1 W hr qqd3 hlz);obtain ⟨M,hM⟩ : ∃ M : Int,M = mkCn 1 o.c.raw:=⟨_,rfl⟩;have hM0 : (0 : Int) < M:=by rw [hM];have:=mkCn_ge 1 o.c.raw;omega
 rw [← hM] at HH;have HMM:=hidK hM;clear hM;obtain ⟨k0,k1,k2,k3,k4,k5⟩:=cs6 Bk.out;have ltk_5:=lt_of_some Bk.out;obtain ⟨a0,a1,a2,a3,a4,a5,a6,a7⟩:=cs8 Ba.out;have lta_5:=lt_of_some Ba.out;obtain ⟨x0,x1,x2,x3,x4,x5⟩:=cs6 Bx.out;have ltx_5:=lt_of_some Bx.out;go_wp2_with fail;refine (eqCout_any dg1 dg0 o _ (HO1.out.row.below (below1 _ _)) (R0.out.below (HY.out.below (below1 _ _)).out)).mono ?_;rintro e w6 ⟨rfl,hb⟩;clear k0 k1 k2 k3 k4 k5 ltk_5 a0 a1 a2 a3 a4 a5 a6 a7 lta_5 x0 x1 x2 x3 x4 x5 ltx_5;obtain ⟨HA0,hbx⟩:=slots1 hb;replace Bk:=upK Bk hbx;replace Ba:=upK Ba hbx;replace Bx:=upK Bx hbx;have Bg:=hidK HA0;replace HY:=hidK (HY.out.below hbx);replace HO2:=hidK (HO2.out.below hbx);replace HO1:=hidK (HO1.out.below hbx);replace HB:=upB HB hbx;clear hb hbx HA0;obtain ⟨W,hW0⟩ : ∃ W,W = w6:=⟨_,rfl⟩;rw [← hW0] at HB HY HO2 HO1 Bk Ba Bx Bg;go_wp2_with fail;rw [← hW0];clear hW0;rename_i K0 hK0;refine wp_region_grow (back:=none) qqd2 (List.append_nil _).symm qqd2 ?_;refine' Grow.stepC _ rfl ?_ ?_;rotate_left 1
 ·refine Obl.plain rfl ?_;intro ac wg K hsz hW hf hK;clear hsz;have e7:=hf 7 qqd3;simp [slotFact,List.lookup] at e7;clear hf;obtain ⟨k0,k1,k2,k3,k4,k5⟩:=cs6 ((hW.block _ (lt_of_some Bx.out)).trans Bx.out);exact qqa15
 refine' Grow.stepC _ rfl ?_ ?_;rotate_left 1
 ·refine Obl.plain rfl ?_;intro ac wg K hsz hW hf hK;clear hsz;have e2:=hf 2 qqd3;simp [slotFact,List.lookup] at e2;exact qqa126
 refine Grow.step (EvictClV c) rfl (EvictClV.mono c) ?_ ?_
 ·refine Obl.plain rfl ?_;intro ac wg K hsz hW hf hK;clear hsz;have e35:=hf 35 qqd3;simp [slotFact,List.lookup] at e35;clear hf;go_simp;refine (toCluster_any d c _ (HR.out.below (HB.out.trans (hW.mono HB.out.size))) HF.out).mono ?_;rintro e w6 ⟨d3,rfl,ho,hb6⟩;exact hK _ _ hb6 ⟨d3,rfl,ho.row⟩
 refine' Grow.stepC (.bool true) rfl ?_ ?_
 ·refine Obl.plain rfl ?_;intro ac wg K hsz hW hf hK;clear hsz;have e34:=hf 34 qqd3;simp [slotFact,List.lookup] at e34;have e36:=hf 36 qqd3;simp [slotFact,List.lookup] at e36;obtain ⟨d3,e36,hrow⟩:=e36;clear hf;go_simp;refine (eqCluster_any d2 d3 c _ (HO2.out.row.below hW) hrow).mono ?_;rintro e w6 ⟨rfl,hb6⟩;exact hK _ _ hb6 rfl
 refine' Grow.stepC _ rfl ?_ ?_;rotate_left 1
 ·refine Obl.plain rfl ?_;intro ac wg K hsz hW hf hK;clear hsz;have e37:=hf 37 qqd3;simp [slotFact,List.lookup] at e37;clear hf;exact qqa15
 refine Grow.done ?_;intro q wz hW hf;simp only [List.forall_mem_cons] at hf;obtain ⟨h38,-⟩:=hf;have hb:=hW;refine hK0 _ _ ?_;simp only [putsAll,List.foldr,Act.put,List.setIfInBounds_toArray,List.set_cons_zero,List.set_cons_succ,h38];clear hK0;replace Bk:=upK Bk hb;replace Ba:=upK Ba hb;replace Bx:=upK Bx hb;replace Bg:=upK Bg hb;replace HY:=hidK (HY.out.below hb);replace HO2:=hidK (HO2.out.below hb);replace HO1:=hidK (HO1.out.below hb);replace HB:=upB HB hb;clear hb;clear hW;obtain ⟨rk,hrk⟩ : ∃ r : Int,r = mkCn 1 c.raw:=⟨_,rfl⟩;have hrk0 : decide (rk < 0) = false:=by rw [decide_eq_false_iff_not,hrk];have:=mkCn_ge 1 c.raw;omega
 obtain ⟨k0,k1,k2,k3,k4,k5⟩:=cs6 Bk.out;have ltk_7:=lt_of_some Bk.out;obtain ⟨a0,a1,a2,a3,a4,a5,a6,a7⟩:=cs8 Ba.out;have lta_7:=lt_of_some Ba.out;obtain ⟨x0,x1,x2,x3,x4,x5⟩:=cs6 Bx.out;have ltx_7:=lt_of_some Bx.out;obtain ⟨g0,g1,g2,g3,g4,g5,g6,g7⟩:=cs8 Bg.out;have ltg_7:=lt_of_some Bg.out;go_wp2_with fail;refine (markCluster_any d2 c 1 _ wz HO2.out (fun k s => by have s2:=s.2;have q9:=HY.out.le;have q8:=lt_of_some Bx.out;have q3:=HQ3.out;have q4:=HQ4.out;have q5:=HQ5.out;omega) qqd3 HF.out.marks).mono ?_;rintro e w8 ⟨rfl,ho,hk⟩;clear k0 k1 k2 k3 k4 k5 ltk_7 a0 a1 a2 a3 a4 a5 a6 a7 lta_7 x0 x1 x2 x3 x4 x5 ltx_7 g0 g1 g2 g3 g4 g5 g6 g7 ltg_7;obtain ⟨Ck,Ca,Cx,Cg⟩:=qqb15;have HB8:=hidK (HB.out.trans (hk.low (X:=w.heap.size) HB.out.size (fun k s => by have s1:=s.1;have q3:=HQ3.out;have q4:=HQ4.out;have q5:=HQ5.out;omega)));have CHY:=hidK (HY.out.kept hk (fun k s => by have s1:=s.1;have q3:=HQ3.out;have q4:=HQ4.out;have q5:=HQ5.out;omega));have CHO1:=hidK (HO1.out.kept hk (fun k s s' => by have s1:=s.1;have s2:=s.2;have t1:=s'.1;have t2:=s'.2;have q3:=HQ3.out;have q4:=HQ4.out;have q5:=HQ5.out;omega));clear HB HY hk HO2 HO1 Bk Ba Bx Bg;have HB:=HB8;clear HB8;have HY:=CHY;clear CHY;have HO1:=CHO1;clear CHO1;have Bk:=Ck;clear Ck;have Ba:=Ca;clear Ca;have Bx:=Cx;clear Cx;have Bg:=Cg;clear Cg;clear ho;rw [← hrk];clear hrk;obtain ⟨k0,k1,k2,k3,k4,k5⟩:=cs6 Bk.out;have ltk_8:=lt_of_some Bk.out;obtain ⟨a0,a1,a2,a3,a4,a5,a6,a7⟩:=cs8 Ba.out;have lta_8:=lt_of_some Ba.out;obtain ⟨x0,x1,x2,x3,x4,x5⟩:=cs6 Bx.out;have ltx_8:=lt_of_some Bx.out;obtain ⟨g0,g1,g2,g3,g4,g5,g6,g7⟩:=cs8 Bg.out;have ltg_8:=lt_of_some Bg.out;go_wp2_with fail;refine (eqCout_any dg1 dg0 o _ (HO1.out.row) (R0.out.below HY.out.out)).mono ?_;rintro e w9 ⟨rfl,hb⟩;clear k0 k1 k2 k3 k4 k5 ltk_8 a0 a1 a2 a3 a4 a5 a6 a7 lta_8 x0 x1 x2 x3 x4 x5 ltx_8 g0 g1 g2 g3 g4 g5 g6 g7 ltg_8;replace Bk:=upK Bk hb;replace Ba:=upK Ba hb;replace Bx:=upK Bx hb;replace Bg:=upK Bg hb;replace HY:=hidK (HY.out.below hb);replace HO1:=hidK (HO1.out.below hb);replace HB:=upB HB hb;clear hb;clear hrk0;obtain ⟨k0,k1,k2,k3,k4,k5⟩:=cs6 Bk.out;have ltk_9:=lt_of_some Bk.out;obtain ⟨a0,a1,a2,a3,a4,a5,a6,a7⟩:=cs8 Ba.out;have lta_9:=lt_of_some Ba.out;obtain ⟨x0,x1,x2,x3,x4,x5⟩:=cs6 Bx.out;have ltx_9:=lt_of_some Bx.out;obtain ⟨g0,g1,g2,g3,g4,g5,g6,g7⟩:=cs8 Bg.out;have ltg_9:=lt_of_some Bg.out;go_wp2_with fail;refine (markCout_any dg1 o 1 _ _ HO1.out (fun k s => by have s2:=s.2;have q9:=HB.out.size;have q8:=HY.out.le;have q7:=lt_of_some Bg.out;have q3:=HQ3.out;have q4:=HQ4.out;have q5:=HQ5.out; omega) qqd3 hlz).mono ?_;rintro e w10 ⟨rfl,ho,hk⟩;clear k0 k1 k2 k3 k4 k5 ltk_9 a0 a1 a2 a3 a4 a5 a6 a7 lta_9 x0 x1 x2 x3 x4 x5 ltx_9 g0 g1 g2 g3 g4 g5 g6 g7 ltg_9;obtain ⟨Ck,Ca,Cx,Cg⟩:=qqb15;have HB10:=hidK (HB.out.trans (hk.low (X:=w.heap.size) HB.out.size (fun k s => by have s1:=s.1;have q3:=HQ3.out;have q4:=HQ4.out;have q5:=HQ5.out;omega)));have CHY:=hidK (HY.out.kept hk (fun k s => by have s1:=s.1;have q3:=HQ3.out;have q4:=HQ4.out;have q5:=HQ5.out;omega))
 clear HB HY hk HO1 Bk Ba Bx Bg;have HB:=HB10;clear HB10;have HY:=CHY;clear CHY;have Bk:=Ck;clear Ck;have Ba:=Ca;clear Ca;have Bx:=Cx;clear Cx;have Bg:=Cg;clear Cg;have HM1:=hidK ho;clear ho;rw [← HMM.out];obtain ⟨k0,k1,k2,k3,k4,k5⟩:=cs6 Bk.out;have ltk_10:=lt_of_some Bk.out;obtain ⟨a0,a1,a2,a3,a4,a5,a6,a7⟩:=cs8 Ba.out;have lta_10:=lt_of_some Ba.out;obtain ⟨x0,x1,x2,x3,x4,x5⟩:=cs6 Bx.out;have ltx_10:=lt_of_some Bx.out;obtain ⟨g0,g1,g2,g3,g4,g5,g6,g7⟩:=cs8 Bg.out;have ltg_10:=lt_of_some Bg.out;go_wp2_with fail;refine (HH.out _ HM1.out.row).mono ?_;rintro e w11 ⟨rfl,hb⟩;clear k0 k1 k2 k3 k4 k5 ltk_10 a0 a1 a2 a3 a4 a5 a6 a7 lta_10 x0 x1 x2 x3 x4 x5 ltx_10 g0 g1 g2 g3 g4 g5 g6 g7 ltg_10;replace Bk:=upK Bk hb;replace Ba:=upK Ba hb;replace Bx:=upK Bx hb;replace Bg:=upK Bg hb;replace HY:=hidK (HY.out.below hb);replace HM1:=hidK (HM1.out.below hb);replace HB:=upB HB hb;clear hb;obtain ⟨k0,k1,k2,k3,k4,k5⟩:=cs6 Bk.out;have ltk_11:=lt_of_some Bk.out;go_wp2_with fail;refine (toCluster_any d c _ (HR.out.below HB.out) HF.out).mono ?_;rintro e w12 ⟨d4,rfl,ho,hb⟩;clear k0 k1 k2 k3 k4 k5 ltk_11;replace Bk:=upK Bk hb;replace Ba:=upK Ba hb;replace Bx:=upK Bx hb;replace Bg:=upK Bg hb;replace HY:=hidK (HY.out.below hb);replace HM1:=hidK (HM1.out.below hb);replace HB:=upB HB hb;clear hb;have HO:=hidK ho.row;clear ho;go_wp2_with fail;refine (ievict_any d4 c t E _ HO.out (HE.out.below HB.out)).mono ?_;rintro e w13 ⟨dg2,o2,rfl,hI,ho,hb⟩;obtain rfl:=HIS.out.same hI;clear hI HO;have HR2:=hidK ho.row;clear ho;replace Bk:=upK Bk hb;replace Ba:=upK Ba hb;replace Bx:=upK Bx hb;replace Bg:=upK Bg hb;replace HY:=hidK (HY.out.below hb);replace HM1:=hidK (HM1.out.below hb);replace HB:=upB HB hb;clear hb;obtain ⟨k0,k1,k2,k3,k4,k5⟩:=cs6 Bk.out;have ltk_13:=lt_of_some Bk.out;obtain ⟨a0,a1,a2,a3,a4,a5,a6,a7⟩:=cs8 Ba.out;have lta_13:=lt_of_some Ba.out;obtain ⟨x0,x1,x2,x3,x4,x5⟩:=cs6 Bx.out;have ltx_13:=lt_of_some Bx.out;obtain ⟨g0,g1,g2,g3,g4,g5,g6,g7⟩:=cs8 Bg.out;have ltg_13:=lt_of_some Bg.out;go_wp2_with fail;refine (eqCout_any dg2 dg0 o _ (HR2.out.below (below1 _ _)) (R0.out.below (HY.out.below (below1 _ _)).out)).mono ?_;rintro e w14 ⟨rfl,hb⟩;clear k0 k1 k2 k3 k4 k5 ltk_13 a0 a1 a2 a3 a4 a5 a6 a7 lta_13 x0 x1 x2 x3 x4 x5 ltx_13 g0 g1 g2 g3 g4 g5 g6 g7 ltg_13;obtain ⟨HA0,hbx⟩:=slots1 hb;replace Bk:=upK Bk hbx;replace Ba:=upK Ba hbx;replace Bx:=upK Bx hbx;replace Bg:=upK Bg hbx;have Bh:=hidK HA0;replace HY:=hidK (HY.out.below hbx);replace HM1:=hidK (HM1.out.below hbx);replace HB:=upB HB hbx;clear hb hbx HA0;obtain ⟨k0,k1,k2,k3,k4,k5⟩:=cs6 Bk.out;have ltk_14:=lt_of_some Bk.out;obtain ⟨g0,g1,g2,g3,g4,g5,g6,g7⟩:=cs8 Bg.out;have ltg_14:=lt_of_some Bg.out;go_wp2_with fail;refine (HH.out _ HM1.out.row).mono ?_;rintro e w15 ⟨rfl,hb⟩;clear k0 k1 k2 k3 k4 k5 ltk_14 g0 g1 g2 g3 g4 g5 g6 g7 ltg_14;replace Bk:=upK Bk hb;replace Ba:=upK Ba hb;replace Bx:=upK Bx hb;replace Bg:=upK Bg hb;replace Bh:=upK Bh hb;replace HY:=hidK (HY.out.below hb);replace HM1:=hidK (HM1.out.below hb);replace HB:=upB HB hb
 clear hb;go_wp2_with fail;go_ret;exact ⟨rfl,HB.out⟩

set_option linter.unusedVariables false in
theorem fnExactEvict_walk (a1 : Option Addr) (l1 y1 : Nat) (ns : List Nd) (a2 : Option Addr) (l2 y2 : Nat) (ks : List Kd) (a3 : Option Addr) (l3 y3 : Nat) (vs : List Vd) (a4 : Option Addr) (l4 y4 : Nat) (xs : List Xd) (a5 : Option Addr) (l5 y5 : Nat) (ps : List Pd) (now : Int) (t : ByteArray) (w : World)
  (h1 : RRow w a1 l1 y1 7 (ns.map ndF)) (h2 : RRow w a2 l2 y2 4 (ks.map kdF)) (h3 : RRow w a3 l3 y3 8 (vs.map vdF)) (h4 : RRow w a4 l4 y4 5 (xs.map xdF)) (h5 : RRow w a5 l5 y5 6 (ps.map pdF)) (_ : (Lit.int .i64 now).wf = true) (ht : t.size ≤ maxLen) (hG : ∃ E,Ers w E) :
  Calls Tryz.prog 4 #[.agg #[.slice a1 l1 y1,.slice a2 l2 y2,.slice a3 l3 y3,.slice a4 l4 y4,.slice a5 l5 y5,.int .i64 now],.string t] w fun e w' => e = .returned (.bool true) ∧ Below w.heap.size w w' :=
 by obtain ⟨E,hG⟩:=hG;exact evict_walk ⟨a1,l1,y1,a2,l2,y2,a3,l3,y3,a4,l4,y4,a5,l5,y5⟩ ⟨ns,ks,vs,xs,ps,now⟩ t E w ⟨h1,h2,h3,h4,h5⟩ ht hG

end Go.Proofs.YtpibkpofdbjdaaaGreatDoor

namespace Go.Proofs.YtpibkpofdbjdaaaGreatDoor
open Go.RowKit
namespace Rc

theorem wordStar : "*" ++ "errors.errorString" = "*errors.errorString":=by decide
theorem wordRow (u : TypeId) (h : Tryz.prog.typeName? 3 u = some "*errors.errorString") : u = 188 :=
 typeName_ptr_named (nm:= "errors.errorString") (by rw [wordStar];kernel_rfl) qqd2 qqd3 u (by rw [wordStar];exact h)

theorem laid_words {P : Program} {W : World} {nm : String} {ti tp te ts : TypeId} {ms : Array (String × TypeId)} {f : Field} (hi : P.underlying ti = some (.interface ms)) (hrow : ∀ u,P.typeName? 3 u = some nm → u = tp)
  (hp : P.underlying tp = some (.pointer te)) (he : P.underlying te = some (.struct #[f])) (hft : f.type = ts) (hfo : f.offset = 0) (hs : P.underlying ts = some .string) (hc : P.cellsOf te = 1) (hcs : P.cellsOf ts = 1) :
  ∀ (l : List (String × List UInt8)) (ps : List MemPlace),(∀ x ∈ l,∃ g,P.globalNamed x.1 = some g ∧ (P.globals[g]?).map (·.type) = some ti) →
   DataW.LaidVars P W (l.map fun x => (x.1,.iface nm (.ptr (.agg [.lit (.string x.2)])))) ps → ps.Nodup →
   (∀ b off,MemPlace.cell b off ∈ ps → (∃ c t,W.heap[b]? = some (.cells c t (0,0))) ∧ ∀ u v,W.cell? ⟨b,off,none⟩ = some (.iface u v) → Value.okWide P W .any 0 u v) →
   ∃ E : Nat → Addr,(∀ (i : Nat) x,l[i]? = some x → W.var? P x.1 = some #[.iface tp (.pointer (some (E i)))] ∧ MemPlace.cell (E i).block (E i).off ∈ ps) ∧ ∀ i j,i < l.length → j < l.length → E i = E j → i = j
 | [],ps,_,_,_,_ => ⟨fun _ => ⟨0,0,none⟩,fun i x h => by simp at h,fun i j h => by simp at h⟩
 | x :: l,ps,hT,hv,hnd,hrows => by
  obtain ⟨g,t,cs,fuel,p,q,hg,ht,hvar,hd,hq,rfl⟩:=hv;obtain ⟨g',hg',ht'⟩:=hT x qqd6;obtain rfl:=Option.some.inj (hg.symm.trans hg');obtain rfl:=Option.some.inj (ht.symm.trans ht');have hsub : ∀ {y},y ∈ q → y ∈ MemPlace.row ⟨g,0,none⟩ cs.size ++ p ++ q:=fun h => List.mem_append_right _ h;obtain ⟨E,hE1,hE2⟩:=laid_words hi hrow hp he hft hfo hs hc hcs l q (fun y hy => hT y (by simp [hy])) hq (List.Nodup.sublist (List.sublist_append_right _ _) hnd) (fun b off hm => hrows b off (hsub hm));obtain ⟨l0⟩:=cs;have ok0 : ∀ u v,l0 = [.iface u v] → Value.okWide P W .any 0 u v:=fun u v e => by
   subst e;exact (hrows g 0 (by simp [MemPlace.row])).2 u v (by simpa using World.var?_cell hg hvar 0)
  obtain ⟨a0,s0,rfl,hc0,hs0,hz0,rfl⟩:=errorString_of_trod hi hrow hp he hft hfo hs hc hcs hd ok0;have ha : MemPlace.cell a0.block a0.off ∈ MemPlace.row a0 1:=by simp [MemPlace.row]
  have hdis : ∀ i,i < l.length → ¬ E i = a0:=fun i hi' e => by
   have h1:=(hE1 i _ (List.getElem?_eq_getElem hi')).2;rw [e] at h1;have h2:=(List.nodup_append.1 hnd).2.2 _ (List.mem_append_right _ ha) _ h1;exact h2 rfl
  refine ⟨fun i => match i with | 0 => a0 | i + 1 => E i,fun i y hy => ?_,fun i j hi' hj' e => ?_⟩
  ·cases i with
   | zero =>
    obtain rfl : x = y:=by simpa using hy
    exact ⟨hvar,List.mem_append_left _ (List.mem_append_right _ ha)⟩
   | succ i =>
    obtain ⟨h1,h2⟩:=hE1 i y (by simpa using hy);exact ⟨h1,hsub h2⟩
  ·cases i with
   | zero => cases j with
    | zero => rfl
    | succ j => exact absurd e.symm (hdis j (by simpa using hj'))
   | succ i => cases j with
    | zero => exact absurd e (hdis i (by simpa using hi'))
    | succ j => rw [hE2 i j (by simpa using hi') (by simpa using hj') e]

theorem vars_length {H : Type} {enc : TypeId × Value → H} {P : Program} {w : World} {sp : Nat → Bool} : ∀ (ns : List String) (gs : List (DataW H)) (ps : List MemPlace),DataW.TrodVars enc P w sp ns gs ps → gs.length = ns.length
 | [],[],_,_ => rfl
 | [],_ :: _,_,h => h.elim
 | _ :: _,[],_,h => h.elim
 | _ :: ns,_ :: gs,_,h => by
  obtain ⟨_,_,_,_,_,q,_,_,_,_,h1,_⟩:=h;simp [vars_length ns gs q h1]
theorem len10 {α : Type} : ∀ {l : List α},l.length = 10 → ∃ a b c d e f g h i j,l = [a,b,c,d,e,f,g,h,i,j]
 | [a,b,c,d,e,f,g,h,i,j],_ => ⟨a,b,c,d,e,f,g,h,i,j,rfl⟩

end Rc
end Go.Proofs.YtpibkpofdbjdaaaGreatDoor

namespace Go.Proofs.YtpibkpofdbjdaaaGreatDoor
open Go.RowKit Go.ChangeShapes Go.WideShapes Go.Deep

theorem list6 {α : Type} {l : List α} (h : l.length = 6) : ∃ x0 x1 x2 x3 x4 x5,l = [x0,x1,x2,x3,x4,x5]:=by
 match l,h with
 | [x0,x1,x2,x3,x4,x5],_ => exact ⟨_,_,_,_,_,_,rfl⟩
section
variable {H : Type} {enc : TypeId × Value → H} {P : Program} {w : World} {base : Nat} {spare : Nat → Bool} {held : Bool}

theorem open_aggN {r : Reach} {b0 : Nat} {t : TypeId} {fs : Array Field} {v : Value} {d : DataW H} {p : List MemPlace} (hs : P.underlying t = some (.struct fs)) (hone : oneCellFields P fs = true) (hC : P.cellsOf t = fs.size)
  (hv : Value.okWide P w r b0 t v) (h : DataW.Trod enc P w base spare held t v d p) :
  ∃ (cs : List Value) (n : Nat),v = .agg cs.toArray ∧ cs.length = fs.size ∧ ∀ (i : Nat) (f : Field),fs[i]? = some f → ∃ c y,cs[i]? = some c ∧ DataW.trod enc P w base spare held n f.type [c] = some y:=by
 obtain ⟨cs,rfl,hsz⟩:=okWide_struct hs hv;obtain ⟨fuel,hf⟩:=h;obtain ⟨xs,n,_,hx,hl,hlen,hf'⟩:=DataW.trod_struct hs hf;refine ⟨cs.toList,n,rfl,by rw [Array.length_toList];exact hsz.trans hC,fun i f hi => ?_⟩;obtain ⟨o,k⟩:=hone_of hone i f hi;have hlt : i < fs.size:=(Array.getElem?_eq_some_iff.1 hi).1;have hlc : i < cs.toList.length:=by rw [Array.length_toList,hsz,hC];exact hlt
 have g:=hf' i f hi;rw [o,k] at g;have e : ((Value.agg cs).cells.toList.drop i).take 1 = [cs.toList[i]'hlc]:=by
  show (cs.toList.drop i).take 1 = _;rw [List.drop_eq_getElem_cons hlc];rfl
 exact qqa105

theorem row_of_trod {t e : TypeId} {n : Nat} {c : Value} {y : DataW H × List MemPlace} (ht : P.underlying t = some (.slice e)) (he : P.underlying e = some .string) (hc : P.cellsOf e = 1)
  (h : DataW.trod enc P w base spare held n t [c] = some y) : ∃ a len cap zs,c = .slice a len cap ∧ TxRow w a len cap zs:=by
 rcases open_strs ht he hc h with ⟨hcs,_⟩ | ⟨a,len,cap,m,Sx,hcs,hb,hl,hm,hmm,_,hx⟩
 ·exact ⟨none,0,0,[],by simpa using hcs,rfl,Nat.le_refl _,by omega,fun j x hx => by simp at hx,Or.inl rfl⟩
 ·obtain ⟨hlm,hm'⟩:=qqb25;refine ⟨some a,len,cap,(List.range len).map Sx,by simpa using hcs,by simp,hl,hm',fun j x hj => ?_,?_⟩
  ·rw [List.getElem?_map] at hj;by_cases hjl : j < len
   ·rw [List.getElem?_range hjl] at hj;obtain rfl:=Option.some.inj hj;have:=(hx j qqd1).2;unfold maxLen at this;omega
   ·exact qqa55
  ·by_cases h0 : len = 0
   ·subst h0;exact Or.inl rfl
   right;obtain ⟨b,o,spot⟩:=a;have h0':=(hx 0 qqd1).1;have hspot : spot = none:=by simpa [Addr.add] using World.cell?_spot h0'
   subst hspot;refine ⟨b,o,rfl,?_,fun j x hj => ?_⟩
   ·rw [Addr.add_lit] at h0';rcases Nat.lt_or_ge b w.heap.size with h1 | h1
    ·exact h1
    ·simp [World.cell?,Array.getElem?_eq_none h1] at h0'
   ·rw [List.getElem?_map] at hj;by_cases hjl : j < len
    ·rw [List.getElem?_range hjl] at hj;obtain rfl:=Option.some.inj hj;have:=(hx j qqd1).1;rw [Addr.add_lit] at this;exact this
    ·exact qqa55
end

section
variable {H : Type} {enc : TypeId × Value → H} {w : World} {base : Nat} {spare : Nat → Bool} {held : Bool}

theorem open_aggC {P : Program} {n : Nat} {t : TypeId} {fs : Array Field} {cs : List Value} {x : DataW H × List MemPlace} (hs : P.underlying t = some (.struct fs)) (hone : oneCellFields P fs = true) (hC : P.cellsOf t = fs.size)
  (h : DataW.trod enc P w base spare held n t cs = some x) :
  ∃ (n : Nat),cs.length = fs.size ∧ ∀ (i : Nat) (f : Field),fs[i]? = some f → ∃ c y,cs[i]? = some c ∧ DataW.trod enc P w base spare held n f.type [c] = some y:=by
 obtain ⟨xs,n,_,hx,hl,hlen,hf'⟩:=DataW.trod_struct hs h;refine ⟨n,hl.trans hC,fun i f hi => ?_⟩;obtain ⟨o,k⟩:=hone_of hone i f hi;have hlt : i < fs.size:=(Array.getElem?_eq_some_iff.1 hi).1;have hlc : i < cs.length:=by rw [hl,hC];exact hlt
 have g:=hf' i f hi;rw [o,k] at g;have e : (cs.drop i).take 1 = [cs[i]'hlc]:=by
  rw [List.drop_eq_getElem_cons hlc];rfl
 exact qqa105

end

end Go.Proofs.YtpibkpofdbjdaaaGreatDoor
