import Derived.Test.YtkecljccapjkpaaGreatDoorX4
import Derived.Test.YtkecljccapjkpaaGreatDoorRows
import Derived.WalkKit
import Derived.WalkSpells
import Derived.OwnWalk
import Derived.Outline
import Derived.Lib.BufferWrite
import Derived.Laws.CopyOwn
import Derived.Laws.IdiomStrings
import Derived.Deep.CutRange
import Derived.Stop.LaidErr
import Derived.ChangeVars
import Derived.Deep.Strs
import Derived.Deep.Fields
import Derived.WideShapes
import Derived.ChangeArms
/-
 A copy of a cluster, as the specification makes it.
-/
set_option maxRecDepth 100000
set_option maxHeartbeats 12800000
namespace Go.Proofs.YtkecljccapjkpaaGreatDoor
open Go.RowKit
namespace Rc
open Mk

theorem slots2n {w w' : World} {o p : Obj} (h : Below (w.heap.size + 1 + 1) ((w.alloc o).alloc p) w') : w'.heap[w.heap.size]? = some o ∧ w'.heap[w.heap.size + 1]? = some p ∧ Below w.heap.size w w':=slots2 (by rw [size1,size1];exact h)
theorem news_alloc_at (w : World) (n : Nat) (hn : w.heap.size = n) (vs : List Value) (T : TypeId) : ∀ (j : Nat) u,vs[j]? = some u → (w.alloc (.cells vs.toArray T)).cell? ((⟨n,0,none⟩ : Addr).add j) = some u:=by
 subst hn;exact news_alloc w vs T
theorem put6 {w : World} {b : Nat} {T : TypeId} {u0 u1 u2 u3 u4 u5 v0 v1 v2 v3 v4 v5 : Value} (h : w.heap[b]? = some (.cells #[u0,u1,u2,u3,u4,u5] T (0,0))) :
  ((((((w.setCell ⟨b,0,none⟩ v0).setCell ⟨b,1,none⟩ v1).setCell ⟨b,2,none⟩ v2).setCell ⟨b,3,none⟩ v3).setCell ⟨b,4,none⟩ v4).setCell ⟨b,5,none⟩ v5).heap[b]? = some (.cells #[v0,v1,v2,v3,v4,v5] T (0,0)) :=
 block_set (block_set (block_set (block_set (block_set (block_set h v0) v1) v2) v3) v4) v5
theorem put6_ne {w : World} {b k : Nat} {v0 v1 v2 v3 v4 v5 : Value} (hk : ¬ k = b) :
  ((((((w.setCell ⟨b,0,none⟩ v0).setCell ⟨b,1,none⟩ v1).setCell ⟨b,2,none⟩ v2).setCell ⟨b,3,none⟩ v3).setCell ⟨b,4,none⟩ v4).setCell ⟨b,5,none⟩ v5).heap[k]? = w.heap[k]?:=by
 rw [Below.heap_setCell _ _ _ _ hk,Below.heap_setCell _ _ _ _ hk,Below.heap_setCell _ _ _ _ hk,Below.heap_setCell _ _ _ _ hk,Below.heap_setCell _ _ _ _ hk,Below.heap_setCell _ _ _ _ hk]
theorem ROwn.away {w : World} {a : Option Addr} {len cap m : Nat} {T T' : TypeId} {rs : List (List Fv)} {S : Nat → Prop} (h : ROwn w a len cap m T rs S) {b : Nat} {cs : Array Value} (hb : w.heap[b]? = some (.cells cs T' (0,0))) (h1 : ¬ T' = T) (h2 : ¬ T' = 9) : ROwn w a len cap m T rs (fun k => S k ∧ ¬ k = b):=by
 obtain ⟨a1,a2,a3,a4⟩:=h;refine ⟨a1,a2,a3,a4.imp id ?_⟩;rintro ⟨g,cur,H,e,h5⟩;refine ⟨g,cur,H,e,h5.blk,⟨h5.inS,fun q => ?_⟩,h5.len,fun j r hj i f hi => ?_,h5.inj⟩
 ·subst q;have:=h5.blk;rw [hb] at this
  cases this
  exact h1 rfl
 ·obtain ⟨v,q1,q2⟩:=h5.cell j r hj i f hi;refine ⟨v,q1,?_⟩
  cases f with
  | l zs =>
   obtain ⟨a',l',c',k1,k2,k3,k4,k5,k6⟩:=q2;refine ⟨a',l',c',k1,k2,k3,k4,k5,k6.imp id ?_⟩;rintro ⟨z1,z2,z3,cu,z4,z5⟩;refine ⟨z1,⟨z2,fun q => ?_⟩,z3,cu,z4,z5⟩;rw [q] at z4;rw [hb] at z4
   cases z4
   exact h2 rfl
  | _ => exact q2
theorem owns_set {w : World} {base n m : Nat} {T T' : TypeId} {v u : Value} {xs : List Value} {b i : Nat} {cs : Array Value} (h : w.ownsRow base T m v n xs) (hb : w.heap[b]? = some (.cells cs T' (0,0))) (hT : ¬ T' = T) : (w.setCell ⟨b,i,none⟩ u).ownsRow base T m v n xs:=by
 refine ⟨h.1,h.2.imp id ?_⟩;rintro ⟨g,cap,cur,h1,h2,h3,h4⟩;refine ⟨g,cap,cur,h1,h2,(Below.heap_setCell _ _ _ _ (fun e => ?_)).trans h3,h4⟩;subst e;rw [hb] at h3
 cases h3
 exact hT rfl
theorem VRecs.set {w : World} {S : Nat → Prop} {m : Nat} {rs : List (List Fv)} {vss : List (List Value)} {H : Nat → Nat → Nat} (h : VRecs w S m rs vss H) {b i : Nat} {cs : Array Value} {T' : TypeId} {u : Value} (hb : w.heap[b]? = some (.cells cs T' (0,0))) (hT : ¬ T' = 9) : VRecs (w.setCell ⟨b,i,none⟩ u) S m rs vss H :=
 h.keep (fun k cu _ q => Below.heap_setCell _ _ _ _ (fun e => by subst e;rw [hb] at q;cases q;exact hT rfl)) (fun _ _ s => s)
theorem KeptS.of_grown {S : Nat → Prop} {W w : World} {vb : Option Nat} (hg : W.grownBy w vb) (h : ∀ g,vb = some g → S g) : KeptS S W w:=⟨hg.os,hg.tape,hg.output,hg.size,fun k hk hn => hg.block k hk (fun e => hn (h k e.symm))⟩
theorem owns_slice {w : World} {base n m : Nat} {T : TypeId} {v : Value} {xs : List Value} (h : w.ownsRow base T m v n xs) : ∃ a l c,v = .slice a l c:=by
 rcases h.2 with ⟨rfl,_⟩ | ⟨g,cap,cur,rfl,_⟩
 ·exact ⟨_,_,_,rfl⟩
 ·exact ⟨_,_,_,rfl⟩
abbrev Cps (b : Nat) (X : World) : Nat → Prop:=fun k => k = b ∨ X.heap.size ≤ k
theorem cp_blk {X wr W w5 : World} {b3 k m : Nat} {T TC : TypeId} {v : Value} {xs : List Value} {cs : Array Value} (hO : wr.ownsRow X.heap.size T m v k xs) (hBo : wr.heap[b3]? = some (.cells cs TC (0,0))) (hb3 : b3 < X.heap.size) (hb : Below wr.heap.size wr W) (hg : W.grownBy w5 v.ownBlock) : w5.heap[b3]? = some (.cells cs TC (0,0)) :=
 (hg.block b3 (Nat.lt_of_lt_of_le (lt_of_some hBo) hb.size) (fun e => by have:=(hO.lt b3 e.symm).1;omega)).trans ((hb.block _ (lt_of_some hBo)).trans hBo)
theorem cp_step {X wr W w5 : World} {b3 k m f : Nat} {T TC : TypeId} {v v' : Value} {rs : List (List Fv)} {vss : List (List Value)} {H : Nat → Nat → Nat} {cs : Array Value} {r : List Fv} {vs : List Value} {hh : Nat} (hK : KeptS (Cps b3 X) X wr) (hO : wr.ownsRow X.heap.size T m v k vss.flatten) (hV : VRecs wr (fun k => X.heap.size ≤ k) m rs vss H) (hBo : wr.heap[b3]? = some (.cells cs TC (0,0))) (hb3 : b3 < X.heap.size)
  (hb : Below wr.heap.size wr W) (hown : w5.ownsRow X.heap.size T m v' (k + 1) (vss.flatten ++ vs)) (hg : W.grownBy w5 v.ownBlock) (hT : ¬ T = 9) (hTC : ¬ TC = T) (hTS : ¬ TC = 9) (hr : r.length = m) (hvs : vs.length = m) (hc : ∀ (i : Nat) f,r[i]? = some f → ∃ v,vs[i]? = some v ∧ f.Fr W hh (fun k => X.heap.size ≤ k) v) (hfr : ∀ (i : Nat) zs,r[i]? = some (.l zs) → zs ≠ [] → wr.heap.size ≤ hh)
  (h1 : ∀ (i i' : Nat) zs zs',r[i]? = some (.l zs) → zs ≠ [] → r[i']? = some (.l zs') → zs' ≠ [] → i = i') :
  KeptS (Cps b3 X) X (w5.setCell ⟨b3,f,none⟩ v') ∧ (w5.setCell ⟨b3,f,none⟩ v').ownsRow X.heap.size T m v' (k + 1) (vss ++ [vs]).flatten ∧ (∃ H',VRecs (w5.setCell ⟨b3,f,none⟩ v') (fun k => X.heap.size ≤ k) m (rs ++ [r]) (vss ++ [vs]) H') ∧ (w5.setCell ⟨b3,f,none⟩ v').heap[b3]? = some (.cells (cs.setIfInBounds f v') TC (0,0)):=by
 have hb5:=cp_blk hO hBo hb3 hb hg;refine ⟨?_,?_,⟨_,(hV.app hb (owns_below hO hb) hT hg hr hvs hc hfr h1).set hb5 hTS⟩,block_set hb5 v'⟩
 ·exact ((hK.trans (KeptS.of_below hb)).trans (KeptS.of_grown hg (fun g e => .inr (hO.lt g e).1))).set (.inl rfl)
 ·rw [List.flatten_append];refine owns_set ?_ hb5 hTC
  simpa using hown
structure ClFr (w : World) (d : Ad) (c : Cr) (S : Nat → Prop) : Prop where
 n : ROwn w d.a1 d.l1 d.c1 7 106 c.n S
 k : ROwn w d.a2 d.l2 d.c2 4 61 c.k S
 v : ROwn w d.a3 d.l3 d.c3 8 63 c.v S
 x : ROwn w d.a4 d.l4 d.c4 5 78 c.x S
 p : ROwn w d.a5 d.l5 d.c5 6 58 c.p S
def EmF (B : Nat) (T : TypeId) : Fact:=fun v w => ∃ b,v = .slice (some ⟨b,0,none⟩) 0 0 ∧ B ≤ b ∧ w.heap[b]? = some (.cells #[] T (0,0))
theorem EmF.mono (B : Nat) (T : TypeId) : Fact.Mono (EmF B T):=by
 rintro v w w' ⟨b,h1,h2,h3⟩ hb;exact ⟨b,h1,h2,(hb.block _ (lt_of_some h3)).trans h3⟩
def RwF (B len m : Nat) (T : TypeId) (rs : List (List Fv)) : Fact:=fun v w => ∃ a c,v = .slice a len c ∧ ROwn w a len c m T rs (fun k => B ≤ k)
theorem RwF.mono (B len m : Nat) (T : TypeId) (rs : List (List Fv)) : Fact.Mono (RwF B len m T rs):=by
 rintro v w w' ⟨a,c,h1,h2⟩ hb;exact ⟨a,c,h1,h2.below hb⟩
def CpF (B l2 l4 : Nat) (c : Cl) : Fact:=fun v w => ∃ a2 c2 a4 c4,v = .agg #[.slice none 0 0,.slice a2 l2 c2,.slice none 0 0,.slice a4 l4 c4,.slice none 0 0,.int .i64 c.now] ∧ ROwn w a2 l2 c2 4 61 (c.ks.map kdF) (fun k => B ≤ k) ∧ ROwn w a4 l4 c4 5 78 (c.xs.map xdF) (fun k => B ≤ k)
theorem CpF.mono (B l2 l4 : Nat) (c : Cl) : Fact.Mono (CpF B l2 l4 c):=by
 rintro v w w' ⟨a2,c2,a4,c4,h1,h2,h3⟩ hb;exact ⟨a2,c2,a4,c4,h1,h2.below hb,h3.below hb⟩
def FrF (B : Nat) : Fact:=fun v w => ∃ b,v = .pointer (some ⟨b,0,none⟩) ∧ B ≤ b ∧ w.heap[b]? = some (.cells #[.slice none 0 0,.slice none 0 0,.slice none 0 0,.slice none 0 0,.slice none 0 0,.int .i64 0] 36 (0,0))
theorem FrF.mono (B : Nat) : Fact.Mono (FrF B):=by
 rintro v w w' ⟨b,h1,h2,h3⟩ hb;exact ⟨b,h1,h2,(hb.block _ (lt_of_some h3)).trans h3⟩

def Rv (vb : Option Nat) (sp : Tmp) : Gi.Rs:=fun s w w' => match s with
 | none => w.grownBy w' vb
 | some t => if t = sp then w.grownBy w' vb else Below w.heap.size w w'
theorem grown_of_below {w w' : World} (vb : Option Nat) (h : Below w.heap.size w w') : w.grownBy w' vb:=⟨h.os,h.tape,h.output,h.size,fun k hk _ => h.block k hk⟩
theorem Rv.below {vb : Option Nat} {sp : Tmp} {s : Option Tmp} {w w' : World} (h : Rv vb sp s w w') (h1 : ¬ s = none) (h2 : ¬ s = some sp) : Below w.heap.size w w':=by
 cases s with
 | none => exact absurd rfl h1
 | some t =>
  simp only [Rv] at h;rw [if_neg (fun e => h2 (by rw [e]))] at h;exact h
theorem Rv.rel (vb : Option Nat) (sp : Tmp) : Gi.Rel (Rv vb sp) sp:=by
 refine ⟨fun w => grown_of_below vb (Below.refl _ _),fun {a b c} h k => ?_,fun h => World.grownBy.size h,fun w => grown_of_below vb (Below.refl _ _).drew,fun s {a b} h => ?_,fun s {a b} h1 h2 h => Rv.below h h1 h2⟩
 ·have h : World.grownBy a b vb:=h;have k : World.grownBy b c vb:=k;exact ⟨k.os.trans h.os,k.tape.trans h.tape,k.output.trans h.output,Nat.le_trans h.size k.size,fun i hi hn => (k.block i (Nat.lt_of_lt_of_le hi h.size) hn).trans (h.block i hi hn)⟩
 ·cases s with
  | none => exact h
  | some t =>
   show World.grownBy a b vb
   simp only [Rv] at h
   split at h
   ·exact h
   ·exact grown_of_below vb h
theorem Rv.other {vb : Option Nat} {sp t : Tmp} {w w' : World} (ht : ¬ t = sp) (h : Below w.heap.size w w') : Rv vb sp (some t) w w':=by
 show (if t = sp then w.grownBy w' vb else Below w.heap.size w w')
 rw [if_neg ht];exact h
theorem Rv.this {vb : Option Nat} {sp : Tmp} {w w' : World} (h : w.grownBy w' vb) : Rv vb sp (some sp) w w':=by
 show (if sp = sp then w.grownBy w' vb else Below w.heap.size w w')
 rw [if_pos rfl];exact h
theorem Rv.any {vb : Option Nat} {sp : Tmp} {s : Option Tmp} {w w' : World} (h : Rv vb sp s w w') : w.grownBy w' vb:=(Rv.rel vb sp).sub s h

theorem news_blk {w : World} {b : Nat} {vs : List Value} {T : TypeId} (h : w.heap[b]? = some (.cells vs.toArray T (0,0))) : ∀ (j : Nat) u,vs[j]? = some u → w.cell? ((⟨b,0,none⟩ : Addr).add j) = some u:=by
 intro j u hu;rw [Addr.add_lit,cellK h,Nat.zero_add]
 simpa using hu
def TvF (B : Nat) (x : Vd) : Gi.Fact:=fun u w _ _ => ∃ a l c,u = .agg #[.string x.n,.int .i64 x.c,.string x.z,.string x.k,.bool x.x,.string x.m,.bool x.y,.slice a l c] ∧ TOwn w a l c x.zs (fun k => B ≤ k)
def BsF (B : Nat) (x : Vd) : Gi.Fact:=fun u w _ _ => ∃ b a l c,u = .slice (some ⟨b,0,none⟩) 1 1 ∧ B ≤ b ∧ w.heap[b]? = some (.cells #[.string x.n,.int .i64 x.c,.string x.z,.string x.k,.bool x.x,.string x.m,.bool x.y,.slice a l c] 63 (0,0)) ∧ TOwn w a l c x.zs (fun k => B ≤ k)
def ApF (B k : Nat) (rs : List (List Fv)) (vss : List (List Value)) : Gi.Fact:=fun u w _ _ => ∃ H' vs,w.ownsRow B 63 8 u (k + 1) (vss ++ [vs]).flatten ∧ VRecs w (fun k => B ≤ k) 8 rs (vss ++ [vs]) H'
theorem TvF.mono {vb : Option Nat} {sp : Tmp} {ex : Gi.Ex} {d : Option Tmp} {B : Nat} {x : Vd} (hv : ∀ g,vb = some g → g < B) : Gi.Fact.Mono (Rv vb sp) ex d (TvF B x):=by
 rintro s _ _ _ v w w' l h ⟨a,l,c,h1,h2⟩ hb;have hb : w.grownBy w' vb:=(Rv.rel vb sp).sub s hb;exact ⟨a,l,c,h1,h2.keep (fun k hk s => hb.block k hk (fun e => by have s1 : B ≤ k:=s;have:=hv k e.symm;omega)) (fun _ _ s => s)⟩
theorem BsF.mono {vb : Option Nat} {sp : Tmp} {ex : Gi.Ex} {d : Option Tmp} {B : Nat} {x : Vd} (hv : ∀ g,vb = some g → g < B) : Gi.Fact.Mono (Rv vb sp) ex d (BsF B x):=by
 rintro s _ _ _ v w w' l h ⟨b,a,l,c,h1,h2,h3,h4⟩ hb;have hb : w.grownBy w' vb:=(Rv.rel vb sp).sub s hb;exact ⟨b,a,l,c,h1,h2,(hb.block _ (lt_of_some h3) (fun e => by have:=hv b e.symm;omega)).trans h3,h4.keep (fun k hk s => hb.block k hk (fun e => by have s1 : B ≤ k:=s;have:=hv k e.symm;omega)) (fun _ _ s => s)⟩
theorem ApF.mono {vb : Option Nat} {sp : Tmp} {ex : Gi.Ex} {B k : Nat} {rs : List (List Fv)} {vss : List (List Value)} : Gi.Fact.Mono (Rv vb sp) ex (some sp) (ApF B k rs vss):=by
 rintro s h1 h2 _ v w w' l h ⟨H',vs,h3,h4⟩ hb;have hb:=Rv.below hb h1 h2;exact ⟨H',vs,owns_below h3 hb,h4.below hb⟩

theorem scopyC_any (d : Ad) (c : Cl) (w : World) (hr : ClRow w d c.raw) (hs : Sm c) :
  Calls Tryz.prog 27 #[.agg #[.slice d.a1 d.l1 d.c1,.slice d.a2 d.l2 d.c2,.slice d.a3 d.l3 d.c3,.slice d.a4 d.l4 d.c4,.slice d.a5 d.l5 d.c5,.int .i64 c.now]] w fun e w' => ∃ d',e = .returned (.agg #[.slice d'.a1 d'.l1 d'.c1,.slice d'.a2 d'.l2 d'.c2,.slice d'.a3 d'.l3 d'.c3,.slice d'.a4 d'.l4 d'.c4,.slice d'.a5 d'.l5 d'.c5,.int .i64 c.now]) ∧ ClFr w' d' c.raw (fun k => w.heap.size ≤ k) ∧ Below w.heap.size w w':=by
 obtain ⟨a1,l1,y1,a2,l2,y2,a3,l3,y3,a4,l4,y4,a5,l5,y5⟩:=d;dsimp only;have HR:=hidK hr
 have hl1 : c.ns.length = l1:=by simpa using (show (c.ns.map ndF).length = l1 from hr.n.1)
 have hm1 : l1 ≤ 9223372036854775807:=Nat.le_trans hr.n.2.1 hr.n.2.2.1
 have hl2 : c.ks.length = l2:=by simpa using (show (c.ks.map kdF).length = l2 from hr.k.1)
 have hm2 : l2 ≤ 9223372036854775807:=Nat.le_trans hr.k.2.1 hr.k.2.2.1
 have hl3 : c.vs.length = l3:=by simpa using (show (c.vs.map vdF).length = l3 from hr.v.1)
 have hm3 : l3 ≤ 9223372036854775807:=Nat.le_trans hr.v.2.1 hr.v.2.2.1
 have hl4 : c.xs.length = l4:=by simpa using (show (c.xs.map xdF).length = l4 from hr.x.1)
 have hm4 : l4 ≤ 9223372036854775807:=Nat.le_trans hr.x.2.1 hr.x.2.2.1
 have hl5 : c.ps.length = l5:=by simpa using (show (c.ps.map pdF).length = l5 from hr.p.1)
 have hm5 : l5 ≤ 9223372036854775807:=Nat.le_trans hr.p.2.1 hr.p.2.2.1;clear hr;have HS:=hidK hs;clear hs;obtain ⟨i2,hi2⟩:=Option.map_eq_some_iff.1 infokd;obtain ⟨i4,hi4⟩:=Option.map_eq_some_iff.1 infoxd;obtain ⟨i1,hi1⟩:=Option.map_eq_some_iff.1 infond;obtain ⟨i3,hi3⟩:=Option.map_eq_some_iff.1 infovd;obtain ⟨i5,hi5⟩:=Option.map_eq_some_iff.1 infopd;have HI1:=hidK hi1;have HI2:=hidK hi2;have HI3:=hidK hi3;have HI4:=hidK hi4;have HI5:=hidK hi5;clear hi1 hi2 hi3 hi4 hi5;obtain ⟨W,hW0⟩ : ∃ W,W = (w.alloc (.cells #[.slice a1 l1 y1,.slice a2 l2 y2,.slice a3 l3 y3,.slice a4 l4 y4,.slice a5 l5 y5,.int .i64 c.now] 36)).alloc (.cells #[.slice none 0 0,.slice none 0 0,.slice none 0 0,.slice none 0 0,.slice none 0 0,.int .i64 0] 36):=⟨_,rfl⟩
 have HB : Hid (Below w.heap.size w W):=by rw [hW0];exact below2 _ _ _
 have Bk : Hid (W.heap[w.heap.size]? = some (.cells #[.slice a1 l1 y1,.slice a2 l2 y2,.slice a3 l3 y3,.slice a4 l4 y4,.slice a5 l5 y5,.int .i64 c.now] 36 (0,0))):=by rw [hW0];exact heap2_0 _ _ _
 have Br : Hid (W.heap[w.heap.size + 1]? = some (.cells #[.slice none 0 0,.slice none 0 0,.slice none 0 0,.slice none 0 0,.slice none 0 0,.int .i64 0] 36 (0,0))):=by rw [hW0];exact heap2_1 _ _ _
 have hWs : W.heap.size = w.heap.size + 1 + 1:=by rw [hW0];simp
 go_enter Tryz.func27,Tryz.ntmps27
 go_wp2_with fail;rw [← hW0];clear hW0;rename_i K0 hK0;refine wp_region_grow_last (by kernel_rfl) rfl rfl (by kernel_rfl) ?_;refine Grow.step (EmF W.heap.size 61) rfl (EmF.mono _ _) ?_ ?_
 ·refine Obl.plain rfl ?_;intro ac wg K hsz hW hf hK;clear hsz;clear hf;go_simp;exact hK _ _ (below1 _ _) ⟨_,rfl,hW.size,Array.getElem?_push_size⟩
 refine' Grow.stepC _ rfl ?_ ?_;rotate_left 1
 ·refine Obl.plain rfl ?_;intro ac wg K hsz hW hf hK;clear hsz;have e1:=hf 1 (by decide)
  simp [slotFact,List.lookup] at e1
  clear hf;go_simp;refine hK _ _ (Below.refl _ _) ?_;with_reducible rfl
 refine' Grow.stepC _ rfl ?_ ?_;rotate_left 1
 ·refine Obl.plain rfl ?_;intro ac wg K hsz hW hf hK;clear hsz;have e10:=hf 10 (by decide)
  simp [slotFact,List.lookup] at e10
  clear hf;obtain ⟨k0,k1,k2,k3,k4,k5⟩:=cs6 ((hW.block _ (lt_of_some Bk.out)).trans Bk.out);go_simp;refine hK _ _ (Below.refl _ _) ?_;with_reducible rfl
 refine Grow.step (RwF W.heap.size l2 4 61 (c.ks.map kdF)) rfl (RwF.mono _ _ _ _ _) ?_ ?_
 ·refine Obl.plain rfl ?_;intro ac wg K hsz hW hf hK;clear hsz;have e9:=hf 9 (by decide)
  simp [slotFact,List.lookup] at e9
  have e11:=hf 11 (by decide)
  simp [slotFact,List.lookup] at e11
  clear hf;obtain ⟨b0,e9,hB0,hg0⟩:=e9
  have hz : i2.zero = some (.agg #[.string ⟨#[]⟩,.bool false,.bool false,.string ⟨#[]⟩]) ∧ i2.size = 4 ∧ i2.bytes = 40:=by have:=HI2.out.2;simp only [Prod.mk.injEq] at this;exact this
  refine wp_copy0 (.tmp 9) (.tmp 11) 31 61 rfl i2 (.agg #[.string ⟨#[]⟩,.bool false,.bool false,.string ⟨#[]⟩]) Tryz.underlying31 HI2.out.1 hz.1 hz.2.1 hz.2.2 rfl (by decide) (by decide) (by simpa [Act.eval] using e9) hg0 (by simpa [Act.eval] using e11) (HR.out.k.below (HB.out.trans (hW.mono HB.out.size))) (map_flat kd_flat _) (show l2 ≤ 8 by have:=HS.out.k;omega) (by decide) ?_;intro a' c' w' hR hb6;have hsw:=hW.size
  exact hK _ _ hb6 ⟨a',c',rfl,hR.into (fun k _ s => by show W.heap.size ≤ k;rcases s with rfl | s <;> omega)⟩
 refine Grow.step (EmF W.heap.size 78) rfl (EmF.mono _ _) ?_ ?_
 ·refine Obl.plain rfl ?_;intro ac wg K hsz hW hf hK;clear hsz;clear hf;go_simp;exact hK _ _ (below1 _ _) ⟨_,rfl,hW.size,Array.getElem?_push_size⟩
 refine' Grow.stepC _ rfl ?_ ?_;rotate_left 1
 ·refine Obl.plain rfl ?_;intro ac wg K hsz hW hf hK;clear hsz;have e1:=hf 1 (by decide)
  simp [slotFact,List.lookup] at e1
  clear hf;go_simp;refine hK _ _ (Below.refl _ _) ?_;with_reducible rfl
 refine' Grow.stepC _ rfl ?_ ?_;rotate_left 1
 ·refine Obl.plain rfl ?_;intro ac wg K hsz hW hf hK;clear hsz;have e14:=hf 14 (by decide)
  simp [slotFact,List.lookup] at e14
  clear hf;obtain ⟨k0,k1,k2,k3,k4,k5⟩:=cs6 ((hW.block _ (lt_of_some Bk.out)).trans Bk.out);go_simp;refine hK _ _ (Below.refl _ _) ?_;with_reducible rfl
 refine Grow.step (RwF W.heap.size l4 5 78 (c.xs.map xdF)) rfl (RwF.mono _ _ _ _ _) ?_ ?_
 ·refine Obl.plain rfl ?_;intro ac wg K hsz hW hf hK;clear hsz;have e13:=hf 13 (by decide)
  simp [slotFact,List.lookup] at e13
  have e15:=hf 15 (by decide)
  simp [slotFact,List.lookup] at e15
  clear hf;obtain ⟨b0,e13,hB0,hg0⟩:=e13
  have hz : i4.zero = some (.agg #[.string ⟨#[]⟩,.int .i64 0,.string ⟨#[]⟩,.bool false,.string ⟨#[]⟩]) ∧ i4.size = 5 ∧ i4.bytes = 64:=by have:=HI4.out.2;simp only [Prod.mk.injEq] at this;exact this
  refine wp_copy0 (.tmp 13) (.tmp 15) 33 78 rfl i4 (.agg #[.string ⟨#[]⟩,.int .i64 0,.string ⟨#[]⟩,.bool false,.string ⟨#[]⟩]) Tryz.underlying33 HI4.out.1 hz.1 hz.2.1 hz.2.2 rfl (by decide) (by decide) (by simpa [Act.eval] using e13) hg0 (by simpa [Act.eval] using e15) (HR.out.x.below (HB.out.trans (hW.mono HB.out.size))) (map_flat xd_flat _) (show l4 ≤ 8 by have:=HS.out.x;omega) (by decide) ?_;intro a' c' w' hR hb6;have hsw:=hW.size
  exact hK _ _ hb6 ⟨a',c',rfl,hR.into (fun k _ s => by show W.heap.size ≤ k;rcases s with rfl | s <;> omega)⟩
 refine' Grow.stepC _ rfl ?_ ?_;rotate_left 1
 ·refine Obl.plain rfl ?_;intro ac wg K hsz hW hf hK;clear hsz;have e1:=hf 1 (by decide)
  simp [slotFact,List.lookup] at e1
  clear hf;go_simp;refine hK _ _ (Below.refl _ _) ?_;with_reducible rfl
 refine' Grow.stepC _ rfl ?_ ?_;rotate_left 1
 ·refine Obl.plain rfl ?_;intro ac wg K hsz hW hf hK;clear hsz;have e17:=hf 17 (by decide)
  simp [slotFact,List.lookup] at e17
  clear hf;obtain ⟨k0,k1,k2,k3,k4,k5⟩:=cs6 ((hW.block _ (lt_of_some Bk.out)).trans Bk.out);go_simp;refine hK _ _ (Below.refl _ _) ?_;with_reducible rfl
 refine Grow.step (CpF W.heap.size l2 l4 c) rfl (CpF.mono _ _ _ _) ?_ ?_
 ·refine Obl.plain rfl ?_;intro ac wg K hsz hW hf hK;clear hsz;have e12:=hf 12 (by decide)
  simp [slotFact,List.lookup] at e12
  have e16:=hf 16 (by decide)
  simp [slotFact,List.lookup] at e16
  have e18:=hf 18 (by decide)
  simp [slotFact,List.lookup] at e18
  clear hf;obtain ⟨p2,q2,e12,h12⟩:=e12;obtain ⟨p4,q4,e16,h16⟩:=e16;have H12:=hidK h12;have H16:=hidK h16;clear h12 h16;go_simp;exact hK _ _ (Below.refl _ _) ⟨p2,q2,p4,q4,rfl,H12.out,H16.out⟩
 refine Grow.step (FrF W.heap.size) rfl (FrF.mono _) ?_ ?_
 ·refine Obl.plain rfl ?_;intro ac wg K hsz hW hf hK;clear hsz;clear hf;go_simp;exact hK _ _ (below1 _ _) ⟨_,rfl,hW.size,Array.getElem?_push_size⟩
 refine Grow.done ?_;intro q wz hW hf;simp only [List.forall_mem_cons] at hf;obtain ⟨⟨b3,h3,hb3,hg3⟩,⟨p2,q2,p4,q4,h19,hR2,hR4⟩,-⟩:=hf;obtain ⟨t0,t1,t2,t3,t4,t5⟩:=cs6 hg3;have f0:=froK hg3 0;have f1:=froK hg3 1;have f2:=froK hg3 2;have f3:=froK hg3 3;have f4:=froK hg3 4;have f5:=froK hg3 5;have BoX:=hidK (put6 (v0:=.slice none 0 0) (v1:=.slice p2 l2 q2) (v2:=.slice none 0 0) (v3:=.slice p4 l4 q4) (v4:=.slice none 0 0) (v5:=.int .i64 c.now) hg3);have HWX : Hid (Below W.heap.size W ((((((wz.setCell ⟨b3,0,none⟩ (.slice none 0 0)).setCell ⟨b3,1,none⟩ (.slice p2 l2 q2)).setCell ⟨b3,2,none⟩ (.slice none 0 0)).setCell ⟨b3,3,none⟩ (.slice p4 l4 q4)).setCell ⟨b3,4,none⟩ (.slice none 0 0)).setCell ⟨b3,5,none⟩ (.int .i64 c.now))):=set_below hb3 (set_below hb3 (set_below hb3 (set_below hb3 (set_below hb3 (set_below hb3 hW)))));have R2 : Hid (ROwn ((((((wz.setCell ⟨b3,0,none⟩ (.slice none 0 0)).setCell ⟨b3,1,none⟩ (.slice p2 l2 q2)).setCell ⟨b3,2,none⟩ (.slice none 0 0)).setCell ⟨b3,3,none⟩ (.slice p4 l4 q4)).setCell ⟨b3,4,none⟩ (.slice none 0 0)).setCell ⟨b3,5,none⟩ (.int .i64 c.now)) p2 l2 q2 4 61 (c.ks.map kdF) (fun k => W.heap.size ≤ k ∧ ¬ k = b3)):=(hR2.away hg3 (by decide) (by decide)).keep (fun k hk s => put6_ne s.2) (fun k _ s => s);have R4 : Hid (ROwn ((((((wz.setCell ⟨b3,0,none⟩ (.slice none 0 0)).setCell ⟨b3,1,none⟩ (.slice p2 l2 q2)).setCell ⟨b3,2,none⟩ (.slice none 0 0)).setCell ⟨b3,3,none⟩ (.slice p4 l4 q4)).setCell ⟨b3,4,none⟩ (.slice none 0 0)).setCell ⟨b3,5,none⟩ (.int .i64 c.now)) p4 l4 q4 5 78 (c.xs.map xdF) (fun k => W.heap.size ≤ k ∧ ¬ k = b3)):=(hR4.away hg3 (by decide) (by decide)).keep (fun k hk s => put6_ne s.2) (fun k _ s => s);clear hg3 hR2 hR4 hW;intro K hK;rw [if_pos (by rfl)];simp only [putsAll,List.foldr,Act.put,List.setIfInBounds_toArray,List.set_cons_zero,List.set_cons_succ,h3,h19];simp only [List.getLast];go_simp;refine hK _ _ ?_
 refine hK0 _ _ ?_;clear hK hK0 K K0
 generalize ((((((wz.setCell ⟨b3,0,none⟩ (.slice none 0 0)).setCell ⟨b3,1,none⟩ (.slice p2 l2 q2)).setCell ⟨b3,2,none⟩ (.slice none 0 0)).setCell ⟨b3,3,none⟩ (.slice p4 l4 q4)).setCell ⟨b3,4,none⟩ (.slice none 0 0)).setCell ⟨b3,5,none⟩ (.int .i64 c.now)) = X at BoX HWX R2 R4 ⊢
 clear t0 t1 t2 t3 t4 t5 f0 f1 f2 f3 f4 f5;have HBX:=hidK (HB.out.trans (HWX.out.mono HB.out.size));replace Bk:=hidK ((HWX.out.block _ (lt_of_some Bk.out)).trans Bk.out);replace Br:=hidK ((HWX.out.block _ (lt_of_some Br.out)).trans Br.out);have hb3X : b3 < X.heap.size:=lt_of_some BoX.out;clear HB
 go_wp2
 go_loopw [4] (fun vi wr => ∃ (k : Nat) (vss : List (List Value)) (H : Nat → Nat → Nat) (v : Value),k ≤ l1 ∧ vi = .int .i64 k ∧ Hid (KeptS (Cps b3 X) X wr) ∧ Hid (wr.ownsRow X.heap.size 106 7 v k vss.flatten) ∧ Hid (VRecs wr (fun k => X.heap.size ≤ k) 7 ((c.ns.take k).map ndF) vss H) ∧ Hid (wr.heap[b3]? = some (.cells #[v,.slice p2 l2 q2,.slice none 0 0,.slice p4 l4 q4,.slice none 0 0,.int .i64 c.now] 36 (0,0)))) (fun vi _ => l1 - (intOf vi).toNat)
 case atStart => exact ⟨0,[],fun _ _ => 0,.slice none 0 0,by omega,rfl,KeptS.refl _ _,World.ownsRow_nil _ _ _ _,VRecs.nil _ _ _ _,BoX⟩
 case round =>
  obtain ⟨k,vss,H,v,hk,rfl,HK,HO,HV,Bo⟩:=hrel;have hXs:=HBX.out.size
  have HBW:=hidK (HBX.out.trans (HK.out.low (X:=w.heap.size) hXs (fun k s => by rcases s with rfl | s <;> omega)))
  have BkR:=hidK ((HK.out.block w.heap.size (by omega) (fun s => by rcases s with s | s <;> omega)).trans Bk.out)
  have hKs:=HK.out.size
  by_cases hlt : k < l1
  ·obtain ⟨b,o,x,rfl,hb0,hx,hat⟩:=nd_at HR.out.n hlt;obtain ⟨va,vl,vc,hvr,z0,z1,c0,c1,c2,c3,c4,c5,c6⟩:=nd_cells hat
   have hz8 : vl ≤ 8001:=by have h1:=hvr.1;have h2:=HS.out.ns k x hx;omega
   have HX:=hidK hx;have HT:=hidK hvr;have HZz0:=hidK z0;have HZz1:=hidK z1;clear hat hx hvr z0 z1;replace c0:=(cell_below HBW.out hb0).trans c0;replace c1:=(cell_below HBW.out hb0).trans c1;replace c2:=(cell_below HBW.out hb0).trans c2;replace c3:=(cell_below HBW.out hb0).trans c3;replace c4:=(cell_below HBW.out hb0).trans c4;replace c5:=(cell_below HBW.out hb0).trans c5;replace c6:=(cell_below HBW.out hb0).trans c6;have hbr : b < wr.heap.size:=Nat.lt_of_lt_of_le hb0 HBW.out.size;have hkr:=lt_of_some BkR.out;have hor:=lt_of_some Bo.out
   have hz : i1.zero = some (.agg #[.string ⟨#[]⟩,.string ⟨#[]⟩,.int .i64 0,.int .i64 0,.int .i64 0,.bool false,.slice none 0 0]) ∧ i1.size = 7 ∧ i1.bytes = 88:=by have:=HI1.out.2;simp only [Prod.mk.injEq] at this;exact this
   obtain ⟨k0,k1,k2,k3,k4,k5⟩:=cs6 BkR.out
   go_wp2_with (first | (at_builtin;refine wpList_texts rfl _ _ rfl (wr.heap.size + 1) rfl (heap2_1 _ _ _) va vl vc rfl x.zs (HT.out.below (HBW.out.trans ((below2 _ _ _).mono HBW.out.size))) hz8 ?_))
   intro a' l' c' w2 hT2 hb2;obtain ⟨hn2,-,hbx⟩:=slots2n hb2;obtain ⟨g,hg⟩:=hT2.fr
   have hs2 : wr.heap.size + 1 < w2.heap.size:=by have:=hb2.size;simp at this;omega
   have hsl : ∀ k,(k = wr.heap.size + 1 ∨ wr.heap.size + 1 + 1 ≤ k) → wr.heap.size + 1 ≤ k:=fun k s => by omega
   have hb4 : Below wr.heap.size wr ((w2.setCell ⟨wr.heap.size,6,none⟩ (.slice a' l' c')).alloc (.cells #[.string x.n,.string x.z,.int .i64 x.c,.int .i64 x.s,.int .i64 x.u,.bool x.d,.slice a' l' c'] 106)):=(set_below (Nat.le_refl _) hbx).alloc (by simp [World.setCell];omega) _;have HF4 : Hid (LFr ((w2.setCell ⟨wr.heap.size,6,none⟩ (.slice a' l' c')).alloc (.cells #[.string x.n,.string x.z,.int .i64 x.c,.int .i64 x.s,.int .i64 x.u,.bool x.d,.slice a' l' c'] 106)) g (fun k => X.heap.size ≤ k) x.zs (.slice a' l' c')):=hg.keep (fun cu _ q => (Below.heap_alloc _ _ _ (by simp [World.setCell];exact lt_of_some q)).trans (Below.heap_setCell _ _ _ _ (fun e => by subst e;rw [hn2] at q;cases q))) (fun _ s => by have:=hsl _ s;show X.heap.size ≤ g;omega)
   have HG : Hid (∀ zs : List ByteArray,x.zs = zs → zs ≠ [] → wr.heap.size ≤ g):=fun zs e hz => by subst e;have:=hsl _ (hg.lt hz).1;omega
   have HB4:=hidK hb4;have HO4:=hidK (owns_below HO.out hb4);obtain ⟨n0,n1,n2,n3,n4,n5,n6⟩:=cs7 hn2;have fn0:=froK hn2 0;have fn1:=froK hn2 1;have fn2:=froK hn2 2;have fn3:=froK hn2 3;have fn4:=froK hn2 4;have fn5:=froK hn2 5;have fn6:=froK hn2 6;have bo2:=(hbx.block _ hor).trans Bo.out;obtain ⟨o0,o1,o2,o3,o4,o5⟩:=cs6 bo2;have hor2 : b3 < w2.heap.size:=lt_of_some bo2
   have hne3 : ¬ b3 = wr.heap.size:=by omega
   clear hn2 hbx hT2 hg hb2 hsl hb4 bo2 k0 k1 k2 k3 k4 k5 c0 c1 c2 c3 c4 c5 c6
   go_wp2_with (first | (at_builtin;refine wpList_append_own _ rfl _ _ 30 rfl X.heap.size 106 i1 (.agg #[.string ⟨#[]⟩,.string ⟨#[]⟩,.int .i64 0,.int .i64 0,.int .i64 0,.bool false,.slice none 0 0]) 7 88 Tryz.underlying30 HI1.out.1 hz.1 hz.2.1 hz.2.2 rfl (by decide) _ _ _ rfl HO4.out ⟨w2.heap.size,0,none⟩ 1 1 [.string x.n,.string x.z,.int .i64 x.c,.int .i64 x.s,.int .i64 x.u,.bool x.d,.slice a' l' c'] rfl rfl ?c1 ?c2 ?c3 ?c4 ?c5 ?_))
   case c1 => exact news_alloc_at _ _ (by simp [World.setCell]) _ _
   case c2 => intro u hu;simp only [List.mem_cons,List.not_mem_nil,or_false] at hu;rcases hu with rfl | rfl | rfl | rfl | rfl | rfl | rfl <;> rfl
   case c3 => unfold maxLen;have:=HS.out.n;omega
   case c4 => have:=HS.out.n;omega
   case c5 => simp [World.setCell];omega
   rintro v' w5 hown5 hgrow -;obtain ⟨v1',v2',v3',rfl⟩:=owns_slice hown5;clear n0 fn0 n1 fn1 n2 fn2 n3 fn3 n4 fn4 n5 fn5 n6 fn6 o0 o1 o2 o3 o4 o5;have bo5:=cp_blk HO.out Bo.out hb3X HB4.out hgrow;obtain ⟨hs1,hs2',⟨H',hs3⟩,hs4⟩:=cp_step (f:=0) (r:=ndF x) (vs:=[.string x.n,.string x.z,.int .i64 x.c,.int .i64 x.s,.int .i64 x.u,.bool x.d,.slice a' l' c']) (hh:=g) HK.out HO.out HV.out Bo.out hb3X HB4.out hown5 hgrow (by decide) (by decide) (by decide) rfl rfl (nd_fr HZz0.out HZz1.out HF4.out) (fun i zs hi hz => HG.out zs (nd_l hi).2.symm hz) (fun i i' zs zs' h1 _ h2 _ => (nd_l h1).1.trans (nd_l h2).1.symm)
   have e1 : (c.ns.take (k + 1)).map ndF = (c.ns.take k).map ndF ++ [ndF x]:=by rw [List.take_add_one,HX.out];simp
   rw [← e1] at hs3;have HS1:=hidK hs1;have HS2:=hidK hs2';have HS3:=hidK hs3;have HS4:=hidK hs4;obtain ⟨o0,o1,o2,o3,o4,o5⟩:=cs6 bo5;have fo0:=froK bo5 0;have fo1:=froK bo5 1;have fo2:=froK bo5 2;have fo3:=froK bo5 3;have fo4:=froK bo5 4;have fo5:=froK bo5 5;clear hs1 hs2' hs3 hs4 bo5 hown5 hgrow e1
   go_wp2
   exact ⟨⟨k + 1,_,H',_,by omega,by go_num,HS1,HS2,HS3,HS4⟩,by simp [intOf];omega⟩
  ·have hkl : k = l1:=by omega
   have h5:=HV.out;rw [List.take_of_length_le (by omega)] at h5;obtain ⟨p1,q1,hv,hR⟩:=h5.own HO.out (by simp;omega) (by decide) (fun g hg => (HO.out.lt g hg).1)
   have hl5 : (c.ns.map ndF).length = l1:=by simpa using hl1
   rw [hl5] at hv hR;subst hv;have R1:=hidK (hR.away Bo.out (by decide) (by decide))
   replace R2:=hidK (R2.out.keep (fun k hk s => HK.out.block k hk (fun q9 => by rcases q9 with q9 | q9;exact s.2 q9;omega)) (fun _ _ s => s))
   replace R4:=hidK (R4.out.keep (fun k hk s => HK.out.block k hk (fun q9 => by rcases q9 with q9 | q9;exact s.2 q9;omega)) (fun _ _ s => s))
   replace Br:=hidK ((HK.out.block (w.heap.size + 1) (by omega) (fun s => by rcases s with s | s <;> omega)).trans Br.out)
   replace Bk:=BkR;replace BoX:=Bo;replace HBX:=HBW;have hb3X1 : b3 < wr.heap.size:=lt_of_some BoX.out;clear BkR Bo HBW h5 hR HV HO HK hl5 hkl hk hKs hXs
   generalize wr = X1 at *
   obtain ⟨k0,k1,k2,k3,k4,k5⟩:=cs6 Bk.out
   go_wp2
   clear k0 k1 k2 k3 k4 k5 hlt
   go_loopw [6] (fun vi wr => ∃ (k : Nat) (vss : List (List Value)) (H : Nat → Nat → Nat) (v : Value),k ≤ l3 ∧ vi = .int .i64 k ∧ Hid (KeptS (Cps b3 X1) X1 wr) ∧ Hid (wr.ownsRow X1.heap.size 63 8 v k vss.flatten) ∧ Hid (VRecs wr (fun k => X1.heap.size ≤ k) 8 ((c.vs.take k).map vdF) vss H) ∧ Hid (wr.heap[b3]? = some (.cells #[.slice p1 l1 q1,.slice p2 l2 q2,v,.slice p4 l4 q4,.slice none 0 0,.int .i64 c.now] 36 (0,0)))) (fun vi _ => l3 - (intOf vi).toNat)
   case atStart => exact ⟨0,[],fun _ _ => 0,.slice none 0 0,by omega,rfl,KeptS.refl _ _,World.ownsRow_nil _ _ _ _,VRecs.nil _ _ _ _,BoX⟩
   case round =>
    obtain ⟨k,vss,H,v,hk,rfl,HK,HO,HV,Bo⟩:=hrel;have hXs:=HBX.out.size
    have HBW:=hidK (HBX.out.trans (HK.out.low (X:=w.heap.size) hXs (fun k s => by rcases s with rfl | s <;> omega)))
    have BkR:=hidK ((HK.out.block w.heap.size (by omega) (fun s => by rcases s with s | s <;> omega)).trans Bk.out)
    have hKs:=HK.out.size
    by_cases hlt : k < l3
    ·obtain ⟨b,o,x,rfl,hb0,hx,hat⟩:=vd_at HR.out.v hlt;obtain ⟨va,vl,vc,hvr,z0,z2,z3,z5,c0,c1,c2,c3,c4,c5,c6,c7⟩:=vd_cells hat
     have hz8 : vl ≤ 8001:=by have h1:=hvr.1;have h2:=HS.out.vs k x hx;omega
     have HX:=hidK hx;have HT:=hidK hvr;have HZz0:=hidK z0;have HZz2:=hidK z2;have HZz3:=hidK z3;have HZz5:=hidK z5;clear hat hx hvr z0 z2 z3 z5;replace c0:=(cell_below HBW.out hb0).trans c0;replace c1:=(cell_below HBW.out hb0).trans c1;replace c2:=(cell_below HBW.out hb0).trans c2;replace c3:=(cell_below HBW.out hb0).trans c3;replace c4:=(cell_below HBW.out hb0).trans c4;replace c5:=(cell_below HBW.out hb0).trans c5;replace c6:=(cell_below HBW.out hb0).trans c6;replace c7:=(cell_below HBW.out hb0).trans c7;have hbr : b < wr.heap.size:=Nat.lt_of_lt_of_le hb0 HBW.out.size;have hkr:=lt_of_some BkR.out;have hor:=lt_of_some Bo.out
     have hz : i3.zero = some (.agg #[.string ⟨#[]⟩,.int .i64 0,.string ⟨#[]⟩,.string ⟨#[]⟩,.bool false,.string ⟨#[]⟩,.bool false,.slice none 0 0]) ∧ i3.size = 8 ∧ i3.bytes = 112:=by have:=HI3.out.2;simp only [Prod.mk.injEq] at this;exact this
     obtain ⟨k0,k1,k2,k3,k4,k5⟩:=cs6 BkR.out;have hvb : ∀ g,v.ownBlock = some g → g < wr.heap.size:=fun g hg => (HO.out.lt g hg).2;have hb0w : b < w.heap.size:=hb0;go_wp2_with fail;clear k0 k1 k2 k3 k4 k5;rename_i K0 hK0;refine Gi.wp_region_grow_last (R:=Rv v.ownBlock 59) (ex:=fun _ => none) (Rv.rel _ _) (by kernel_rfl) rfl rfl (by kernel_rfl) (by kernel_rfl) ?_;refine' Gi.Grow.stepC _ rfl ?_ ?_;rotate_left 1
     ·refine Gi.Obl.plain rfl ?_;intro ac wg K lo hi hsz hW hpr hf hap hK;clear hsz hap hpr;have hW : wr.grownBy wg v.ownBlock:=hW;have e3:=hf 3 (by decide)
      simp [Gi.slotFact,List.lookup] at e3
      clear hf;go_simp;refine hK _ _ (Rv.other (by decide) (Below.refl _ _)) ?_;with_reducible rfl
     refine' Gi.Grow.stepC _ rfl ?_ ?_;rotate_left 1
     ·refine Gi.Obl.plain rfl ?_;intro ac wg K lo hi hsz hW hpr hf hap hK;clear hsz hap hpr;have hW : wr.grownBy wg v.ownBlock:=hW;have e50:=hf 50 (by decide)
      simp [Gi.slotFact,List.lookup] at e50
      clear hf;obtain ⟨o0,o1,o2,o3,o4,o5⟩:=cs6 ((hW.block b3 hor (fun e => by have:=(HO.out.lt _ e.symm).1;omega)).trans Bo.out);go_simp;refine hK _ _ (Rv.other (by decide) (Below.refl _ _)) ?_;with_reducible rfl
     refine' Gi.Grow.stepC _ rfl ?_ ?_;rotate_left 1
     ·refine Gi.Obl.plain rfl ?_;intro ac wg K lo hi hsz hW hpr hf hap hK;clear hsz hap hpr;have hW : wr.grownBy wg v.ownBlock:=hW;have e1:=hf 1 (by decide)
      simp [Gi.slotFact,List.lookup] at e1
      clear hf;go_simp;refine hK _ _ (Rv.other (by decide) (Below.refl _ _)) ?_;with_reducible rfl
     refine' Gi.Grow.stepC _ rfl ?_ ?_;rotate_left 1
     ·refine Gi.Obl.plain rfl ?_;intro ac wg K lo hi hsz hW hpr hf hap hK;clear hsz hap hpr;have hW : wr.grownBy wg v.ownBlock:=hW;have e52:=hf 52 (by decide)
      simp [Gi.slotFact,List.lookup] at e52
      clear hf;obtain ⟨k0,k1,k2,k3,k4,k5⟩:=cs6 ((hW.block w.heap.size hkr (fun e => by have:=(HO.out.lt _ e.symm).1;omega)).trans BkR.out);go_simp;refine hK _ _ (Rv.other (by decide) (Below.refl _ _)) ?_;with_reducible rfl
     refine' Gi.Grow.stepC _ rfl ?_ ?_;rotate_left 1
     ·refine Gi.Obl.plain rfl ?_;intro ac wg K lo hi hsz hW hpr hf hap hK;clear hsz hap hpr;have hW : wr.grownBy wg v.ownBlock:=hW;have e6:=hf 6 (by decide)
      simp [Gi.slotFact,List.lookup] at e6
      clear hf;go_simp;refine hK _ _ (Rv.other (by decide) (Below.refl _ _)) ?_;with_reducible rfl
     refine' Gi.Grow.stepC _ rfl ?_ ?_;rotate_left 1
     ·refine Gi.Obl.plain rfl ?_;intro ac wg K lo hi hsz hW hpr hf hap hK;clear hsz hap hpr;have hW : wr.grownBy wg v.ownBlock:=hW;have e53:=hf 53 (by decide)
      simp [Gi.slotFact,List.lookup] at e53
      have e54:=hf 54 (by decide)
      simp [Gi.slotFact,List.lookup] at e54
      clear hf;go_simp;refine hK _ _ (Rv.other (by decide) (Below.refl _ _)) ?_;with_reducible rfl
     refine' Gi.Grow.stepC _ rfl ?_ ?_;rotate_left 1
     ·refine Gi.Obl.plain rfl ?_;intro ac wg K lo hi hsz hW hpr hf hap hK;clear hsz hap hpr;have hW : wr.grownBy wg v.ownBlock:=hW;have e55:=hf 55 (by decide)
      simp [Gi.slotFact,List.lookup] at e55
      clear hf;have c0g:=(World.cell?_of_block (hW.block b hbr (fun e => by have:=(HO.out.lt _ e.symm).1;omega))).trans c0;have c1g:=(World.cell?_of_block (hW.block b hbr (fun e => by have:=(HO.out.lt _ e.symm).1;omega))).trans c1;have c2g:=(World.cell?_of_block (hW.block b hbr (fun e => by have:=(HO.out.lt _ e.symm).1;omega))).trans c2;have c3g:=(World.cell?_of_block (hW.block b hbr (fun e => by have:=(HO.out.lt _ e.symm).1;omega))).trans c3;have c4g:=(World.cell?_of_block (hW.block b hbr (fun e => by have:=(HO.out.lt _ e.symm).1;omega))).trans c4;have c5g:=(World.cell?_of_block (hW.block b hbr (fun e => by have:=(HO.out.lt _ e.symm).1;omega))).trans c5;have c6g:=(World.cell?_of_block (hW.block b hbr (fun e => by have:=(HO.out.lt _ e.symm).1;omega))).trans c6;have c7g:=(World.cell?_of_block (hW.block b hbr (fun e => by have:=(HO.out.lt _ e.symm).1;omega))).trans c7;go_simp;refine hK _ _ (Rv.other (by decide) (Below.refl _ _)) ?_;with_reducible rfl
     refine Gi.Grow.step (TvF wr.heap.size x) rfl (TvF.mono hvb) ?_ ?_
     ·refine Gi.Obl.plain rfl ?_;intro ac wg K lo hi hsz hW hpr hf hap hK;clear hsz hap hpr;have hW : wr.grownBy wg v.ownBlock:=hW;have e56:=hf 56 (by decide)
      simp [Gi.slotFact,List.lookup] at e56
      clear hf;have hBg:=HBW.out.grown hW HBW.out.size (fun g hg => by have:=(HO.out.lt g hg).1;omega);go_simp;refine (Ap.scopy_any x.n x.c x.z x.k x.x x.m x.y va vl vc x.zs _ (HT.out.below hBg) hz8).mono ?_;rintro e w6 ⟨a',l',c',rfl,ho1,ho2,hb6⟩;have hws:=hW.size;exact hK _ _ (Rv.other (by decide) hb6) ⟨a',l',c',rfl,TOwn.into ⟨ho1,ho2⟩ (fun k _ s => Nat.le_trans hws s)⟩
     refine Gi.Grow.step (BsF wr.heap.size x) rfl (BsF.mono hvb) ?_ ?_
     ·refine Gi.Obl.plain rfl ?_;intro ac wg K lo hi hsz hW hpr hf hap hK;clear hsz hap hpr;have hW : wr.grownBy wg v.ownBlock:=hW;have e57:=hf 57 (by decide)
      simp [Gi.slotFact,List.lookup] at e57
      clear hf;obtain ⟨a',l',c',e57,ho⟩:=e57;have HO7:=hidK ho;clear ho;go_simp;exact hK _ _ (Rv.other (by decide) (below1 _ _)) ⟨_,a',l',c',rfl,hW.size,Array.getElem?_push_size,HO7.out.below (below1 _ _)⟩
     refine Gi.Grow.step (ApF X1.heap.size k ((c.vs.take (k + 1)).map vdF) vss) rfl (ApF.mono) ?_ ?_
     ·refine Gi.Obl.plain rfl ?_;intro ac wg K lo hi hsz hW hpr hf hap hK;clear hsz hap;have hW : wr.grownBy wg v.ownBlock:=hW;have e51:=hf 51 (by decide)
      simp [Gi.slotFact,List.lookup] at e51
      have e58:=hf 58 (by decide)
      simp [Gi.slotFact,List.lookup] at e58
      clear hf;have hbW : Below wr.heap.size wr wg:=hpr rfl;clear hpr;obtain ⟨b5,a',l',c',e58,hb5,hg5,ho5⟩:=e58;obtain ⟨g,hg⟩:=ho5.fr;have hws:=hW.size
      refine wp_append_own wg (.tmp 51) (.tmp 58) 32 rfl X1.heap.size 63 i3 (.agg #[.string ⟨#[]⟩,.int .i64 0,.string ⟨#[]⟩,.string ⟨#[]⟩,.bool false,.string ⟨#[]⟩,.bool false,.slice none 0 0]) 8 112 Tryz.underlying32 HI3.out.1 hz.1 hz.2.1 hz.2.2 rfl (by decide) v k vss.flatten (by simpa [Act.eval] using e51) (owns_below HO.out hbW) ⟨b5,0,none⟩ 1 1 [.string x.n,.int .i64 x.c,.string x.z,.string x.k,.bool x.x,.string x.m,.bool x.y,.slice a' l' c'] (by simpa [Act.eval] using e58) rfl (news_blk hg5) (by intro u hu;simp only [List.mem_cons,List.not_mem_nil,or_false] at hu;rcases hu with rfl | rfl | rfl | rfl | rfl | rfl | rfl | rfl <;> rfl) (by unfold maxLen;have:=HS.out.v;omega) (by have:=HS.out.v;omega) (by omega) ?_
      intro v' w' hown hgr _;have hV:=HV.out.app (r:=vdF x) (vs:=[.string x.n,.int .i64 x.c,.string x.z,.string x.k,.bool x.x,.string x.m,.bool x.y,.slice a' l' c']) (hh:=g) hbW (owns_below HO.out hbW) (by decide) hgr rfl rfl (vd_fr HZz0.out HZz2.out HZz3.out HZz5.out (hg.keep (S':=fun k => X1.heap.size ≤ k) (fun cu _ q => rfl) (fun _ s => by have s1 : wr.heap.size ≤ g:=s;show X1.heap.size ≤ g;omega))) (fun i zs hi hz => by obtain ⟨_,rfl⟩:=vd_l hi;exact (hg.lt hz).1) (fun i i' zs zs' h1 _ h2 _ => (vd_l h1).1.trans (vd_l h2).1.symm)
      have e1 : (c.vs.take (k + 1)).map vdF = (c.vs.take k).map vdF ++ [vdF x]:=by rw [List.take_add_one,HX.out];simp
      rw [← e1] at hV;exact hK _ _ (Rv.this hgr) ⟨_,[.string x.n,.int .i64 x.c,.string x.z,.string x.k,.bool x.x,.string x.m,.bool x.y,.slice a' l' c'],by rw [List.flatten_append];simpa using hown,hV⟩
     refine' Gi.Grow.stepC _ rfl ?_ ?_;rotate_left 1
     ·refine Gi.Obl.plain rfl ?_;intro ac wg K lo hi hsz hW hpr hf hap hK;clear hsz hap hpr;have hW : wr.grownBy wg v.ownBlock:=hW;have e3:=hf 3 (by decide)
      simp [Gi.slotFact,List.lookup] at e3
      clear hf;go_simp;refine hK _ _ (Rv.other (by decide) (Below.refl _ _)) ?_;with_reducible rfl
     refine Gi.Grow.done ?_;intro q wz lo hi hW hf hap;clear hap;have hW : wr.grownBy wz v.ownBlock:=hW;simp only [List.forall_mem_cons] at hf;obtain ⟨h60,h59,-⟩:=hf;have h60:=h60 (by first | trivial | rfl);obtain ⟨H',vs',hs2,hs3⟩:=h59 (by first | trivial | rfl);obtain ⟨v',hv'⟩ : ∃ v',q 59 = v':=⟨_,rfl⟩;rw [hv'] at hs2;obtain ⟨v1',v2',v3',rfl⟩:=owns_slice hs2;have bo5:=(hW.block b3 hor (fun e => by have:=(HO.out.lt _ e.symm).1;omega)).trans Bo.out;have HS1:=hidK (((HK.out.trans (KeptS.of_grown hW (fun g e => .inr (HO.out.lt g e).1))).set (i:=2) (v:=.slice v1' v2' v3') (.inl rfl)));have HS2:=hidK (owns_set (i:=2) (u:=.slice v1' v2' v3') hs2 bo5 (by decide));have HS3:=hidK (hs3.set (i:=2) (u:=.slice v1' v2' v3') bo5 (by decide));have HS4:=hidK (block_set (i:=2) bo5 (.slice v1' v2' v3'));obtain ⟨o0,o1,o2,o3,o4,o5⟩:=cs6 bo5;have fo0:=froK bo5 0;have fo1:=froK bo5 1;have fo2:=froK bo5 2;have fo3:=froK bo5 3;have fo4:=froK bo5 4;have fo5:=froK bo5 5;clear bo5 hs2 hs3 hW c0 c1 c2 c3 c4 c5 c6 c7;intro K hK;rw [if_pos (by rfl)];simp only [Gi.putsAll,List.foldr,Act.put,List.setIfInBounds_toArray,List.set_cons_zero,List.set_cons_succ,h60,hv'];simp only [List.getLast];go_simp;refine hK _ _ ?_;refine hK0 _ _ ?_;clear hK hK0 K K0
     go_wp2
     exact ⟨⟨k + 1,_,H',_,by omega,by go_num,HS1,HS2,HS3,HS4⟩,by simp [intOf];omega⟩
    ·have hkl : k = l3:=by omega
     have h5:=HV.out;rw [List.take_of_length_le (by omega)] at h5;obtain ⟨p3,q3,hv,hR⟩:=h5.own HO.out (by simp;omega) (by decide) (fun g hg => (HO.out.lt g hg).1)
     have hl5 : (c.vs.map vdF).length = l3:=by simpa using hl3
     rw [hl5] at hv hR;subst hv;have R3:=hidK (hR.away Bo.out (by decide) (by decide))
     replace R2:=hidK (R2.out.keep (fun k hk s => HK.out.block k hk (fun q9 => by rcases q9 with q9 | q9;exact s.2 q9;omega)) (fun _ _ s => s))
     replace R4:=hidK (R4.out.keep (fun k hk s => HK.out.block k hk (fun q9 => by rcases q9 with q9 | q9;exact s.2 q9;omega)) (fun _ _ s => s))
     replace R1:=hidK (R1.out.keep (fun k hk s => HK.out.block k hk (fun q9 => by rcases q9 with q9 | q9;exact s.2 q9;omega)) (fun _ _ s => s))
     replace Br:=hidK ((HK.out.block (w.heap.size + 1) (by omega) (fun s => by rcases s with s | s <;> omega)).trans Br.out)
     replace Bk:=BkR;replace BoX:=Bo;replace HBX:=HBW;have hb3X2 : b3 < wr.heap.size:=lt_of_some BoX.out;clear BkR Bo HBW h5 hR HV HO HK hl5 hkl hk hKs hXs
     generalize wr = X2 at *
     obtain ⟨k0,k1,k2,k3,k4,k5⟩:=cs6 Bk.out
     go_wp2
     clear k0 k1 k2 k3 k4 k5 hlt
     go_loopw [7] (fun vi wr => ∃ (k : Nat) (vss : List (List Value)) (H : Nat → Nat → Nat) (v : Value),k ≤ l5 ∧ vi = .int .i64 k ∧ Hid (KeptS (Cps b3 X2) X2 wr) ∧ Hid (wr.ownsRow X2.heap.size 58 6 v k vss.flatten) ∧ Hid (VRecs wr (fun k => X2.heap.size ≤ k) 6 ((c.ps.take k).map pdF) vss H) ∧ Hid (wr.heap[b3]? = some (.cells #[.slice p1 l1 q1,.slice p2 l2 q2,.slice p3 l3 q3,.slice p4 l4 q4,v,.int .i64 c.now] 36 (0,0)))) (fun vi _ => l5 - (intOf vi).toNat)
     case atStart => exact ⟨0,[],fun _ _ => 0,.slice none 0 0,by omega,rfl,KeptS.refl _ _,World.ownsRow_nil _ _ _ _,VRecs.nil _ _ _ _,BoX⟩
     case round =>
      obtain ⟨k,vss,H,v,hk,rfl,HK,HO,HV,Bo⟩:=hrel;have hXs:=HBX.out.size
      have HBW:=hidK (HBX.out.trans (HK.out.low (X:=w.heap.size) hXs (fun k s => by rcases s with rfl | s <;> omega)))
      have BkR:=hidK ((HK.out.block w.heap.size (by omega) (fun s => by rcases s with s | s <;> omega)).trans Bk.out)
      have hKs:=HK.out.size
      by_cases hlt : k < l5
      ·obtain ⟨b,o,x,rfl,hb0,hx,hat⟩:=pd_at HR.out.p hlt;obtain ⟨va,vl,vc,hvr,z0,z2,z4,c0,c1,c2,c3,c4,c5⟩:=pd_cells hat
       have hz8 : vl ≤ 8001:=by have h1:=hvr.1;have h2:=HS.out.ps k x hx;omega
       have HX:=hidK hx;have HT:=hidK hvr;have HZz0:=hidK z0;have HZz2:=hidK z2;have HZz4:=hidK z4;clear hat hx hvr z0 z2 z4;replace c0:=(cell_below HBW.out hb0).trans c0;replace c1:=(cell_below HBW.out hb0).trans c1;replace c2:=(cell_below HBW.out hb0).trans c2;replace c3:=(cell_below HBW.out hb0).trans c3;replace c4:=(cell_below HBW.out hb0).trans c4;replace c5:=(cell_below HBW.out hb0).trans c5;have hbr : b < wr.heap.size:=Nat.lt_of_lt_of_le hb0 HBW.out.size;have hkr:=lt_of_some BkR.out;have hor:=lt_of_some Bo.out
       have hz : i5.zero = some (.agg #[.string ⟨#[]⟩,.int .i64 0,.string ⟨#[]⟩,.slice none 0 0,.string ⟨#[]⟩,.int .i64 0]) ∧ i5.size = 6 ∧ i5.bytes = 88:=by have:=HI5.out.2;simp only [Prod.mk.injEq] at this;exact this
       obtain ⟨k0,k1,k2,k3,k4,k5⟩:=cs6 BkR.out
       go_wp2_with (first | (at_builtin;refine wpList_texts rfl _ _ rfl (wr.heap.size + 1) rfl (heap2_1 _ _ _) va vl vc rfl x.zs (HT.out.below (HBW.out.trans ((below2 _ _ _).mono HBW.out.size))) hz8 ?_))
       intro a' l' c' w2 hT2 hb2;obtain ⟨hn2,-,hbx⟩:=slots2n hb2;obtain ⟨g,hg⟩:=hT2.fr
       have hs2 : wr.heap.size + 1 < w2.heap.size:=by have:=hb2.size;simp at this;omega
       have hsl : ∀ k,(k = wr.heap.size + 1 ∨ wr.heap.size + 1 + 1 ≤ k) → wr.heap.size + 1 ≤ k:=fun k s => by omega
       have hb4 : Below wr.heap.size wr ((w2.setCell ⟨wr.heap.size,3,none⟩ (.slice a' l' c')).alloc (.cells #[.string x.n,.int .i64 x.c,.string x.z,.slice a' l' c',.string x.d,.int .i64 x.p] 58)):=(set_below (Nat.le_refl _) hbx).alloc (by simp [World.setCell];omega) _;have HF4 : Hid (LFr ((w2.setCell ⟨wr.heap.size,3,none⟩ (.slice a' l' c')).alloc (.cells #[.string x.n,.int .i64 x.c,.string x.z,.slice a' l' c',.string x.d,.int .i64 x.p] 58)) g (fun k => X2.heap.size ≤ k) x.zs (.slice a' l' c')):=hg.keep (fun cu _ q => (Below.heap_alloc _ _ _ (by simp [World.setCell];exact lt_of_some q)).trans (Below.heap_setCell _ _ _ _ (fun e => by subst e;rw [hn2] at q;cases q))) (fun _ s => by have:=hsl _ s;show X2.heap.size ≤ g;omega)
       have HG : Hid (∀ zs : List ByteArray,x.zs = zs → zs ≠ [] → wr.heap.size ≤ g):=fun zs e hz => by subst e;have:=hsl _ (hg.lt hz).1;omega
       have HB4:=hidK hb4;have HO4:=hidK (owns_below HO.out hb4);obtain ⟨n0,n1,n2,n3,n4,n5⟩:=cs6 hn2;have fn0:=froK hn2 0;have fn1:=froK hn2 1;have fn2:=froK hn2 2;have fn3:=froK hn2 3;have fn4:=froK hn2 4;have fn5:=froK hn2 5;have bo2:=(hbx.block _ hor).trans Bo.out;obtain ⟨o0,o1,o2,o3,o4,o5⟩:=cs6 bo2;have hor2 : b3 < w2.heap.size:=lt_of_some bo2
       have hne3 : ¬ b3 = wr.heap.size:=by omega
       clear hn2 hbx hT2 hg hb2 hsl hb4 bo2 k0 k1 k2 k3 k4 k5 c0 c1 c2 c3 c4 c5
       go_wp2_with (first | (at_builtin;refine wpList_append_own _ rfl _ _ 34 rfl X2.heap.size 58 i5 (.agg #[.string ⟨#[]⟩,.int .i64 0,.string ⟨#[]⟩,.slice none 0 0,.string ⟨#[]⟩,.int .i64 0]) 6 88 Tryz.underlying34 HI5.out.1 hz.1 hz.2.1 hz.2.2 rfl (by decide) _ _ _ rfl HO4.out ⟨w2.heap.size,0,none⟩ 1 1 [.string x.n,.int .i64 x.c,.string x.z,.slice a' l' c',.string x.d,.int .i64 x.p] rfl rfl ?c1 ?c2 ?c3 ?c4 ?c5 ?_))
       case c1 => exact news_alloc_at _ _ (by simp [World.setCell]) _ _
       case c2 => intro u hu;simp only [List.mem_cons,List.not_mem_nil,or_false] at hu;rcases hu with rfl | rfl | rfl | rfl | rfl | rfl <;> rfl
       case c3 => unfold maxLen;have:=HS.out.p;omega
       case c4 => have:=HS.out.p;omega
       case c5 => simp [World.setCell];omega
       rintro v' w5 hown5 hgrow -;obtain ⟨v1',v2',v3',rfl⟩:=owns_slice hown5;clear n0 fn0 n1 fn1 n2 fn2 n3 fn3 n4 fn4 n5 fn5 o0 o1 o2 o3 o4 o5;have bo5:=cp_blk HO.out Bo.out hb3X2 HB4.out hgrow;obtain ⟨hs1,hs2',⟨H',hs3⟩,hs4⟩:=cp_step (f:=4) (r:=pdF x) (vs:=[.string x.n,.int .i64 x.c,.string x.z,.slice a' l' c',.string x.d,.int .i64 x.p]) (hh:=g) HK.out HO.out HV.out Bo.out hb3X2 HB4.out hown5 hgrow (by decide) (by decide) (by decide) rfl rfl (pd_fr HZz0.out HZz2.out HZz4.out HF4.out) (fun i zs hi hz => HG.out zs (pd_l hi).2.symm hz) (fun i i' zs zs' h1 _ h2 _ => (pd_l h1).1.trans (pd_l h2).1.symm)
       have e1 : (c.ps.take (k + 1)).map pdF = (c.ps.take k).map pdF ++ [pdF x]:=by rw [List.take_add_one,HX.out];simp
       rw [← e1] at hs3;have HS1:=hidK hs1;have HS2:=hidK hs2';have HS3:=hidK hs3;have HS4:=hidK hs4;obtain ⟨o0,o1,o2,o3,o4,o5⟩:=cs6 bo5;have fo0:=froK bo5 0;have fo1:=froK bo5 1;have fo2:=froK bo5 2;have fo3:=froK bo5 3;have fo4:=froK bo5 4;have fo5:=froK bo5 5;clear hs1 hs2' hs3 hs4 bo5 hown5 hgrow e1
       go_wp2
       exact ⟨⟨k + 1,_,H',_,by omega,by go_num,HS1,HS2,HS3,HS4⟩,by simp [intOf];omega⟩
      ·have hkl : k = l5:=by omega
       have h5:=HV.out;rw [List.take_of_length_le (by omega)] at h5;obtain ⟨p5,q5,hv,hR⟩:=h5.own HO.out (by simp;omega) (by decide) (fun g hg => (HO.out.lt g hg).1)
       have hl5 : (c.ps.map pdF).length = l5:=by simpa using hl5
       rw [hl5] at hv hR;subst hv;have R5:=hidK (hR.away Bo.out (by decide) (by decide))
       replace R2:=hidK (R2.out.keep (fun k hk s => HK.out.block k hk (fun q9 => by rcases q9 with q9 | q9;exact s.2 q9;omega)) (fun _ _ s => s))
       replace R4:=hidK (R4.out.keep (fun k hk s => HK.out.block k hk (fun q9 => by rcases q9 with q9 | q9;exact s.2 q9;omega)) (fun _ _ s => s))
       replace R1:=hidK (R1.out.keep (fun k hk s => HK.out.block k hk (fun q9 => by rcases q9 with q9 | q9;exact s.2 q9;omega)) (fun _ _ s => s))
       replace R3:=hidK (R3.out.keep (fun k hk s => HK.out.block k hk (fun q9 => by rcases q9 with q9 | q9;exact s.2 q9;omega)) (fun _ _ s => s))
       replace Br:=hidK ((HK.out.block (w.heap.size + 1) (by omega) (fun s => by rcases s with s | s <;> omega)).trans Br.out)
       replace Bk:=BkR;replace BoX:=Bo;replace HBX:=HBW;have hb3X3 : b3 < wr.heap.size:=lt_of_some BoX.out;clear BkR Bo HBW h5 hR HV HO HK hl5 hkl hk hKs hXs
       generalize wr = X3 at *
       obtain ⟨k0,k1,k2,k3,k4,k5⟩:=cs6 Bk.out;obtain ⟨o0,o1,o2,o3,o4,o5⟩:=cs6 BoX.out;obtain ⟨r0,r1,r2,r3,r4,r5⟩:=cs6 Br.out;have hXs:=HBX.out.size;have fr0:=froK Br.out 0;have fr1:=froK Br.out 1;have fr2:=froK Br.out 2;have fr3:=froK Br.out 3;have fr4:=froK Br.out 4;have fr5:=froK Br.out 5
       go_wp2
       refine bodyPost_ret (v:=.agg #[.slice p1 l1 q1,.slice p2 l2 q2,.slice p3 l3 q3,.slice p4 l4 q4,.slice p5 l5 q5,.int .i64 c.now]) (by simp [results,Tryz.results27,go_sem, *]) rfl ⟨⟨p1,l1,q1,p2,l2,q2,p3,l3,q3,p4,l4,q4,p5,l5,q5⟩,rfl,⟨?_,?_,?_,?_,?_⟩,sb1 (sb1 (sb1 (sb1 (sb1 (sb1 (HBX.out))))))⟩
       ·exact (R1.out.keep (S':=fun k => w.heap.size ≤ k) (fun k hk s => put6_ne (by have s1 : X.heap.size ≤ k:=s.1;omega)) (fun k _ s => by have s1 : X.heap.size ≤ k:=s.1;show w.heap.size ≤ k;omega))
       ·exact (R2.out.keep (S':=fun k => w.heap.size ≤ k) (fun k hk s => put6_ne (by have s1 : W.heap.size ≤ k:=s.1;omega)) (fun k _ s => by have s1 : W.heap.size ≤ k:=s.1;show w.heap.size ≤ k;omega))
       ·exact (R3.out.keep (S':=fun k => w.heap.size ≤ k) (fun k hk s => put6_ne (by have s1 : X1.heap.size ≤ k:=s.1;omega)) (fun k _ s => by have s1 : X1.heap.size ≤ k:=s.1;show w.heap.size ≤ k;omega))
       ·exact (R4.out.keep (S':=fun k => w.heap.size ≤ k) (fun k hk s => put6_ne (by have s1 : W.heap.size ≤ k:=s.1;omega)) (fun k _ s => by have s1 : W.heap.size ≤ k:=s.1;show w.heap.size ≤ k;omega))
       ·exact (R5.out.keep (S':=fun k => w.heap.size ≤ k) (fun k hk s => put6_ne (by have s1 : X2.heap.size ≤ k:=s.1;omega)) (fun k _ s => by have s1 : X2.heap.size ≤ k:=s.1;show w.heap.size ≤ k;omega))

theorem take_flat {m : Nat} {vss : List (List Value)} (hl : ∀ (j : Nat) vs,vss[j]? = some vs → vs.length = m) {k : Nat} (hk : k ≤ vss.length) : (vss.take k).flatten.length = k * m:=by
 rw [flat_len (m:=m) (fun j vs h => ?_),List.length_take,Nat.min_eq_left hk];rw [List.getElem?_take] at h
 split at h
 ·exact hl j vs h
 ·cases h
theorem drop_flat {m : Nat} {vss : List (List Value)} (hl : ∀ (j : Nat) vs,vss[j]? = some vs → vs.length = m) {k : Nat} : (vss.drop k).flatten.length = (vss.length - k) * m:=by
 rw [flat_len (m:=m) (fun j vs h => ?_),List.length_drop];rw [List.getElem?_drop] at h;exact hl _ vs h
theorem take_at {vss : List (List Value)} {k i : Nat} {u : Value} (h : (vss.take k).flatten[i]? = some u) : vss.flatten[i]? = some u:=by
 have h1 : vss.flatten = (vss.take k).flatten ++ (vss.drop k).flatten:=by rw [← List.flatten_append,List.take_append_drop]
 rw [h1,List.getElem?_append_left (List.getElem?_eq_some_iff.1 h).1];exact h
theorem drop_at {m : Nat} {vss : List (List Value)} (hl : ∀ (j : Nat) vs,vss[j]? = some vs → vs.length = m) {k i : Nat} {u : Value} (hk : k ≤ vss.length) (h : (vss.drop k).flatten[i]? = some u) : vss.flatten[k * m + i]? = some u:=by
 have h1 : vss.flatten = (vss.take k).flatten ++ (vss.drop k).flatten:=by rw [← List.flatten_append,List.take_append_drop]
 rw [h1,List.getElem?_append_right (by rw [take_flat hl hk];omega),take_flat hl hk,Nat.add_sub_cancel_left];exact h
theorem mem_take_one {P : Value → Prop} {vss : List (List Value)} (h : ∀ u ∈ vss.flatten,P u) (k : Nat) : (∀ u ∈ (vss.take k).flatten,P u) ∧ ∀ u ∈ (vss.drop k).flatten,P u:=by
 have h1 : vss.flatten = (vss.take k).flatten ++ (vss.drop k).flatten:=by rw [← List.flatten_append,List.take_append_drop]
 exact ⟨fun u hu => h u (by rw [h1];exact List.mem_append_left _ hu),fun u hu => h u (by rw [h1];exact List.mem_append_right _ hu)⟩

theorem sill_any (p : Int) (w : World) :
  Calls Tryz.prog 22 #[.int .i64 p] w fun e w' => e = .returned (.agg #[.slice none 0 0,.slice none 0 0,.slice none 0 0,.slice none 0 0,.slice none 0 0,.int .i64 0,.string ⟨#[]⟩,.int .i64 p]) ∧ Below w.heap.size w w':=by
 go_enter Tryz.func22,Tryz.ntmps22
 go_wp2
 exact bodyPost_ret (v:=.agg #[.slice none 0 0,.slice none 0 0,.slice none 0 0,.slice none 0 0,.slice none 0 0,.int .i64 0,.string ⟨#[]⟩,.int .i64 p]) (by simp [results,Tryz.results22,go_sem]) rfl ⟨rfl,below1 _ _⟩

theorem wo_erase {α : Type} {nm : α → ByteArray} {t : ByteArray} {xs : List α} {k : Nat} {x : α} (hr : RisBy nm xs) (hx : xs[k]? = some x) (hn : nm x = t) : wo nm t xs = xs.take k ++ xs.drop (k + 1):=by
 have hk : k < xs.length:=(List.getElem?_eq_some_iff.1 hx).1
 have e : xs = xs.take k ++ x :: xs.drop (k + 1):=by
  have h1 : xs.drop k = x :: xs.drop (k + 1):=by rw [List.drop_eq_getElem_cons hk];congr 1;exact (List.getElem?_eq_some_iff.1 hx).2
  rw [← h1,List.take_append_drop]
 have hno : ∀ (j : Nat) y,xs[j]? = some y → ¬ j = k → (!((nm y).toList == t.toList)) = true:=fun j y hj hne => by
  have : ¬ nm y = t:=fun q => hne (hr.inj hj hx (q.trans hn.symm)).1
  simp [tl_no this]
 have h1 : (xs.take k).filter (fun x => !((nm x).toList == t.toList)) = xs.take k:=List.filter_eq_self.2 fun y hy => by
  obtain ⟨j,hj⟩:=List.getElem?_of_mem hy;rw [List.getElem?_take] at hj
  split at hj
  ·exact hno j y hj (by omega)
  ·cases hj
 have h2 : (xs.drop (k + 1)).filter (fun x => !((nm x).toList == t.toList)) = xs.drop (k + 1):=List.filter_eq_self.2 fun y hy => by
  obtain ⟨j,hj⟩:=List.getElem?_of_mem hy;rw [List.getElem?_drop] at hj;exact hno _ y hj (by omega)
 unfold wo
 conv => lhs;rw [e]
 rw [List.filter_append,List.filter_cons,h1,h2,tl_yes hn]
 rfl
theorem Sel.erase {α β : Type} {xs : List α} {vss : List β} (hl : vss.length = xs.length) {k : Nat} (hk : k < xs.length) : Sel xs (xs.take k ++ xs.drop (k + 1)) vss (vss.take k ++ vss.drop (k + 1)) xs.length (fun j => if j < k then j else j + 1):=by
 have hat : ∀ {γ : Type} {l : List γ} (j : Nat),k < l.length → j < (l.take k ++ l.drop (k + 1)).length → (l.take k ++ l.drop (k + 1))[j]? = l[if j < k then j else j + 1]?:=by
  intro γ l j hk hj
  have h1 : (l.take k).length = k:=by rw [List.length_take];omega
  by_cases e : j < k
  ·rw [List.getElem?_append_left (by omega),List.getElem?_take,if_pos e,if_pos e]
  ·rw [List.getElem?_append_right (by omega),List.getElem?_drop,if_neg e,h1]
   congr 1
   omega
 refine ⟨by simp [hl],fun j hj => hat j hk hj,fun j hj => hat j (by omega) (by simp [hl] at hj ⊢;omega),fun j hj => ?_,fun i j hi hj e => ?_⟩
 ·have : (xs.take k ++ xs.drop (k + 1)).length = xs.length - 1:=by simp;omega
  split <;> omega
 ·split at e <;> split at e <;> omega

end Rc
end Go.Proofs.YtkecljccapjkpaaGreatDoor

namespace Go.Proofs.YtkecljccapjkpaaGreatDoor
open Go.RowKit

def betB (v u : Vd) : Bool:=decide (v.c < u.c) || ((v.c == u.c) && Op.bytesLess v.n.toList u.n.toList)
def stepB (sv : Vd → Bool) (acc : Option Vd) (v : Vd) : Option Vd:=if (sv v && (match acc with | none => true | some u => betB v u)) = true then some v else acc
def bestV (sv : Vd → Bool) (vs : List Vd) : Option Vd:=vs.foldl (stepB sv) none
theorem bestV_take {sv : Vd → Bool} {vs : List Vd} {i : Nat} {v : Vd} (h : vs[i]? = some v) : bestV sv (vs.take (i + 1)) = stepB sv (bestV sv (vs.take i)) v:=by
 unfold bestV;rw [List.take_add_one,h]
 simp
def BestAt (sv : Vd → Bool) (vs : List Vd) (i : Nat) (r : Int) : Prop :=
 (r = -1 ∧ bestV sv (vs.take i) = none) ∨ ∃ (j : Nat) (u : Vd),r = j ∧ j < vs.length ∧ vs[j]? = some u ∧ bestV sv (vs.take i) = some u
theorem BestAt.no {sv : Vd → Bool} {vs : List Vd} {i : Nat} {r : Int} {v : Vd} (h : BestAt sv vs i r) (hv : vs[i]? = some v) (hs : sv v = false) : BestAt sv vs (i + 1) r:=by
 unfold BestAt;rw [bestV_take hv];simp only [stepB,hs,Bool.false_and,Bool.false_eq_true,if_false];exact h
theorem BestAt.first {sv : Vd → Bool} {vs : List Vd} {i : Nat} {v : Vd} (h : bestV sv (vs.take i) = none) (hv : vs[i]? = some v) (hs : sv v = true) : BestAt sv vs (i + 1) i:=by
 refine .inr ⟨i,v,rfl,(List.getElem?_eq_some_iff.1 hv).1,hv,?_⟩;rw [bestV_take hv,h]
 simp [stepB,hs]
theorem BestAt.new {sv : Vd → Bool} {vs : List Vd} {i : Nat} {v u : Vd} (h : bestV sv (vs.take i) = some u) (hv : vs[i]? = some v) (hs : sv v = true) (hb : betB v u = true) : BestAt sv vs (i + 1) i:=by
 refine .inr ⟨i,v,rfl,(List.getElem?_eq_some_iff.1 hv).1,hv,?_⟩;rw [bestV_take hv,h]
 simp [stepB,hs,hb]
theorem BestAt.old {sv : Vd → Bool} {vs : List Vd} {i j : Nat} {v u : Vd} (hj : vs[j]? = some u) (h : bestV sv (vs.take i) = some u) (hv : vs[i]? = some v) (hb : betB v u = false) : BestAt sv vs (i + 1) j:=by
 refine .inr ⟨j,u,rfl,(List.getElem?_eq_some_iff.1 hj).1,hj,?_⟩;rw [bestV_take hv,h]
 simp [stepB,hb]

end Go.Proofs.YtkecljccapjkpaaGreatDoor

namespace Go.Proofs.YtkecljccapjkpaaGreatDoor
open Go.RowKit
namespace Rc
open Mk

theorem put_atB {α : Type} {nm : α → ByteArray} {ps : List α} {t : ByteArray} {k : Nat} {x y : α} (hr : RisBy nm ps) (hx : ps[k]? = some x) (hn : nm x = t) : inAt (pl nm (wo nm t ps) t) y (wo nm t ps) = ps.set k y:=by
 have hk : k < ps.length:=(List.getElem?_eq_some_iff.1 hx).1;have hw:=wo_erase hr hx hn
 have hpl : pl nm (wo nm t ps) t = k:=by
  rw [hw]
  have hlt : ∀ (j : Nat) z,j < k → (ps.take k ++ ps.drop (k + 1))[j]? = some z → Op.bytesLess (nm z).toList t.toList = true:=fun j z hj hz => by
   have h1 : (ps.take k).length = k:=by rw [List.length_take];omega
   rw [List.getElem?_append_left (by omega),List.getElem?_take,if_pos hj] at hz;have:=hr.lt hj hz hx;rw [hn] at this;exact this
  by_cases he : k + 1 < ps.length
  ·have h1 : (ps.take k).length = k:=by rw [List.length_take];omega
   have h2 : (ps.take k ++ ps.drop (k + 1))[k]? = some ps[k + 1]:=by
    rw [List.getElem?_append_right (by omega),h1,Nat.sub_self,List.getElem?_drop];exact List.getElem?_eq_getElem he
   refine pl_at hlt h2 ?_;have h3:=hr.lt (Nat.lt_succ_self k) hx (List.getElem?_eq_getElem he);rw [hn] at h3
   cases h9 : Op.bytesLess (nm ps[k + 1]).toList t.toList
   ·rfl
   ·have h8:=less_trans _ _ _ h3 h9;rw [less_irr] at h8
    cases h8
  ·have h4 : ps.take k ++ ps.drop (k + 1) = ps.take k:=by rw [List.drop_eq_nil_of_le (by omega),List.append_nil]
   rw [h4];rw [h4] at hlt
   have h1 : (ps.take k).length = k:=by rw [List.length_take];omega
   rw [pl_end (fun j z hz => hlt j z (by have:=(List.getElem?_eq_some_iff.1 hz).1;omega) hz),h1]
 rw [hpl,hw];unfold inAt
 have h1 : (ps.take k).length = k:=by rw [List.length_take];omega
 rw [List.take_left' h1,List.drop_left' h1,List.set_eq_take_append_cons_drop,if_pos hk]
 simp
theorem AskWhy.only {c : Cl} {t : ByteArray} {n m : Nat} (h : AskWhy c t n) (h' : AskWhy c t m) : n = m:=by
 rcases n with _ | _ | _ | n <;> rcases m with _ | _ | _ | m <;> simp only [AskWhy] at h h' <;> first | rfl | exact absurd h h'.1 | exact absurd h' h.1 | exact absurd h'.2.1 h.2 | exact absurd h.2.1 h'.2
theorem AskWhy.not {c : Cl} {t : ByteArray} {n : Nat} {i : Nat} {x : Xd} (h : AskWhy c t n) (h1 : ¬ 8000 < t.size) (h2 : RightI c) (hx : c.xs[i]? = some x) (hn : x.n = t) : False:=by
 rcases n with _ | _ | _ | n <;> simp only [AskWhy] at h
 ·exact h1 h
 ·exact h.2 h2
 ·exact h.2.2 ⟨i,x,hx,hn⟩

def Kept (c : Cl) (v : Vd) : Prop:=∃ (j : Nat) (k : Kd),c.ks[j]? = some k ∧ k.n = v.k ∧ k.y = true
def spent (v : Vd) : Vd:=⟨v.n,v.c,v.z,v.k,v.x,⟨#[]⟩,true,v.zs⟩
def LeftIs (c : Cl) (v : Vd) (vs : List Vd) : Prop:=(Kept c v ∧ vs = inAt (pl Vd.n (wo Vd.n v.n c.vs) v.n) (spent v) (wo Vd.n v.n c.vs)) ∨ (¬ Kept c v ∧ vs = wo Vd.n v.n c.vs)

theorem ild_any (g : Ad) (c : Cl) (v : Vd) (ea : Option Addr) (el ec : Nat) (Q : Nat → Prop) (w : World) (ho : ROwn w g.a3 g.l3 g.c3 8 63 (c.vs.map vdF) Q) (hk : RRow w g.a2 g.l2 g.c2 4 (c.ks.map kdF)) (hrk : RisBy Kd.n c.ks) (hv : TxRow w ea el ec v.zs) (hl : g.l3 ≤ 8) (hv8 : el ≤ 8) (z0 : v.n.size ≤ 9223372036854775807) (z2 : v.z.size ≤ 9223372036854775807) (z3 : v.k.size ≤ 9223372036854775807) :
  Calls Tryz.prog 41 #[.agg #[.slice g.a1 g.l1 g.c1,.slice g.a2 g.l2 g.c2,.slice g.a3 g.l3 g.c3,.slice g.a4 g.l4 g.c4,.slice g.a5 g.l5 g.c5,.int .i64 c.now],.agg #[.string v.n,.int .i64 v.c,.string v.z,.string v.k,.bool v.x,.string v.m,.bool v.y,.slice ea el ec]] w fun e w' => ∃ a' l' c' vs,e = .returned (.slice a' l' c') ∧ LeftIs c v vs ∧ ROwn w' a' l' c' 8 63 (vs.map vdF) (fun k => Q k ∨ w.heap.size ≤ k) ∧ Below w.heap.size w w':=by
 have HO:=hidK ho;have HK:=hidK hk;have HRK:=hidK hrk;have HV:=hidK hv;have HB:=hidK (Below.refl w.heap.size w);clear ho hk hrk hv
 go_enter Tryz.func41,Tryz.ntmps41
 go_wp2_with fail;have h5:=(HO.out.into (S':=fun k => Q k ∧ k < w.heap.size) (fun k hk s => ⟨s,hk⟩)).below (below2 w (.cells #[.slice g.a1 g.l1 g.c1,.slice g.a2 g.l2 g.c2,.slice g.a3 g.l3 g.c3,.slice g.a4 g.l4 g.c4,.slice g.a5 g.l5 g.c5,.int .i64 c.now] 36) (.cells #[.string v.n,.int .i64 v.c,.string v.z,.string v.k,.bool v.x,.string v.m,.bool v.y,.slice ea el ec] 63));refine (iwovd_any g.a3 g.l3 g.c3 c.vs v.n _ _ h5 hl).mono ?_;rintro e w1 ⟨a1,l1,c1,rfl,hN,hb⟩;have hs1:=hb.size;simp only [size1] at hs1;have hN2:=hN.into (S':=fun k => (Q k ∧ k < w.heap.size) ∨ w.heap.size + 1 + 1 ≤ k) (fun k _ s => s.imp id (fun q => by simpa using q));have HN:=hidK hN2;clear hN hN2 h5;obtain ⟨HA0,HA1,hbx⟩:=slots2 hb;have Bk:=hidK HA0;have Bv:=hidK HA1;replace HB:=upB HB hbx;clear hb hbx HA0 HA1;obtain ⟨k0,k1,k2,k3,k4,k5⟩:=cs6 Bk.out;have ltk_1:=lt_of_some Bk.out;obtain ⟨v0,v1,v2,v3,v4,v5,v6,v7⟩:=cs8 Bv.out;have ltv_1:=lt_of_some Bv.out;go_wp2_with fail;refine (thekd_any g c.now c.ks v.k w _ HK.out HB.out).mono ?_;rintro e w2 ⟨hb,hf⟩;have HBX:=hidK hb;clear k0 k1 k2 k3 k4 k5 ltk_1 v0 v1 v2 v3 v4 v5 v6 v7 ltv_1;replace Bk:=upK Bk hb;replace Bv:=upK Bv hb;replace HB:=upB HB hb;clear hb
 have hf2 : ∃ (kn : ByteArray) (kx ky : Bool) (kz : ByteArray) (r : Bool),e = .returned (.tuple #[.agg #[.string kn,.bool kx,.bool ky,.string kz],.bool r]) ∧ (ky = true ↔ Kept c v):=by
  rcases hf with ⟨hh,x,hx,hn,rfl,-⟩ | ⟨hh,rfl⟩
  ·exact ⟨_,_,_,_,_,rfl,fun h => ⟨_,x,hx,hn,h⟩,fun ⟨j,k,hj,hk,hy⟩ => by
    obtain ⟨-,rfl⟩:=HRK.out.inj hx hj (hn.trans hk.symm)
    exact hy⟩
  ·exact ⟨_,_,_,_,_,rfl,fun h => (by cases h),fun ⟨j,k,hj,hk,hy⟩ => by
    have h1:=(hit_at HRK.out hj hk).2;rw [hh] at h1
    cases h1⟩
 obtain ⟨kn,kx,ky,kz,r,rfl,hky⟩:=hf2;have HKY:=hidK hky;have HN2:=hidK (HN.out.below HBX.out);clear hf hky
 cases ky
 ·obtain ⟨k0,k1,k2,k3,k4,k5⟩:=cs6 Bk.out;have ltk_2:=lt_of_some Bk.out;obtain ⟨v0,v1,v2,v3,v4,v5,v6,v7⟩:=cs8 Bv.out;have ltv_2:=lt_of_some Bv.out
  go_wp2
  go_ret;exact ⟨a1,l1,c1,_,rfl,.inr ⟨fun h => (by have h9:=HKY.out.2 h;cases h9),rfl⟩,(HN2.out.below (below1 _ _)).into (fun k _ s => s.imp And.left (fun q => by omega)),HB.out.alloc HB.out.size _⟩
 ·obtain ⟨k0,k1,k2,k3,k4,k5⟩:=cs6 Bk.out;have ltk_2:=lt_of_some Bk.out;obtain ⟨v0,v1,v2,v3,v4,v5,v6,v7⟩:=cs8 Bv.out;have ltv_2:=lt_of_some Bv.out;have fr5:=froK Bv.out 5;have fr6:=froK Bv.out 6;go_wp2_with fail
  have hsv : ((w2.setCell ⟨w.heap.size + 1,5,none⟩ (.string ⟨#[]⟩)).setCell ⟨w.heap.size + 1,6,none⟩ (.bool true)).heap.size = w2.heap.size:=by simp [World.setCell]
  have HBV : Hid (Below w.heap.size w (((w2.setCell ⟨w.heap.size + 1,5,none⟩ (.string ⟨#[]⟩)).setCell ⟨w.heap.size + 1,6,none⟩ (.bool true)).alloc (.cells #[.string kn,.bool kx,.bool true,.string kz] 61))):=(sb1 (set_below (show w.heap.size ≤ w.heap.size + 1 by omega) HB.out)).alloc (by rw [hsv];exact HB.out.size) _
  have HNV : Hid (ROwn (((w2.setCell ⟨w.heap.size + 1,5,none⟩ (.string ⟨#[]⟩)).setCell ⟨w.heap.size + 1,6,none⟩ (.bool true)).alloc (.cells #[.string kn,.bool kx,.bool true,.string kz] 61)) a1 l1 c1 8 63 ((wo Vd.n v.n c.vs).map vdF) (fun k => (Q k ∧ k < w.heap.size) ∨ w.heap.size + 1 + 1 ≤ k)):=HN2.out.keep (fun k hk s => by
   rw [Below.heap_alloc _ _ _ (by rw [hsv];exact hk),Below.heap_setCell _ _ _ _ (show k ≠ w.heap.size + 1 by rcases s with s | s <;> omega),Below.heap_setCell _ _ _ _ (show k ≠ w.heap.size + 1 by rcases s with s | s <;> omega)]) (fun _ _ s => s)
  have hszV : (((w2.setCell ⟨w.heap.size + 1,5,none⟩ (.string ⟨#[]⟩)).setCell ⟨w.heap.size + 1,6,none⟩ (.bool true)).alloc (.cells #[.string kn,.bool kx,.bool true,.string kz] 61)).heap.size = w2.heap.size + 1:=by rw [size1,hsv]
  have hw2:=HB.out.size;refine (iownvd_any (spent v) ea el ec _ (show TxRow _ ea el ec v.zs from HV.out.below HBV.out) (by omega)).mono ?_;rintro e w3 ⟨a3,l3,c3,rfl,hO3,hb3⟩;have hs3:=hb3.size;rw [hszV] at hs3;have HO3:=hidK hO3;have HN3:=hidK ((HNV.out.into (S':=fun k => ((Q k ∧ k < w.heap.size) ∨ w.heap.size + 1 + 1 ≤ k) ∧ k < w2.heap.size + 1) (fun k hk s => ⟨s,by rw [hszV] at hk;exact hk⟩)).below hb3);have HB3:=upB HBV hb3
  have hl1 : l1 ≤ 8:=by have h6:=HN2.out.1;rw [List.length_map] at h6;have h7:=wo_le Vd.n v.n c.vs;have h8:=HO.out.1;rw [List.length_map] at h8;omega
  clear hO3 hb3 HNV;go_wp2_with fail;obtain ⟨gg,hgg⟩:=HO3.out.fr;rw [hszV] at hgg;refine (withvd_any a1 l1 c1 (wo Vd.n v.n c.vs) (spent v) a3 l3 c3 gg _ (fun k => w2.heap.size + 1 ≤ k) w3 HN3.out hl1 (vd_fr (x:=spent v) z0 z2 z3 (show (⟨#[]⟩ : ByteArray).size ≤ 9223372036854775807 by decide) hgg) (fun k q1 q2 => by have q3:=q1.2;have q4 : w2.heap.size + 1 ≤ k:=q2;omega)).mono ?_;rintro e w4 ⟨a4,l4,c4,rfl,hN4,hb4⟩
  have HN4:=hidK (hN4.into (S':=fun k => Q k ∨ w.heap.size ≤ k) (fun k _ s => by
   rcases s with (s | s) | s
   ·rcases s.1 with s | s
    ·exact .inl s.1
    ·exact .inr (by omega)
   ·have s1 : w2.heap.size + 1 ≤ k:=s;exact .inr (by omega)
   ·have s1 : w3.heap.size ≤ k:=s;exact .inr (by omega)))
  have HB4:=upB HB3 hb4;clear hN4 hb4
  go_wp2
  go_ret;exact ⟨a4,l4,c4,_,rfl,.inl ⟨HKY.out.1 (by first | trivial | rfl),rfl⟩,HN4.out,HB4.out⟩

def DisksIs (c : Cl) (t : ByteArray) (vs : List Vd) : Prop :=
 (∃ (j : Nat) (v : Vd),c.vs[j]? = some v ∧ IsBd c t v ∧ ((Kept c v ∧ vs = c.vs.set j (spent v)) ∨ (¬ Kept c v ∧ vs = wo Vd.n v.n c.vs))) ∨ ((∀ v,¬ IsBd c t v) ∧ vs = c.vs)
theorem DisksIs.same {c : Cl} {t : ByteArray} {vs vs' : List Vd} (hT : RightI c) (h : DisksIs c t vs) (h' : DisksIs c t vs') : vs = vs':=by
 rcases h with ⟨j,v,hj,hb,h⟩ | ⟨hn,rfl⟩ <;> rcases h' with ⟨j',v',hj',hb',h'⟩ | ⟨hn',rfl⟩
 ·obtain rfl:=IsBd.inj hT.2.1.2.2.2.1.2.2 hT.2.1.2.2.1.2.2 hb hb';obtain ⟨rfl,-⟩:=hT.2.1.2.2.1.2.2.inj hj hj' rfl
  rcases h with ⟨a,rfl⟩ | ⟨a,rfl⟩ <;> rcases h' with ⟨b,rfl⟩ | ⟨b,rfl⟩
  ·rfl
  ·exact absurd a b
  ·exact absurd b a
  ·rfl
 ·exact absurd hb (hn' v)
 ·exact absurd hb' (hn v')
 ·rfl
theorem LeftIs.disks {c : Cl} {t : ByteArray} {v : Vd} {vs : List Vd} (hT : RightI c) (hb : IsBd c t v) (h : LeftIs c v vs) : DisksIs c t vs:=by
 obtain ⟨j,hj⟩:=hb.at;refine .inl ⟨j,v,hj,hb,?_⟩
 rcases h with ⟨a,rfl⟩ | ⟨a,rfl⟩
 ·exact .inl ⟨a,put_atB hT.2.1.2.2.1.2.2 hj rfl⟩
 ·exact .inr ⟨a,rfl⟩
def dropX (c : Cl) (t : ByteArray) (vs : List Vd) : Cl:=⟨c.ns,c.ks,vs,wo Xd.n t c.xs,c.ps,c.now⟩
def DropClmIs (c : Cl) (t : ByteArray) (o : Co) : Prop:=(∃ i,DwWhy c t (clmSt c t) i ∧ o = co0 (codeOf i)) ∨ (¬ 8000 < t.size ∧ RightI c ∧ clmOk c t ∧ ∃ vs,DisksIs c t vs ∧ o = ⟨dropX c t vs,⟨#[]⟩,0⟩)
theorem clmSt.one (c : Cl) (t : ByteArray) (i j : Nat) (a : clmSt c t i) (b : clmSt c t j) : i = j:=by
 rcases a with ⟨rfl,a⟩ | ⟨rfl,a,-⟩ <;> rcases b with ⟨rfl,b⟩ | ⟨rfl,b,-⟩ <;> first | rfl | (rw [a] at b;cases b)
theorem clmSt.no (c : Cl) (t : ByteArray) (i : Nat) (a : clmSt c t i) (q : clmOk c t) : False:=by
 rcases a with ⟨-,a⟩ | ⟨-,-,a⟩
 ·rw [q.1] at a;cases a
 ·exact q.2 a
theorem DropClmIs.same {c : Cl} {t : ByteArray} {o o' : Co} (h : DropClmIs c t o) (h' : DropClmIs c t o') : o = o':=by
 rcases h with h | ⟨a1,a2,a3,vs,hv,rfl⟩ <;> rcases h' with h' | ⟨b1,b2,b3,vs',hv',rfl⟩
 ·exact DropIs.same (r:=c) (ok:=clmOk c t) (clmSt.one c t) (clmSt.no c t) (.inl h) (.inl h')
 ·exact DropIs.same (r:=dropX c t vs') (ok:=clmOk c t) (clmSt.one c t) (clmSt.no c t) (.inl h) (.inr ⟨b1,b2,b3,rfl⟩)
 ·exact DropIs.same (r:=dropX c t vs) (ok:=clmOk c t) (clmSt.one c t) (clmSt.no c t) (.inr ⟨a1,a2,a3,rfl⟩) (.inl h')
 ·rw [DisksIs.same a2 hv hv']
theorem DropClmIs.marks {c : Cl} {t : ByteArray} {o : Co} (h : DropClmIs c t o) (hf : ClFit c) : mkCn 1 o.c.raw ≤ 1152921504606846976:=by
 rcases h with ⟨i,_,rfl⟩ | ⟨_,_,_,vs,hv,rfl⟩
 ·exact co0_marks _
 ·have hl : vs.length ≤ c.vs.length ∧ ∀ (j : Nat) x,vs[j]? = some x → ∃ (i : Nat) (y : Vd),c.vs[i]? = some y ∧ x.zs = y.zs:=by
   rcases hv with ⟨j,v,hj,-,⟨-,rfl⟩ | ⟨-,rfl⟩⟩ | ⟨-,rfl⟩
   ·refine ⟨by simp,fun i x hx => ?_⟩;rw [List.getElem?_set] at hx
    split at hx
    ·split at hx
     ·obtain rfl:=Option.some.inj hx;exact ⟨j,v,hj,rfl⟩
     ·cases hx
    ·exact ⟨i,x,hx,rfl⟩
   ·refine ⟨wo_le _ _ _,fun i x hx => ?_⟩;obtain ⟨k,hk⟩:=wo_fit hx;exact ⟨k,x,hk,rfl⟩
   ·exact ⟨Nat.le_refl _,fun i x hx => ⟨i,x,hx,rfl⟩⟩
  refine ClFit.marks (c:=dropX c t vs) ⟨hf.l1,hf.f1,hf.l2,Nat.le_trans hl.1 hf.l3,fun j x hx => ?_,Nat.le_trans (wo_le _ _ _) hf.l4,hf.l5,hf.f5⟩;obtain ⟨i,y,hy,e⟩:=hl.2 j x hx;rw [e];exact hf.f3 i y hy
theorem ClOwnP.put4o {w2 w3 w4 : World} {d : Ad} {c : Cr} {B : Nat} {P : Nat → Nat} (h : ClOwnP w2 d c (fun k => B ≤ k) P) (hB : B ≤ w2.heap.size) {a : Option Addr} {l cp : Nat} {rs : List (List Fv)} (hN : ROwn w3 a l cp 5 78 rs (fun k => ((B ≤ k ∧ P k = 4) ∧ k < w2.heap.size) ∨ w2.heap.size + 1 ≤ k)) (hb : Below w2.heap.size w2 w3) (hk : ∀ k,B ≤ k → ¬ k = w2.heap.size → w4.heap[k]? = w3.heap[k]?) : ClOwnP w4 ⟨d.a1,d.l1,d.c1,d.a2,d.l2,d.c2,d.a3,d.l3,d.c3,a,l,cp,d.a5,d.l5,d.c5⟩ ⟨c.n,c.k,c.v,rs,c.p⟩ (fun k => B ≤ k) (fun k => if w2.heap.size + 1 ≤ k then 4 else if k = w2.heap.size then 0 else P k):=by
 refine ⟨?_,?_,?_,?_,?_⟩
 ·exact h.n.keep (fun k hl s => (hk k s.1 (by omega)).trans (hb.block k hl)) (fun k hl s => ⟨s.1,by show (if w2.heap.size + 1 ≤ k then 4 else if k = w2.heap.size then 0 else P k) = 1;rw [if_neg (by omega),if_neg (by omega)];exact s.2⟩)
 ·exact h.k.keep (fun k hl s => (hk k s.1 (by omega)).trans (hb.block k hl)) (fun k hl s => ⟨s.1,by show (if w2.heap.size + 1 ≤ k then 4 else if k = w2.heap.size then 0 else P k) = 2;rw [if_neg (by omega),if_neg (by omega)];exact s.2⟩)
 ·exact h.v.keep (fun k hl s => (hk k s.1 (by omega)).trans (hb.block k hl)) (fun k hl s => ⟨s.1,by show (if w2.heap.size + 1 ≤ k then 4 else if k = w2.heap.size then 0 else P k) = 3;rw [if_neg (by omega),if_neg (by omega)];exact s.2⟩)
 ·refine hN.keep (fun k _ s => hk k (by rcases s with s | s;exact s.1.1;omega) (by rcases s with s | s <;> omega)) (fun k _ s => ?_)
  rcases s with s | s
  ·exact ⟨s.1.1,by show (if w2.heap.size + 1 ≤ k then 4 else if k = w2.heap.size then 0 else P k) = 4;rw [if_neg (by omega),if_neg (by omega)];exact s.1.2⟩
  ·exact ⟨by show B ≤ k;omega,if_pos s⟩
 ·exact h.p.keep (fun k hl s => (hk k s.1 (by omega)).trans (hb.block k hl)) (fun k hl s => ⟨s.1,by show (if w2.heap.size + 1 ≤ k then 4 else if k = w2.heap.size then 0 else P k) = 5;rw [if_neg (by omega),if_neg (by omega)];exact s.2⟩)
theorem ClOwnP.put3o {V w5 w6 : World} {d : Ad} {c : Cr} {B o : Nat} {P : Nat → Nat} (h : ClOwnP V d c (fun k => B ≤ k) P) (hB : B ≤ V.heap.size) (ho : P o = 0) (hoV : o < V.heap.size) {a : Option Addr} {l cp : Nat} {rs : List (List Fv)} (hN : ROwn w5 a l cp 8 63 rs (fun k => ((B ≤ k ∧ P k = 3) ∧ k < V.heap.size) ∨ V.heap.size ≤ k)) (hb : Below V.heap.size V w5) (hk : ∀ k,B ≤ k → ¬ k = o → w6.heap[k]? = w5.heap[k]?) : ClOwn w6 ⟨d.a1,d.l1,d.c1,d.a2,d.l2,d.c2,a,l,cp,d.a4,d.l4,d.c4,d.a5,d.l5,d.c5⟩ ⟨c.n,c.k,rs,c.x,c.p⟩ (fun k => B ≤ k):=by
 refine ⟨fun k => if V.heap.size ≤ k then 3 else P k,?_,?_,?_,?_,?_⟩
 ·exact h.n.keep (fun k hl s => (hk k s.1 (fun e => by have s2:=s.2;rw [e,ho] at s2;exact absurd s2 (by decide))).trans (hb.block k hl)) (fun k hl s => ⟨s.1,by show (if V.heap.size ≤ k then 3 else P k) = 1;rw [if_neg (by omega)];exact s.2⟩)
 ·exact h.k.keep (fun k hl s => (hk k s.1 (fun e => by have s2:=s.2;rw [e,ho] at s2;exact absurd s2 (by decide))).trans (hb.block k hl)) (fun k hl s => ⟨s.1,by show (if V.heap.size ≤ k then 3 else P k) = 2;rw [if_neg (by omega)];exact s.2⟩)
 ·refine hN.keep (fun k _ s => hk k (by rcases s with s | s;exact s.1.1;omega) (by rcases s with s | s;exact (fun e => by rw [e,ho] at s;exact absurd s.1.2 (by decide));omega)) (fun k _ s => ?_)
  rcases s with s | s
  ·exact ⟨s.1.1,by show (if V.heap.size ≤ k then 3 else P k) = 3;rw [if_neg (by omega)];exact s.1.2⟩
  ·exact ⟨by show B ≤ k;omega,if_pos s⟩
 ·exact h.x.keep (fun k hl s => (hk k s.1 (fun e => by have s2:=s.2;rw [e,ho] at s2;exact absurd s2 (by decide))).trans (hb.block k hl)) (fun k hl s => ⟨s.1,by show (if V.heap.size ≤ k then 3 else P k) = 4;rw [if_neg (by omega)];exact s.2⟩)
 ·exact h.p.keep (fun k hl s => (hk k s.1 (fun e => by have s2:=s.2;rw [e,ho] at s2;exact absurd s2 (by decide))).trans (hb.block k hl)) (fun k hl s => ⟨s.1,by show (if V.heap.size ≤ k then 3 else P k) = 5;rw [if_neg (by omega)];exact s.2⟩)

theorem idropX_any (d : Ad) (c : Cl) (t : ByteArray) (E : Nat → Addr) (w : World) (hr : ClRow w d c.raw) (hG : Ers w E) (ht : t.size ≤ 1048576) :
  Calls Tryz.prog 8 #[.agg #[.slice d.a1 d.l1 d.c1,.slice d.a2 d.l2 d.c2,.slice d.a3 d.l3 d.c3,.slice d.a4 d.l4 d.c4,.slice d.a5 d.l5 d.c5,.int .i64 c.now],.string t] w (OutI (DropClmIs c t) w):=by
 have HR:=hidK hr;have HE:=hidK hG;have HB:=hidK (Below.refl w.heap.size w);clear hr hG
 go_enter Tryz.func8,Tryz.ntmps8
 go_wp2_with fail;refine (idwX_any d c t E (clmSt c t) (clmOk c t) _ (HR.out.below (HB.out.trans ((below2 _ _ _).mono HB.out.size))) (HE.out.below (HB.out.trans ((below2 _ _ _).mono HB.out.size))) (fun W h1 h2 h3 => ixst_any d c t E W h1 h2 h3 ht)).mono ?_;rintro e w1 ⟨hb,hf⟩;obtain ⟨HA0,HA1,hbx⟩:=slots2 hb;have Bk:=hidK HA0;have Br:=hidK HA1;replace HB:=upB HB hbx;clear hb hbx HA0 HA1
 rcases hf with ⟨i,hi8,hwhy,rfl⟩ | ⟨⟨hl,hT,hok⟩,rfl⟩
 ·have HV : Hid (DropClmIs c t (co0 (codeOf i))):=.inl ⟨i,hwhy,rfl⟩;clear hwhy;obtain ⟨cc,hcc⟩ : ∃ cc,cc = codeOf i:=⟨_,rfl⟩;rw [← hcc] at HV;obtain ⟨k0,k1,k2,k3,k4,k5⟩:=cs6 Bk.out;have ltk_1:=lt_of_some Bk.out;go_wp2_with fail;refine (refused_any E i cc hcc _ (HE.out.below HB.out) hi8).mono ?_;rintro e w2 ⟨rfl,hb⟩;clear k0 k1 k2 k3 k4 k5 ltk_1;replace Bk:=upK Bk hb;replace Br:=upK Br hb;replace HB:=upB HB hb;clear hb;clear hcc;obtain ⟨r0,r1,r2,r3,r4,r5,r6,r7⟩:=cs8 Br.out;have ltr_2:=lt_of_some Br.out;have fr0:=froK Br.out 0;have fr1:=froK Br.out 1;have fr2:=froK Br.out 2;have fr3:=froK Br.out 3;have fr4:=froK Br.out 4;have fr5:=froK Br.out 5;have fr6:=froK Br.out 6;have fr7:=froK Br.out 7;have hrl : w.heap.size + 1 < w2.heap.size:=lt_of_some Br.out
  go_wp2
  exact bodyPost_ret (v:=.agg #[.slice none 0 0,.slice none 0 0,.slice none 0 0,.slice none 0 0,.slice none 0 0,.int .i64 0,.string ⟨#[]⟩,.int .i64 cc]) (by simp [results,Tryz.results8,go_sem, *]) rfl ⟨ad0,co0 cc,rfl,HV.out,own0 _ _,sb1 (sb1 (sb1 (sb1 (sb1 (sb1 (sb1 (sb1 (HB.out))))))))⟩
 have HQ1 : Hid (w.heap.size + 1 < w1.heap.size):=lt_of_some Br.out;have HV : Hid (∀ vs,DisksIs c t vs → DropClmIs c t ⟨dropX c t vs,⟨#[]⟩,0⟩):=fun vs h => .inr ⟨hl,hT,hok,vs,h,rfl⟩;have HT:=hidK hT;have HS:=hidK hT.sm;clear hT hok;obtain ⟨k0,k1,k2,k3,k4,k5⟩:=cs6 Bk.out;have ltk_1:=lt_of_some Bk.out;go_wp2_with fail;refine (iownC_any d c _ (HR.out.below HB.out) HS.out).mono ?_;rintro e w2 ⟨d',rfl,ho,hb⟩;have HQ2:=hidK hb.size;clear k0 k1 k2 k3 k4 k5 ltk_1;replace Bk:=upK Bk hb;replace Br:=upK Br hb;replace HB:=upB HB hb;clear hb;obtain ⟨P,hP⟩:=ho;have HP:=hidK hP;have hq1 : w.heap.size + 1 < w1.heap.size:=HQ1.out;have hq2 : w1.heap.size ≤ w2.heap.size:=HQ2.out;clear hP;obtain ⟨k0,k1,k2,k3,k4,k5⟩:=cs6 Bk.out;have ltk_2:=lt_of_some Bk.out;obtain ⟨r0,r1,r2,r3,r4,r5,r6,r7⟩:=cs8 Br.out;have ltr_2:=lt_of_some Br.out;go_wp2_with fail;have h5:=(HP.out.x.into (S':=fun k => (w1.heap.size ≤ k ∧ P k = 4) ∧ k < w2.heap.size) (fun k hk s => ⟨s,hk⟩)).below (below1 w2 (.cells #[.slice d'.a1 d'.l1 d'.c1,.slice d'.a2 d'.l2 d'.c2,.slice d'.a3 d'.l3 d'.c3,.slice d'.a4 d'.l4 d'.c4,.slice d'.a5 d'.l5 d'.c5,.int .i64 c.now] 36));refine (iwoxd_any d'.a4 d'.l4 d'.c4 c.xs t _ _ h5 (by have h6:=HP.out.x.1;have h7 : (c.xs.map xdF).length = d'.l4:=h6;rw [List.length_map] at h7;have:=HS.out.x;omega)).mono ?_;rintro e w3 ⟨a',l',c',rfl,hN,hb⟩;rw [size1] at hN;have hbw23:=(slots1 hb).2;have HN:=hidK hN;clear hN h5;clear k0 k1 k2 k3 k4 k5 ltk_2 r0 r1 r2 r3 r4 r5 r6 r7 ltr_2;obtain ⟨HA0,hbx⟩:=slots1 hb;replace Bk:=upK Bk hbx;replace Br:=upK Br hbx;have Bo:=hidK HA0;replace HB:=upB HB hbx;clear hb hbx HA0;have hq3 : w2.heap.size < w3.heap.size:=lt_of_some Bo.out;have HBX:=hidK hbw23;clear hbw23;obtain ⟨k0,k1,k2,k3,k4,k5⟩:=cs6 Bk.out;have ltk_3:=lt_of_some Bk.out;obtain ⟨r0,r1,r2,r3,r4,r5,r6,r7⟩:=cs8 Br.out
 have ltr_3:=lt_of_some Br.out;obtain ⟨o0,o1,o2,o3,o4,o5⟩:=cs6 Bo.out;have lto_3:=lt_of_some Bo.out;have fo0:=froK Bo.out 0;have fo1:=froK Bo.out 1;have fo2:=froK Bo.out 2;have fo3:=froK Bo.out 3;have fo4:=froK Bo.out 4;have fo5:=froK Bo.out 5;go_wp2_with fail;have hcp : ClOwnP (w3.setCell ⟨w2.heap.size,3,none⟩ (.slice a' l' c')) ⟨d'.a1,d'.l1,d'.c1,d'.a2,d'.l2,d'.c2,d'.a3,d'.l3,d'.c3,a',l',c',d'.a5,d'.l5,d'.c5⟩ (⟨c.raw.n,c.raw.k,c.raw.v,(wo Xd.n t c.xs).map xdF,c.raw.p⟩ : Cr) (fun k => w1.heap.size ≤ k) (fun k => if w2.heap.size + 1 ≤ k then 4 else if k = w2.heap.size then 0 else P k):=HP.out.put4o hq2 HN.out HBX.out (fun k h1 h2 => by rw [Below.heap_setCell _ _ _ _ h2]);have hbv : Below w.heap.size w (w3.setCell ⟨w2.heap.size,3,none⟩ (.slice a' l' c')):=set_below (by omega) HB.out;have hbo : (w3.setCell ⟨w2.heap.size,3,none⟩ (.slice a' l' c')).heap[w2.heap.size]? = some (.cells #[.slice d'.a1 d'.l1 d'.c1,.slice d'.a2 d'.l2 d'.c2,.slice d'.a3 d'.l3 d'.c3,.slice a' l' c',.slice d'.a5 d'.l5 d'.c5,.int .i64 c.now] 36 (0,0)):=block_set Bo.out _;have hbr : (w3.setCell ⟨w2.heap.size,3,none⟩ (.slice a' l' c')).heap[w.heap.size + 1]? = some (.cells #[.slice none 0 0,.slice none 0 0,.slice none 0 0,.slice none 0 0,.slice none 0 0,.int .i64 0,.string ⟨#[]⟩,.int .i64 0] 38 (0,0)):=(Below.heap_setCell _ _ _ _ (show w.heap.size + 1 ≠ w2.heap.size by omega)).trans Br.out
 have hsv : (w3.setCell ⟨w2.heap.size,3,none⟩ (.slice a' l' c')).heap.size = w3.heap.size:=by simp [World.setCell]
 generalize (w3.setCell ⟨w2.heap.size,3,none⟩ (.slice a' l' c')) = V at *
 clear k0 k1 k2 k3 k4 k5 ltk_3 r0 r1 r2 r3 r4 r5 r6 r7 ltr_3 o0 o1 o2 o3 o4 o5 lto_3;have HCP:=hidK hcp;replace HB:=hidK hbv;replace Bo:=hidK hbo;replace Br:=hidK hbr;clear hcp hbv hbo hbr HN HP Bk HBX;refine (ibd_any d c t w _ HR.out HB.out HT.out.2.1.2.2.2.1.2.2 HT.out.2.1.2.2.1.2.2 (RowsOk.ne HT.out.2.1)).mono ?_;rintro e w4 ⟨hb,hf⟩;have HBX:=hidK hb;have hq4:=hb.size;replace Br:=upK Br hb;replace Bo:=upK Bo hb;replace HB:=upB HB hb;clear hb
 rcases hf with ⟨v,va,vl,vc,hbd,rfl,z0,z2,hvr⟩ | ⟨hno,rfl⟩
 ·obtain ⟨jv,hjv⟩:=hbd.at;have hok:=HT.out.2.1.2.2.1.2.1 jv v hjv
  have hvl8 : vl ≤ 8:=by have h8 : v.zs.length = vl:=hvr.1;have h9:=(names_six hok.2.2.2.2.2.2).1;omega
  have z3 : v.k.size ≤ 9223372036854775807:=by have:=hok.2.2.2.1.2.1;omega
  have HBD:=hidK hbd;have HVR:=hidK hvr;clear hbd hvr hok hjv;obtain ⟨r0,r1,r2,r3,r4,r5,r6,r7⟩:=cs8 Br.out;have ltr_4:=lt_of_some Br.out;obtain ⟨o0,o1,o2,o3,o4,o5⟩:=cs6 Bo.out;have lto_4:=lt_of_some Bo.out;go_wp2_with fail;have ho5 : ROwn (w4.alloc (.cells #[.string v.n,.int .i64 v.c,.string v.z,.string v.k,.bool v.x,.string v.m,.bool v.y,.slice va vl vc] 63)) d'.a3 d'.l3 d'.c3 8 63 (c.vs.map vdF) (fun k => (w1.heap.size ≤ k ∧ (fun k => if w2.heap.size + 1 ≤ k then 4 else if k = w2.heap.size then 0 else P k) k = 3) ∧ k < V.heap.size):=((HCP.out.v.into (fun k hk s => ⟨s,hk⟩)).below HBX.out).below (below1 _ _);have hk5 : RRow (w4.alloc (.cells #[.string v.n,.int .i64 v.c,.string v.z,.string v.k,.bool v.x,.string v.m,.bool v.y,.slice va vl vc] 63)) d'.a2 d'.l2 d'.c2 4 (c.ks.map kdF):=(HCP.out.k.row.below HBX.out).below (below1 _ _);refine (ild_any ⟨d'.a1,d'.l1,d'.c1,d'.a2,d'.l2,d'.c2,d'.a3,d'.l3,d'.c3,a',l',c',d'.a5,d'.l5,d'.c5⟩ c v va vl vc _ _ ho5 hk5 HT.out.2.1.2.1.2.2 (HVR.out.below (HB.out.trans ((below1 _ _).mono HB.out.size))) (by have h6:=HCP.out.v.1;have h7 : (c.vs.map vdF).length = d'.l3:=h6;rw [List.length_map] at h7;have:=HS.out.v;show d'.l3 ≤ 8;omega) hvl8 z0 z2 z3).mono ?_;rintro e w5 ⟨a5,l5,c5,vs,rfl,hvs,hN5,hb⟩;rw [size1] at hN5;have hb45:=(slots1 hb).2;have HN5:=hidK (hN5.into (S':=fun k => ((w1.heap.size ≤ k ∧ (fun k => if w2.heap.size + 1 ≤ k then 4 else if k = w2.heap.size then 0 else P k) k = 3) ∧ k < V.heap.size) ∨ V.heap.size ≤ k) (fun k _ s => s.imp id (fun q => by have q1 : w4.heap.size + 1 ≤ k:=q;omega)));have HX5:=hidK (HBX.out.trans (hb45.mono (by omega)));have HVS:=hidK (HV.out vs (hvs.disks HT.out HBD.out));clear hN5 hb45 hvs ho5 hk5;clear r0 r1 r2 r3 r4 r5 r6 r7 ltr_4 o0 o1 o2 o3 o4 o5 lto_4;obtain ⟨HA0,hbx⟩:=slots1 hb;replace Br:=upK Br hbx;replace Bo:=upK Bo hbx;have Bv:=hidK HA0;replace HB:=upB HB hbx
  clear hb hbx HA0;have hq5 : w2.heap.size < w5.heap.size:=lt_of_some Bo.out;obtain ⟨r0,r1,r2,r3,r4,r5,r6,r7⟩:=cs8 Br.out;have ltr_5:=lt_of_some Br.out;obtain ⟨o0,o1,o2,o3,o4,o5⟩:=cs6 Bo.out;have lto_5:=lt_of_some Bo.out;have fr0:=froK Br.out 0;have fr1:=froK Br.out 1;have fr2:=froK Br.out 2;have fr3:=froK Br.out 3;have fr4:=froK Br.out 4;have fr5:=froK Br.out 5;have fr6:=froK Br.out 6;have fr7:=froK Br.out 7;have fo0:=froK Bo.out 0;have fo1:=froK Bo.out 1;have fo2:=froK Bo.out 2;have fo3:=froK Bo.out 3;have fo4:=froK Bo.out 4;have fo5:=froK Bo.out 5
  have hrl : w.heap.size + 1 < w5.heap.size:=by omega
  have hne : ¬ w.heap.size + 1 = w2.heap.size:=by omega
  have hne2 : ¬ w2.heap.size = w.heap.size + 1:=by omega
  go_wp2
  refine bodyPost_ret (v:=.agg #[.slice d'.a1 d'.l1 d'.c1,.slice d'.a2 d'.l2 d'.c2,.slice a5 l5 c5,.slice a' l' c',.slice d'.a5 d'.l5 d'.c5,.int .i64 c.now,.string ⟨#[]⟩,.int .i64 0]) (by simp [results,Tryz.results8,go_sem, *]) rfl ⟨⟨d'.a1,d'.l1,d'.c1,d'.a2,d'.l2,d'.c2,a5,l5,c5,a',l',c',d'.a5,d'.l5,d'.c5⟩,⟨dropX c t vs,⟨#[]⟩,0⟩,rfl,HVS.out,?_,sb1 (sb1 (sb1 (sb1 (sb1 (sb1 (sb1 (sb1 (set_below (show w.heap.size ≤ w2.heap.size by omega) (HB.out)))))))))⟩;have h9:=HCP.out.put3o (o:=w2.heap.size) (by omega) (by show (if w2.heap.size + 1 ≤ w2.heap.size then 4 else if w2.heap.size = w2.heap.size then 0 else P w2.heap.size) = 0;rw [if_neg (by omega),if_pos rfl]) (by omega) HN5.out HX5.out (w6:=(((((((((w5.setCell ⟨w2.heap.size,2,none⟩ (.slice a5 l5 c5)).setCell ⟨w.heap.size + 1,0,none⟩ (.slice d'.a1 d'.l1 d'.c1)).setCell ⟨w.heap.size + 1,1,none⟩ (.slice d'.a2 d'.l2 d'.c2)).setCell ⟨w.heap.size + 1,2,none⟩ (.slice a5 l5 c5)).setCell ⟨w.heap.size + 1,3,none⟩ (.slice a' l' c')).setCell ⟨w.heap.size + 1,4,none⟩ (.slice d'.a5 d'.l5 d'.c5)).setCell ⟨w.heap.size + 1,5,none⟩ (.int .i64 c.now)).setCell ⟨w.heap.size + 1,6,none⟩ (.string ⟨#[]⟩)).setCell ⟨w.heap.size + 1,7,none⟩ (.int .i64 0))) (fun k h1 h2 => by rw [Below.heap_setCell _ _ _ _ (show k ≠ w.heap.size + 1 by omega),Below.heap_setCell _ _ _ _ (show k ≠ w.heap.size + 1 by omega),Below.heap_setCell _ _ _ _ (show k ≠ w.heap.size + 1 by omega),Below.heap_setCell _ _ _ _ (show k ≠ w.heap.size + 1 by omega),Below.heap_setCell _ _ _ _ (show k ≠ w.heap.size + 1 by omega),Below.heap_setCell _ _ _ _ (show k ≠ w.heap.size + 1 by omega),Below.heap_setCell _ _ _ _ (show k ≠ w.heap.size + 1 by omega),Below.heap_setCell _ _ _ _ (show k ≠ w.heap.size + 1 by omega),Below.heap_setCell _ _ _ _ (show k ≠ w2.heap.size by omega)]);exact h9.into (fun k _ s => by have s1 : w1.heap.size ≤ k:=s;show w.heap.size ≤ k;omega)
 ·have HVS:=hidK (HV.out c.vs (.inr ⟨hno,rfl⟩));clear hno;have hq5 : w2.heap.size < w4.heap.size:=lt_of_some Bo.out;obtain ⟨r0,r1,r2,r3,r4,r5,r6,r7⟩:=cs8 Br.out;have ltr_4:=lt_of_some Br.out;obtain ⟨o0,o1,o2,o3,o4,o5⟩:=cs6 Bo.out;have lto_4:=lt_of_some Bo.out;have fr0:=froK Br.out 0;have fr1:=froK Br.out 1;have fr2:=froK Br.out 2;have fr3:=froK Br.out 3;have fr4:=froK Br.out 4;have fr5:=froK Br.out 5;have fr6:=froK Br.out 6;have fr7:=froK Br.out 7
  have hrl : w.heap.size + 1 < w4.heap.size:=by omega
  have hne : ¬ w.heap.size + 1 = w2.heap.size:=by omega
  have hne2 : ¬ w2.heap.size = w.heap.size + 1:=by omega
  go_wp2
  refine bodyPost_ret (v:=.agg #[.slice d'.a1 d'.l1 d'.c1,.slice d'.a2 d'.l2 d'.c2,.slice d'.a3 d'.l3 d'.c3,.slice a' l' c',.slice d'.a5 d'.l5 d'.c5,.int .i64 c.now,.string ⟨#[]⟩,.int .i64 0]) (by simp [results,Tryz.results8,go_sem, *]) rfl ⟨⟨d'.a1,d'.l1,d'.c1,d'.a2,d'.l2,d'.c2,d'.a3,d'.l3,d'.c3,a',l',c',d'.a5,d'.l5,d'.c5⟩,⟨dropX c t c.vs,⟨#[]⟩,0⟩,rfl,HVS.out,?_,(sb1 (sb1 (sb1 (sb1 (sb1 (sb1 (sb1 (sb1 (HB.out))))))))).alloc (by simp [World.setCell];omega) _⟩;refine ⟨(fun k => if w2.heap.size + 1 ≤ k then 4 else if k = w2.heap.size then 0 else P k),HCP.out.keep (fun k hk s => ?_) (fun k _ s => ?_)⟩
  ·have s1 : w1.heap.size ≤ k:=s;rw [Below.heap_alloc _ _ _ (by simp [World.setCell];omega),Below.heap_setCell _ _ _ _ (show k ≠ w.heap.size + 1 by omega),Below.heap_setCell _ _ _ _ (show k ≠ w.heap.size + 1 by omega),Below.heap_setCell _ _ _ _ (show k ≠ w.heap.size + 1 by omega),Below.heap_setCell _ _ _ _ (show k ≠ w.heap.size + 1 by omega),Below.heap_setCell _ _ _ _ (show k ≠ w.heap.size + 1 by omega),Below.heap_setCell _ _ _ _ (show k ≠ w.heap.size + 1 by omega),Below.heap_setCell _ _ _ _ (show k ≠ w.heap.size + 1 by omega),Below.heap_setCell _ _ _ _ (show k ≠ w.heap.size + 1 by omega)];exact HBX.out.block k hk
  ·have s1 : w1.heap.size ≤ k:=s
   show w.heap.size ≤ k
   omega

theorem sbusy_any (d : Ad) (c : Cl) (k : Nat) (x : Vd) (w : World) (hr : ClRow w d c.raw) (hx : c.vs[k]? = some x) :
  Calls Tryz.prog 25 #[.agg #[.slice d.a1 d.l1 d.c1,.slice d.a2 d.l2 d.c2,.slice d.a3 d.l3 d.c3,.slice d.a4 d.l4 d.c4,.slice d.a5 d.l5 d.c5,.int .i64 c.now],.int .i64 k] w (BoolB (Busy c x) w):=by
 obtain ⟨a1,l1,y1,a2,l2,y2,a3,l3,y3,a4,l4,y4,a5,l5,y5⟩:=d;dsimp only;have HR:=hidK hr
 have hl1 : c.ns.length = l1:=by simpa using (show (c.ns.map ndF).length = l1 from hr.n.1)
 have hm1 : l1 ≤ 9223372036854775807:=Nat.le_trans hr.n.2.1 hr.n.2.2.1
 have hl2 : c.ks.length = l2:=by simpa using (show (c.ks.map kdF).length = l2 from hr.k.1)
 have hm2 : l2 ≤ 9223372036854775807:=Nat.le_trans hr.k.2.1 hr.k.2.2.1
 have hl3 : c.vs.length = l3:=by simpa using (show (c.vs.map vdF).length = l3 from hr.v.1)
 have hm3 : l3 ≤ 9223372036854775807:=Nat.le_trans hr.v.2.1 hr.v.2.2.1
 have hl4 : c.xs.length = l4:=by simpa using (show (c.xs.map xdF).length = l4 from hr.x.1)
 have hm4 : l4 ≤ 9223372036854775807:=Nat.le_trans hr.x.2.1 hr.x.2.2.1
 have hl5 : c.ps.length = l5:=by simpa using (show (c.ps.map pdF).length = l5 from hr.p.1)
 have hm5 : l5 ≤ 9223372036854775807:=Nat.le_trans hr.p.2.1 hr.p.2.2.1;clear hr;have HX:=hidK hx
 have hk3 : k < l3:=by have:=(List.getElem?_eq_some_iff.1 hx).1;omega
 have hk3i : (k : Int) < l3:=by omega
 clear hx;obtain ⟨b3,o3,x',rfl,hb3,hx',hat⟩:=vd_at HR.out.v hk3;obtain rfl : x = x':=Option.some.inj (HX.out.symm.trans hx');have HAT:=hidK hat;obtain ⟨ea,el,ec,hvr,z0,z2,z3,z5,c0,c1,c2,c3,c4,c5,c6,c7⟩:=vd_cells hat;have HV:=hidK hvr
 have HE : Hid (0 < el ↔ ¬ x.zs = []):=by
  have h1 : x.zs.length = el:=hvr.1
  show _ ↔ _
  rw [← h1,List.length_pos_iff]
 clear hat hvr z0 z2 z3 z5 hx'
 go_enter Tryz.func25,Tryz.ntmps25
 go_wp2
 go_loopw [5,6] (fun q i wr => ∃ (j : Nat) (r : Bool),j ≤ l1 ∧ q = .bool r ∧ i = .int .i64 j ∧ Hid (r = true ↔ (¬ x.zs = [] ∨ ∃ (i : Nat) (n : Nd),i < j ∧ c.ns[i]? = some n ∧ InL n.zs x.n)) ∧ Hid (Below w.heap.size w wr) ∧ Hid (wr.heap[w.heap.size]? = some (.cells #[.slice a1 l1 y1,.slice a2 l2 y2,.slice (some ⟨b3,o3,none⟩) l3 y3,.slice a4 l4 y4,.slice a5 l5 y5,.int .i64 c.now] 36 (0,0)))) (fun _ i _ => l1 - (intOf i).toNat)
 case atStart => exact ⟨0,decide (0 < el),by omega,by simp,rfl,show _ ↔ _ by rw [decide_eq_true_iff,HE.out];exact ⟨.inl,fun h => h.elim id (fun ⟨i,n,h,_⟩ => by omega)⟩,below1 _ _,Array.getElem?_push_size⟩
 case round =>
  obtain ⟨j,r,hj,rfl,rfl,HS,HB,Bk⟩:=hrel;clear c0 c1 c2 c3 c4 c5 c6 c7;obtain ⟨k0,k1,k2,k3,k4,k5⟩:=cs6 Bk.out;have ltk:=lt_of_some Bk.out
  by_cases hlt : j < l1
  ·obtain ⟨b,o,n,rfl,hb,hxn,hat⟩:=nd_at (HR.out.n.below HB.out) hlt;obtain ⟨va,vl,vc,hvr,z0,z1,c0,c1,c2,c3,c4,c5,c6⟩:=nd_cells hat;have HN:=hidK hxn;have HT:=hidK hvr;have g0:=(cell_below HB.out hb3).trans (vd_cells HAT.out).choose_spec.choose_spec.choose_spec.2.2.2.2.2.1
   have hj3 : (j : Int) < l1:=by omega
   have hb3' : b3 < wr.heap.size:=Nat.lt_of_lt_of_le hb3 HB.out.size;clear hat hxn z0 z1 hvr
   cases r
   ·by_cases hin : InL n.zs x.n
    ·have HIN:=hidK hin;clear hin;have Gk:=Bk;have HW:=HB;obtain ⟨k0,k1,k2,k3,k4,k5⟩:=sl6 Gk;have mz:=fun q : Wd wr => (q.cell hb).trans c6;have mn : ∀ q : Wd wr,q.w.cell? ⟨b3,o3 + k * 8,none⟩ = some (.string x.n):=fun q => (q.cell (hb3')).trans (g0);have hne0:=Wd.ne wr;have HC0:=hidK (fun q : Wd wr => (shas_any va vl vc n.zs x.n q.w (HT.out.below (q.b))).mono (fun _ _ h => BoolB.yes h HIN.out));go_wp2_with fail;refine wp_region_wide (by kernel_rfl) (by kernel_rfl) ?_
     repeat (go_big_quiet_step (first | (go_at_call 26;exact Calls.wide (HC0.out _)) | fail))
     refine wpQuiet_nil ?_;rintro _ ⟨q1,rfl⟩;have HB1:=upB HW q1.b;have Ck:=upK Gk q1.b;clear hne0 HW HB HC0 k0 k1 k2 k3 k4 k5 mz mn Gk Bk g0;have HB:=HB1;clear HB1;have Bk:=Ck;clear Ck
     go_wp2
     refine ⟨⟨j + 1,true,by omega,rfl,by go_num,show _ ↔ _ from ⟨fun _ => .inr ⟨j,n,by omega,HN.out,HIN.out⟩,fun _ => rfl⟩,HB.out,Bk.out⟩,by simp [intOf];omega⟩
    ·have HIN:=hidK hin;clear hin;have Gk:=Bk;have HW:=HB;obtain ⟨k0,k1,k2,k3,k4,k5⟩:=sl6 Gk;have mz:=fun q : Wd wr => (q.cell hb).trans c6;have mn : ∀ q : Wd wr,q.w.cell? ⟨b3,o3 + k * 8,none⟩ = some (.string x.n):=fun q => (q.cell (hb3')).trans (g0);have hne0:=Wd.ne wr;have HC0:=hidK (fun q : Wd wr => (shas_any va vl vc n.zs x.n q.w (HT.out.below (q.b))).mono (fun _ _ h => BoolB.no h HIN.out));go_wp2_with fail;refine wp_region_wide (by kernel_rfl) (by kernel_rfl) ?_
     repeat (go_big_quiet_step (first | (go_at_call 26;exact Calls.wide (HC0.out _)) | fail))
     refine wpQuiet_nil ?_;rintro _ ⟨q1,rfl⟩;have HB1:=upB HW q1.b;have Ck:=upK Gk q1.b;clear hne0 HW HB HC0 k0 k1 k2 k3 k4 k5 mz mn Gk Bk g0;have HB:=HB1;clear HB1;have Bk:=Ck;clear Ck
     go_wp2
     refine ⟨⟨j + 1,false,by omega,rfl,by go_num,show _ ↔ _ from ⟨fun h => (by cases h),fun h => HS.out.2 (h.elim .inl (fun ⟨i,m,h1,h2,h3⟩ => .inr ⟨i,m,by by_cases e : i = j;subst e;rw [HN.out] at h2;cases h2;exact absurd h3 HIN.out;omega,h2,h3⟩))⟩,HB.out,Bk.out⟩,by simp [intOf];omega⟩
   ·skip
    have Gk:=Bk;have HW:=HB;obtain ⟨k0,k1,k2,k3,k4,k5⟩:=sl6 Gk;have mz:=fun q : Wd wr => (q.cell hb).trans c6;have mn : ∀ q : Wd wr,q.w.cell? ⟨b3,o3 + k * 8,none⟩ = some (.string x.n):=fun q => (q.cell (hb3')).trans (g0);have hne0:=Wd.ne wr;go_wp2_with fail;refine wp_region_wide (by kernel_rfl) (by kernel_rfl) ?_
    repeat (go_big_quiet_step (first | fail))
    refine wpQuiet_nil ?_;rintro _ ⟨q1,rfl⟩;have HB1:=upB HW q1.b;have Ck:=upK Gk q1.b;clear hne0 HW HB k0 k1 k2 k3 k4 k5 mz mn Gk Bk g0;have HB:=HB1;clear HB1;have Bk:=Ck;clear Ck
    go_wp2
    refine ⟨⟨j + 1,true,by omega,rfl,by go_num,show _ ↔ _ from ⟨fun _ => (HS.out.1 (by first | trivial | rfl)).elim .inl (fun ⟨i,m,h1,h2⟩ => .inr ⟨i,m,by omega,h2⟩),fun _ => rfl⟩,HB.out,Bk.out⟩,by simp [intOf];omega⟩
  ·obtain rfl : l1 = j:=by omega
   go_wp2
   go_ret;refine ⟨r,rfl,?_,HB.out⟩;rw [HS.out];exact ⟨fun h => h.elim .inl (fun ⟨i,n,_,h1,h2⟩ => .inr ⟨i,n,h1,h2⟩),fun h => h.elim .inl (fun ⟨i,n,h1,h2⟩ => .inr ⟨i,n,by have:=(List.getElem?_eq_some_iff.1 h1).1;omega,h1,h2⟩)⟩

theorem scut_any (a : Option Addr) (len cap : Nat) (xs : List Vd) (t : ByteArray) (i : Nat) (x : Vd) (Q : Nat → Prop) (w : World) (ho : ROwn w a len cap 8 63 (xs.map vdF) Q) (hl : len ≤ 8) (hri : RisBy Vd.n xs) (hx : xs[i]? = some x) (hn : x.n = t) :
  Calls Tryz.prog 29 #[.slice a len cap,.int .i64 i] w fun e w' => ∃ a' l' c',e = .returned (.slice a' l' c') ∧ ROwn w' a' l' c' 8 63 ((wo Vd.n t xs).map vdF) (fun k => Q k ∨ w.heap.size ≤ k) ∧ Below w.heap.size w w':=by
 have HW:=hidK (wo_erase hri hx hn)
 have hxl : xs.length = len:=by have h6 : (xs.map vdF).length = len:=ho.1;rw [List.length_map] at h6;exact h6
 have hi5 : i < len:=by have:=(List.getElem?_eq_some_iff.1 hx).1;omega
 have hmn : len ≤ cap:=ho.2.1;have hmx : cap ≤ 9223372036854775807:=ho.2.2.1;obtain ⟨vss,H,hV,hcell⟩:=ho.recs
 have hvl : vss.length = len:=by have h6 : vss.length = (xs.map vdF).length:=hV.len;rw [List.length_map] at h6;omega
 obtain ⟨b,hxa,hbS⟩ : ∃ b,a = some ⟨b,0,none⟩ ∧ b < w.heap.size:=by
  have h1 : vss[i]? = some (vss[i]'(by omega)):=List.getElem?_eq_getElem _
  have h2 : 0 < (vss[i]'(by omega)).length:=by rw [hV.all i _ h1];decide
  obtain ⟨g,e,_,h3⟩:=hcell _ _ (flat_at hV.all h1 (List.getElem?_eq_getElem h2));exact ⟨g,e,cell_lt h3⟩
 subst hxa
 have HC : Hid (∀ (j : Nat) u,vss.flatten[j]? = some u → w.cell? ⟨b,j,none⟩ = some u):=fun j u hj => by
  obtain ⟨g,e,_,h3⟩:=hcell j u hj
  cases e
  exact h3
 have HVR:=hidK hV;obtain ⟨i5,hi5',hz0,hz1,hz2⟩:=info_parts infovd;have HI0:=hidK (And.intro hi5' (And.intro hz0 (And.intro hz1 hz2)));have hown0 : World.ownsRow (w.alloc (.cells #[] 63)) w.heap.size 63 8 (.slice (some ⟨w.heap.size,0,none⟩) 0 0) 0 []:=⟨by simp,.inr ⟨w.heap.size,0,#[],rfl,Nat.le_refl _,Array.getElem?_push_size,Nat.le_refl _,by unfold maxLen;omega,by simp,by simp⟩⟩;have HOW:=hidK hown0
 have hik : (i : Int) ≤ cap:=by omega
 clear hV hcell ho hri hx hn hi5' hz0 hz1 hz2 hown0
 go_enter Tryz.func29,Tryz.ntmps29
 go_wp2_with (first | (at_builtin;refine wpList_append_own _ rfl _ _ 32 rfl w.heap.size 63 i5 (.agg #[.string ⟨#[]⟩,.int .i64 0,.string ⟨#[]⟩,.string ⟨#[]⟩,.bool false,.string ⟨#[]⟩,.bool false,.slice none 0 0]) 8 112 Tryz.underlying32 HI0.out.1 HI0.out.2.1 HI0.out.2.2.1 HI0.out.2.2.2 rfl (by decide) _ 0 [] rfl (HOW.out) ⟨b,0,none⟩ i cap (vss.take i).flatten rfl ?c1 ?c2 ?c3 ?c4 ?c5 ?c6 ?_))
 case c1 => exact take_flat HVR.out.all (by omega)
 case c2 =>
  intro j u hu;rw [Addr.add_lit,Nat.zero_add];exact (cell_below (below1 w _) hbS).trans (HC.out _ _ (take_at hu))
 case c3 => exact (mem_take_one HVR.out.one i).1
 case c4 => unfold maxLen;omega
 case c5 => omega
 case c6 => simp
 rintro v1 w4 hown4 hgr4 -
 replace hown4 : w4.ownsRow w.heap.size 63 8 v1 i (vss.take i).flatten:=by simpa using hown4
 have hb4 : Below w.heap.size w w4:=((Below.refl w.heap.size _).alloc (Nat.le_refl _) _).grown hgr4 (by simp) (fun g hg => by simp [Value.ownBlock] at hg;omega);obtain ⟨s1,s2,s3,rfl⟩:=owns_slice hown4;have HB4:=hidK hb4;have HO4:=hidK hown4;have hs4:=hb4.size;clear hown4 hgr4 hb4 HOW
 have hik1 : ((i : Int) + 1) ≤ len:=by omega
 by_cases hcap : cap = i + 1
 ·subst hcap
  have hmi : len = i + 1:=by omega
  subst hmi;have hvd : vss.drop (i + 1) = []:=List.drop_eq_nil_of_le (by omega)
  go_wp2_with (first | (at_builtin;refine wpList_append_own _ rfl _ _ 32 rfl w.heap.size 63 i5 (.agg #[.string ⟨#[]⟩,.int .i64 0,.string ⟨#[]⟩,.string ⟨#[]⟩,.bool false,.string ⟨#[]⟩,.bool false,.slice none 0 0]) 8 112 Tryz.underlying32 HI0.out.1 HI0.out.2.1 HI0.out.2.2.1 HI0.out.2.2.2 rfl (by decide) _ _ _ rfl (HO4.out) ⟨b,0,none⟩ 0 0 [] rfl ?c1 ?c2 ?c3 ?c4 ?c5 ?c6 ?_))
  case c1 => rfl
  case c2 => intro j u hu;simp at hu
  case c3 => intro u hu;simp at hu
  case c4 => unfold maxLen;omega
  case c5 => omega
  case c6 => omega
  rintro v2 w5 hown5 hgr5 -
  have hlen5 : (wo Vd.n t xs).length = (i + 1) - 1:=by rw [HW.out];simp;omega
  replace hown5 : w5.ownsRow w.heap.size 63 8 v2 (wo Vd.n t xs).length (vss.take i ++ vss.drop (i + 1)).flatten:=by
   rw [hlen5,List.flatten_append];rw [hvd];simpa using hown5
   
  have hb5 : Below w.heap.size w4 w5:=(Below.refl w.heap.size w4).grown hgr5 HB4.out.size (fun g hg => (HO4.out.lt g hg).1);obtain ⟨t1,t2,t3,rfl⟩:=owns_slice hown5;have H5:=hidK (HB4.out.trans hb5);have hsel:=Sel.erase (xs:=xs) (vss:=vss) (by omega) (k:=i) (by omega);rw [← HW.out] at hsel;have hrec:=(hsel.recs (HVR.out.below H5.out)).keep (w':=w5) (S':=fun k => Q k ∨ w.heap.size ≤ k) (fun _ _ _ _ => rfl) (fun k _ s => .inl s);obtain ⟨q1,q2,hq,hR⟩:=hrec.own hown5 (by simp) (by decide) (fun g hg => .inr (hown5.lt g hg).1);rw [List.length_map] at hq hR;simp only [Value.slice.injEq] at hq;obtain ⟨rfl,ht2,rfl⟩:=hq;rw [← ht2] at hR;have HR5:=hidK hR;clear hown5 hgr5 hb5 hsel hrec hR ht2 hlen5
  go_wp2
  go_ret;exact ⟨_,_,_,rfl,HR5.out,H5.out⟩
 ·go_wp2_with (first | (at_builtin;refine wpList_append_own _ rfl _ _ 32 rfl w.heap.size 63 i5 (.agg #[.string ⟨#[]⟩,.int .i64 0,.string ⟨#[]⟩,.string ⟨#[]⟩,.bool false,.string ⟨#[]⟩,.bool false,.slice none 0 0]) 8 112 Tryz.underlying32 HI0.out.1 HI0.out.2.1 HI0.out.2.2.1 HI0.out.2.2.2 rfl (by decide) _ _ _ rfl (HO4.out) ⟨b,(i + 1) * 8,none⟩ (len - (i + 1)) (cap - (i + 1)) (vss.drop (i + 1)).flatten rfl ?c1 ?c2 ?c3 ?c4 ?c5 ?c6 ?_))
  case c1 => rw [drop_flat HVR.out.all,hvl]
  case c2 =>
   intro j u hu;rw [Addr.add_lit];exact (cell_below HB4.out hbS).trans (HC.out _ _ (drop_at HVR.out.all (by omega) hu))
  case c3 => exact (mem_take_one HVR.out.one (i + 1)).2
  case c4 => unfold maxLen;omega
  case c5 => omega
  case c6 => omega
  rintro v2 w5 hown5 hgr5 -
  have hlen5 : (wo Vd.n t xs).length = len - 1:=by rw [HW.out];simp;omega
  replace hown5 : w5.ownsRow w.heap.size 63 8 v2 (wo Vd.n t xs).length (vss.take i ++ vss.drop (i + 1)).flatten:=by
   rw [hlen5,List.flatten_append]
   have e9 : len - 1 = i + (len - (i + 1)):=by omega
   rw [e9];exact hown5
  have hb5 : Below w.heap.size w4 w5:=(Below.refl w.heap.size w4).grown hgr5 HB4.out.size (fun g hg => (HO4.out.lt g hg).1);obtain ⟨t1,t2,t3,rfl⟩:=owns_slice hown5;have H5:=hidK (HB4.out.trans hb5);have hsel:=Sel.erase (xs:=xs) (vss:=vss) (by omega) (k:=i) (by omega);rw [← HW.out] at hsel;have hrec:=(hsel.recs (HVR.out.below H5.out)).keep (w':=w5) (S':=fun k => Q k ∨ w.heap.size ≤ k) (fun _ _ _ _ => rfl) (fun k _ s => .inl s);obtain ⟨q1,q2,hq,hR⟩:=hrec.own hown5 (by simp) (by decide) (fun g hg => .inr (hown5.lt g hg).1);rw [List.length_map] at hq hR;simp only [Value.slice.injEq] at hq;obtain ⟨rfl,ht2,rfl⟩:=hq;rw [← ht2] at hR;have HR5:=hidK hR;clear hown5 hgr5 hb5 hsel hrec hR ht2 hlen5
  go_wp2
  go_ret;exact ⟨_,_,_,rfl,HR5.out,H5.out⟩

end Rc
end Go.Proofs.YtkecljccapjkpaaGreatDoor

namespace Go.Proofs.YtkecljccapjkpaaGreatDoor
open Go.RowKit
namespace Gs

section
variable {SR : World → World → Prop} {t4 : Tmp} {Ψ : Fact} {P : Program} {ops : Array Oper} {Q : Exit → Act → World → Prop} {W : World} {a0 : Act} {back : Option Oper}
structure At (t4 : Tmp) (Ψ : Fact) (front : List Oper) (φs : List Fact) (W : World) (a0 : Act) (listed : Array Bool) (a : Act) (w : World) : Prop where
 old : Go.Proofs.YtkecljccapjkpaaGreatDoor.At front φs W a0 listed a w
 sto : ∀ (i : Nat) (o : Oper),front[i]? = some o → o.dst = none → listed.getD i false = true → Ψ (a.tmps.getD t4 undef) w ∧ ∀ (i' : Nat) (p : Oper),front[i']? = some p → p.dst = some t4 → listed.getD i' false = true

end
structure Form (W w w' : World) : Prop where
 low : Below W.heap.size w w'
 form : ∀ (k : Nat) (cs : Array Value) (T : TypeId),w.heap[k]? = some (.cells cs T (0,0)) → ∃ cs',cs'.size = cs.size ∧ w'.heap[k]? = some (.cells cs' T (0,0))
end Gs
namespace Gt

section
variable {P : Program} {ops : Array Oper} {Q : Exit → Act → World → Prop} {W : World} {a0 : Act} {back : Option Oper}
structure Ac (front : List Oper) (φs : List Fact) (W : World) (a0 : Act) (listed : Array Bool) (a : Act) (w : World) : Prop where
 old : At front φs W a0 listed a w
 cl : ∀ (j : Nat) (o : Oper),front[j]? = some o → listed.getD j false = true → ∀ e ∈ o.after,Region.binds .any e = true → listed.getD e.on false = true
end
end Gt
namespace Gu

def waits (front : List Oper) (i : Nat) : Nat → Array Edge → Bool
 | 0,after => after.any fun e => Region.binds .any e && e.on == i
 | f + 1,after => after.any fun e => Region.binds .any e && (e.on == i || match front[e.on]? with | some p => waits front i f p.after | none => false)
section
variable {P : Program} {ops : Array Oper} {Q : Exit → Act → World → Prop} {W : World} {a0 : Act} {s t : Oper}
end
end Gu
end Go.Proofs.YtkecljccapjkpaaGreatDoor

namespace Go.Proofs.YtkecljccapjkpaaGreatDoor
open Go.RowKit
namespace Rc
open Mk

theorem ROwn.atT {wr wz : World} {g l cp m j i : Nat} {T : TypeId} {rs : List (List Fv)} {r : List Fv} {old : Fv} {S : Nat → Prop} (hO : ROwn wr (some ⟨g,0,none⟩) l cp m T rs S) (hb : Below wr.heap.size wr wz) (hj : rs[j]? = some r) (hi : r[i]? = some old) : (∃ v,wz.cell? ⟨g,j * m + i,none⟩ = some v) ∧ wz.frozen? ⟨g,j * m + i,none⟩ = false:=by
 obtain ⟨g',e,hS⟩:=(hO.below hb).st (KeptS.refl S wz) hj
 cases e
 exact ⟨hS.cell hi,hS.fro _⟩
theorem ROwn.inn {w : World} {a : Option Addr} {l cp m j : Nat} {T : TypeId} {rs : List (List Fv)} {r : List Fv} {S : Nat → Prop} (hO : ROwn w a l cp m T rs S) (hj : rs[j]? = some r) : ∃ g cur,a = some ⟨g,0,none⟩ ∧ S g ∧ g < w.heap.size ∧ w.heap[g]? = some (.cells cur T (0,0)):=by
 obtain ⟨g',e,hS⟩:=hO.st (KeptS.refl S w) hj;obtain ⟨⟨cur,H,h1,_⟩,_⟩:=hS;exact ⟨g',cur,e,h1.inS,lt_of_some h1.blk,h1.blk⟩
theorem ROwn.past {w wz : World} {a : Option Addr} {l cp m g i : Nat} {T T' : TypeId} {rs : List (List Fv)} {S : Nat → Prop} {cur : Array Value} {v : Value} (h : ROwn w a l cp m T rs S) (hb : Below w.heap.size w wz) (hg : w.heap[g]? = some (.cells cur T' (0,0))) (h1 : ¬ T' = T) (h2 : ¬ T' = 9) : ROwn (wz.setCell ⟨g,i,none⟩ v) a l cp m T rs S :=
 (h.away hg h1 h2).keep (fun k hk s => (Below.heap_setCell _ _ _ _ s.2).trans (hb.block k hk)) (fun _ _ s => s.1)

theorem ROwn.setSpent {w : World} {g l cp j : Nat} {vs : List Vd} {v : Vd} {S : Nat → Prop} (hO : ROwn w (some ⟨g,0,none⟩) l cp 8 63 (vs.map vdF) S) (hj : vs[j]? = some v) : ROwn ((w.setCell ⟨g,j * 8 + 5,none⟩ (.string ⟨#[]⟩)).setCell ⟨g,j * 8 + 6,none⟩ (.bool true)) (some ⟨g,0,none⟩) l cp 8 63 ((vs.set j (spent v)).map vdF) S:=by
 have hjr : (vs.map vdF)[j]? = some (vdF v):=by rw [List.getElem?_map,hj];rfl
 obtain ⟨g',e,hS⟩:=hO.st (KeptS.refl S w) hjr
 cases e
 obtain ⟨⟨cur2,H2,h3,_⟩,_,_⟩:=(hS.setS (i:=5) rfl ⟨#[]⟩ (by decide)).setB (i:=6) rfl true;refine ⟨by rw [List.length_map,List.length_set];have:=hO.1;rwa [List.length_map] at this,hO.2.1,hO.2.2.1,.inr ⟨g,cur2,H2,rfl,?_⟩⟩;rw [List.map_set];exact h3
theorem ROwn.atSpent {w : World} {g l cp j : Nat} {vs : List Vd} {v : Vd} {S : Nat → Prop} (hO : ROwn w (some ⟨g,0,none⟩) l cp 8 63 (vs.map vdF) S) (hj : vs[j]? = some v) : (∃ u,w.cell? ⟨g,j * 8 + 5,none⟩ = some u) ∧ w.frozen? ⟨g,j * 8 + 5,none⟩ = false ∧ (∃ u,w.cell? ⟨g,j * 8 + 6,none⟩ = some u) ∧ w.frozen? ⟨g,j * 8 + 6,none⟩ = false:=by
 have hjr : (vs.map vdF)[j]? = some (vdF v):=by rw [List.getElem?_map,hj];rfl
 obtain ⟨a1,a2⟩:=ROwn.atT hO (Below.refl _ _) hjr (i:=5) rfl;obtain ⟨b1,b2⟩:=ROwn.atT hO (Below.refl _ _) hjr (i:=6) rfl;exact ⟨a1,a2,b1,b2⟩

theorem sdropX_any (d : Ad) (c : Cl) (t : ByteArray) (w : World) (hr : ClRow w d c.raw) :
  Calls Tryz.prog 6 #[.agg #[.slice d.a1 d.l1 d.c1,.slice d.a2 d.l2 d.c2,.slice d.a3 d.l3 d.c3,.slice d.a4 d.l4 d.c4,.slice d.a5 d.l5 d.c5,.int .i64 c.now],.string t] w (OutS (DropClmIs c t) w):=by
 obtain ⟨a1,l1,y1,a2,l2,y2,a3,l3,y3,a4,l4,y4,a5,l5,y5⟩:=d;dsimp only;have HR:=hidK hr
 have hl1 : c.ns.length = l1:=by simpa using (show (c.ns.map ndF).length = l1 from hr.n.1)
 have hm1 : l1 ≤ 9223372036854775807:=Nat.le_trans hr.n.2.1 hr.n.2.2.1
 have hl2 : c.ks.length = l2:=by simpa using (show (c.ks.map kdF).length = l2 from hr.k.1)
 have hm2 : l2 ≤ 9223372036854775807:=Nat.le_trans hr.k.2.1 hr.k.2.2.1
 have hl3 : c.vs.length = l3:=by simpa using (show (c.vs.map vdF).length = l3 from hr.v.1)
 have hm3 : l3 ≤ 9223372036854775807:=Nat.le_trans hr.v.2.1 hr.v.2.2.1
 have hl4 : c.xs.length = l4:=by simpa using (show (c.xs.map xdF).length = l4 from hr.x.1)
 have hm4 : l4 ≤ 9223372036854775807:=Nat.le_trans hr.x.2.1 hr.x.2.2.1
 have hl5 : c.ps.length = l5:=by simpa using (show (c.ps.map pdF).length = l5 from hr.p.1)
 have hm5 : l5 ≤ 9223372036854775807:=Nat.le_trans hr.p.2.1 hr.p.2.2.1;clear hr;have HB:=hidK (Below.refl w.heap.size w)
 go_enter Tryz.func6,Tryz.ntmps6
 go_wp2_with fail;refine (sbeg_any ⟨a1,l1,y1,a2,l2,y2,a3,l3,y3,a4,l4,y4,a5,l5,y5⟩ c t _ (HR.out.below (HB.out.trans ((below2 _ _ _).mono HB.out.size)))).mono ?_;rintro e w1 ⟨p,rfl,hp,hb⟩;obtain ⟨HA0,HA1,hbx⟩:=slots2 hb;have Bk:=hidK HA0;have Br:=hidK HA1;replace HB:=upB HB hbx;clear hb hbx HA0 HA1
 have hp0 : (¬ p = 0 ∧ DropClmIs c t (co0 p)) ∨ (p = 0 ∧ ¬ 8000 < t.size ∧ RightI c):=by
  rcases hp with ⟨h1,rfl⟩ | ⟨h1,h2,rfl⟩ | ⟨h1,h2,rfl⟩
  ·exact .inl ⟨by decide,.inl ⟨0,h1,rfl⟩⟩
  ·exact .inl ⟨by decide,.inl ⟨1,⟨h1,h2⟩,rfl⟩⟩
  ·exact .inr ⟨rfl,h1,h2⟩
 clear hp
 rcases hp0 with ⟨hp0,hV⟩ | ⟨rfl,hl,hT⟩
 ·have HV:=hidK hV;clear hV
  have hp1 : (p == 0) = false:=by simpa using hp0
  obtain ⟨k0,k1,k2,k3,k4,k5⟩:=cs6 Bk.out;have ltk_1:=lt_of_some Bk.out;go_wp2_with fail;refine (sill_any p _).mono ?_;rintro e w2 ⟨rfl,hb⟩;clear k0 k1 k2 k3 k4 k5 ltk_1;replace Bk:=upK Bk hb;replace Br:=upK Br hb;replace HB:=upB HB hb;clear hb;obtain ⟨r0,r1,r2,r3,r4,r5,r6,r7⟩:=cs8 Br.out;have ltr_2:=lt_of_some Br.out;have fr0:=froK Br.out 0;have fr1:=froK Br.out 1;have fr2:=froK Br.out 2;have fr3:=froK Br.out 3;have fr4:=froK Br.out 4;have fr5:=froK Br.out 5;have fr6:=froK Br.out 6;have fr7:=froK Br.out 7;have hrl : w.heap.size + 1 < w2.heap.size:=lt_of_some Br.out
  go_wp2
  exact bodyPost_ret (v:=.agg #[.slice none 0 0,.slice none 0 0,.slice none 0 0,.slice none 0 0,.slice none 0 0,.int .i64 0,.string ⟨#[]⟩,.int .i64 p]) (by simp [results,Tryz.results6,go_sem, *]) rfl ⟨ad0,co0 p,rfl,HV.out,(own0 _ (fun _ => True)).row,sb1 (sb1 (sb1 (sb1 (sb1 (sb1 (sb1 (sb1 (HB.out))))))))⟩
 have HT:=hidK hT;clear hT;obtain ⟨k0,k1,k2,k3,k4,k5⟩:=cs6 Bk.out;have ltk_1:=lt_of_some Bk.out;go_wp2_with fail;refine (sxxd_any ⟨a1,l1,y1,a2,l2,y2,a3,l3,y3,a4,l4,y4,a5,l5,y5⟩ c.now c.xs t _ (HR.out.x.below HB.out)).mono ?_;rintro e w2 ⟨hb,hf⟩;clear k0 k1 k2 k3 k4 k5 ltk_1;replace Bk:=upK Bk hb;replace Br:=upK Br hb;replace HB:=upB HB hb;clear hb
 rcases hf with ⟨i,x,hx,hn,rfl⟩ | ⟨hno,rfl⟩
 rotate_left
 ·have HV : Hid (DropClmIs c t (co0 6)):=.inl ⟨2,⟨hl,HT.out,.inl ⟨rfl,hit_no hno⟩⟩,rfl⟩;clear hno;obtain ⟨k0,k1,k2,k3,k4,k5⟩:=cs6 Bk.out;have ltk_2:=lt_of_some Bk.out;go_wp2_with fail;refine (sill_any 6 _).mono ?_;rintro e w3 ⟨rfl,hb⟩;clear k0 k1 k2 k3 k4 k5 ltk_2;replace Bk:=upK Bk hb;replace Br:=upK Br hb;replace HB:=upB HB hb;clear hb;obtain ⟨r0,r1,r2,r3,r4,r5,r6,r7⟩:=cs8 Br.out;have ltr_3:=lt_of_some Br.out;have fr0:=froK Br.out 0;have fr1:=froK Br.out 1;have fr2:=froK Br.out 2;have fr3:=froK Br.out 3;have fr4:=froK Br.out 4;have fr5:=froK Br.out 5;have fr6:=froK Br.out 6;have fr7:=froK Br.out 7;have hrl : w.heap.size + 1 < w3.heap.size:=lt_of_some Br.out
  go_wp2
  exact bodyPost_ret (v:=.agg #[.slice none 0 0,.slice none 0 0,.slice none 0 0,.slice none 0 0,.slice none 0 0,.int .i64 0,.string ⟨#[]⟩,.int .i64 6]) (by simp [results,Tryz.results6,go_sem, *]) rfl ⟨ad0,co0 6,rfl,HV.out,(own0 _ (fun _ => True)).row,sb1 (sb1 (sb1 (sb1 (sb1 (sb1 (sb1 (sb1 (HB.out))))))))⟩
 have hri:=HT.out.2.1.2.2.2.1.2.2;have HHit:=hidK (hit_at hri hx hn).2;have HRI:=hidK hri;have HX:=hidK hx;have HN:=hidK hn;have HL : Hid (¬ 8000 < t.size):=hl
 have hi4 : i < l4:=by have:=(List.getElem?_eq_some_iff.1 hx).1;omega
 have hi0 : ¬ (i : Int) < 0:=by omega
 have h48 : l4 ≤ 8:=by have:=HT.out.sm.x;omega
 have h58 : l5 ≤ 8:=by have:=HT.out.sm.p;omega
 have h38 : l3 ≤ 8:=by have:=HT.out.sm.v;omega
 clear hri hx hn hl;have hbb : (∃ (j : Nat) (v : Vd),c.vs[j]? = some v ∧ IsBd c t v) ∨ (∀ v,¬ IsBd c t v):=Classical.byCases (fun h : ∃ v,IsBd c t v => .inl (by obtain ⟨v,hv⟩:=h;obtain ⟨j,hj⟩:=hv.at;exact ⟨j,v,hj,hv⟩)) (fun h => .inr (fun v hv => h ⟨v,hv⟩))
 rcases hbb with ⟨j,v,hj,hbd⟩ | hno
 ·have HJ:=hidK hj;have HBD:=hidK hbd
  have hj3 : j < l3:=by have:=(List.getElem?_eq_some_iff.1 hj).1;omega
  have hj0 : ¬ (j : Int) < 0:=by omega
  have hj0' : (0 : Int) ≤ (j : Int):=by omega
  clear hj hbd;obtain ⟨k0,k1,k2,k3,k4,k5⟩:=cs6 Bk.out;have ltk_2:=lt_of_some Bk.out;go_wp2_with fail;refine (sbind_hit ⟨a1,l1,y1,a2,l2,y2,a3,l3,y3,a4,l4,y4,a5,l5,y5⟩ c t _ (HR.out.below HB.out) HT.out.2.1.2.2.2.1.2.2 HT.out.2.1.2.2.1.2.2 (RowsOk.ne HT.out.2.1) HJ.out HBD.out).mono ?_;rintro e w3 ⟨rfl,hb⟩;clear k0 k1 k2 k3 k4 k5 ltk_2;replace Bk:=upK Bk hb;replace Br:=upK Br hb;replace HB:=upB HB hb;clear hb;obtain ⟨k0,k1,k2,k3,k4,k5⟩:=cs6 Bk.out;have ltk_3:=lt_of_some Bk.out;go_wp2_with fail;refine (sbusy_any ⟨a1,l1,y1,a2,l2,y2,a3,l3,y3,a4,l4,y4,a5,l5,y5⟩ c j v _ (HR.out.below HB.out) HJ.out).mono ?_;rintro e w4 ⟨rb,rfl,hi,hb⟩;clear k0 k1 k2 k3 k4 k5 ltk_3;replace Bk:=upK Bk hb;replace Br:=upK Br hb;replace HB:=upB HB hb;clear hb;have HI:=hidK hi;clear hi;obtain ⟨k0,k1,k2,k3,k4,k5⟩:=cs6 Bk.out;have ltk_4:=lt_of_some Bk.out;obtain ⟨r0,r1,r2,r3,r4,r5,r6,r7⟩:=cs8 Br.out;have ltr_4:=lt_of_some Br.out
  go_wp2
  go_loopw [8,9] (fun q iv wr => ∃ (k : Nat) (r : Bool),k ≤ l5 ∧ q = .bool r ∧ iv = .int .i64 k ∧ Hid (r = true ↔ (Busy c v ∨ ∃ (i : Nat) (p : Pd),i < k ∧ c.ps[i]? = some p ∧ InL p.zs t)) ∧ Hid (Below w4.heap.size w4 wr)) (fun _ iv _ => l5 - (intOf iv).toNat)
  case atStart => exact ⟨0,rb,by omega,rfl,rfl,show _ ↔ _ by rw [HI.out];exact ⟨.inl,fun h => h.elim id (fun ⟨i,p,h,_⟩ => by omega)⟩,Below.refl _ _⟩
  case round =>
   clear k0 k1 k2 k3 k4 k5 ltk_4 r0 r1 r2 r3 r4 r5 r6 r7 ltr_4;obtain ⟨k,r,hk,rfl,rfl,HS,HL4⟩:=hrel;have hb4:=HL4.out;replace Bk:=upK Bk hb4;replace Br:=upK Br hb4;replace HB:=upB HB hb4;clear hb4;obtain ⟨k0,k1,k2,k3,k4,k5⟩:=cs6 Bk.out;have ltk:=lt_of_some Bk.out
   by_cases hlt : k < l5
   ·obtain ⟨b,o,p,rfl,hb,hxn,hat⟩:=pd_at (HR.out.p.below HB.out) hlt;obtain ⟨va,vl,vc,hvr,z0,z2,z4,c0,c1,c2,c3,c4,c5⟩:=pd_cells hat;have HP:=hidK hxn;have HTP:=hidK hvr
    have hk3 : (k : Int) < l5:=by omega
    clear hat hxn z0 z2 z4 hvr
    cases r
    ·go_wp2_with fail;refine (shas_any va vl vc p.zs t _ HTP.out).mono ?_;rintro e w6 ⟨r2,rfl,hi,hb6⟩;have HI6:=hidK hi;have HL6:=upB HL4 hb6;clear hi;replace Bk:=upK Bk hb6;replace Br:=upK Br hb6;replace HB:=upB HB hb6;clear hb6;clear k0 k1 k2 k3 k4 k5 ltk c0 c1 c2 c3 c4 c5 hb
     go_wp2
     refine ⟨⟨k + 1,r2,by omega,rfl,by go_num,show _ ↔ _ from ?_,HL6.out⟩,by simp [intOf];omega⟩
     constructor
     ·exact fun h => .inr ⟨k,p,by omega,HP.out,HI6.out.1 h⟩
     ·rintro (h | ⟨i,m,h1,h2,h3⟩)
      ·exact absurd (HS.out.2 (.inl h)) (by decide)
      ·by_cases e : i = k
       ·subst e;rw [HP.out] at h2
        cases h2
        exact HI6.out.2 h3
       ·exact absurd (HS.out.2 (.inr ⟨i,m,by omega,h2,h3⟩)) (by decide)
    ·go_wp2
     refine ⟨⟨k + 1,true,by omega,rfl,by go_num,show _ ↔ _ from ⟨fun _ => (HS.out.1 (by first | trivial | rfl)).elim .inl (fun ⟨i,m,h1,h2⟩ => .inr ⟨i,m,by omega,h2⟩),fun _ => rfl⟩,HL4.out⟩,by simp [intOf];omega⟩
   obtain rfl : l5 = k:=by omega
   have hgo : r = true ↔ XBusy c t:=by
    rw [HS.out]
    constructor
    ·rintro (h | ⟨i,p,-,h1,h2⟩)
     ·exact .inl ⟨v,HBD.out,h⟩
     ·exact .inr ⟨i,p,h1,h2⟩
    ·rintro (⟨u,hu,hb⟩ | ⟨i,p,h1,h2⟩)
     ·exact .inl (by obtain rfl:=IsBd.inj HT.out.2.1.2.2.2.1.2.2 HT.out.2.1.2.2.1.2.2 hu HBD.out;exact hb)
     ·exact .inr ⟨i,p,by have:=(List.getElem?_eq_some_iff.1 h1).1;omega,h1,h2⟩
   clear HS
   cases r
   rotate_left
   ·have HV : Hid (DropClmIs c t (co0 11)):=.inl ⟨5,⟨HL.out,HT.out,.inr ⟨rfl,HHit.out,hgo.1 (by first | trivial | rfl)⟩⟩,rfl⟩;clear hgo;obtain ⟨k0,k1,k2,k3,k4,k5⟩:=cs6 Bk.out;have ltk_5:=lt_of_some Bk.out;go_wp2_with fail;refine (sill_any 11 _).mono ?_;rintro e w5 ⟨rfl,hb⟩;clear k0 k1 k2 k3 k4 k5 ltk_5;replace Bk:=upK Bk hb;replace Br:=upK Br hb;replace HB:=upB HB hb;clear hb;obtain ⟨r0,r1,r2,r3,r4,r5,r6,r7⟩:=cs8 Br.out;have ltr_6:=lt_of_some Br.out;have fr0:=froK Br.out 0;have fr1:=froK Br.out 1;have fr2:=froK Br.out 2;have fr3:=froK Br.out 3;have fr4:=froK Br.out 4;have fr5:=froK Br.out 5;have fr6:=froK Br.out 6;have fr7:=froK Br.out 7;have hrl : w.heap.size + 1 < w5.heap.size:=lt_of_some Br.out
    go_wp2
    exact bodyPost_ret (v:=.agg #[.slice none 0 0,.slice none 0 0,.slice none 0 0,.slice none 0 0,.slice none 0 0,.int .i64 0,.string ⟨#[]⟩,.int .i64 11]) (by simp [results,Tryz.results6,go_sem, *]) rfl ⟨ad0,co0 11,rfl,HV.out,(own0 _ (fun _ => True)).row,sb1 (sb1 (sb1 (sb1 (sb1 (sb1 (sb1 (sb1 (HB.out))))))))⟩
   have HQR : Hid (w.heap.size + 1 < wr.heap.size):=lt_of_some Br.out;have HOK : Hid (clmOk c t):=⟨HHit.out,fun h => by have h9:=hgo.2 h;cases h9⟩;clear hgo;obtain ⟨k0,k1,k2,k3,k4,k5⟩:=cs6 Bk.out;have ltk_5:=lt_of_some Bk.out;go_wp2_with fail;refine (scopyC_any ⟨a1,l1,y1,a2,l2,y2,a3,l3,y3,a4,l4,y4,a5,l5,y5⟩ c _ (HR.out.below HB.out) HT.out.sm).mono ?_;rintro e w7 ⟨d',rfl,ho,hb⟩;have HQ7:=hidK hb.size;have HO:=hidK ho;clear ho;clear k0 k1 k2 k3 k4 k5 ltk_5;replace Bk:=upK Bk hb;replace Br:=upK Br hb;replace HB:=upB HB hb;clear hb;have hq7:=HQ7.out;have hqr : w.heap.size + 1 < wr.heap.size:=HQR.out;obtain ⟨kc,hkc,hkn⟩:=hit_yes (HT.out.2.2.1.1 j v HJ.out).1
   generalize pl Kd.n c.ks v.k = jk at hkc
   have HKC:=hidK hkc;have HKN:=hidK hkn
   have hjk : jk < l2:=by have:=(List.getElem?_eq_some_iff.1 hkc).1;omega
   have hjk1 : (jk : Int) < l2:=by omega
   have hj31 : (j : Int) < l3:=by omega
   clear hkc hkn;obtain ⟨b3,o3,v',rfl,hb3,hv',hat⟩:=vd_at (HR.out.v.below HB.out) hj3;obtain rfl : v = v':=Option.some.inj (HJ.out.symm.trans hv');obtain ⟨ea,el,ec,-,-,-,-,-,-,-,-,cv3,-,-,-,-⟩:=vd_cells hat;clear hat hv';obtain ⟨b2,o2,kc',rfl,hb2,hkc',hat⟩:=kd_at (HR.out.k.below HB.out) hjk;obtain rfl : kc = kc':=Option.some.inj (HKC.out.symm.trans hkc');obtain ⟨-,-,-,-,ck2,-⟩:=kd_cells hat;clear hat hkc' ;have cv3':=(cell_below (below1 w7 (.cells #[.slice d'.a1 d'.l1 d'.c1,.slice d'.a2 d'.l2 d'.c2,.slice d'.a3 d'.l3 d'.c3,.slice d'.a4 d'.l4 d'.c4,.slice d'.a5 d'.l5 d'.c5,.int .i64 c.now] 36)) hb3).trans cv3;have ck2':=(cell_below (below1 w7 (.cells #[.slice d'.a1 d'.l1 d'.c1,.slice d'.a2 d'.l2 d'.c2,.slice d'.a3 d'.l3 d'.c3,.slice d'.a4 d'.l4 d'.c4,.slice d'.a5 d'.l5 d'.c5,.int .i64 c.now] 36)) hb2).trans ck2;have hb3' : b3 < (w7.alloc (.cells #[.slice d'.a1 d'.l1 d'.c1,.slice d'.a2 d'.l2 d'.c2,.slice d'.a3 d'.l3 d'.c3,.slice d'.a4 d'.l4 d'.c4,.slice d'.a5 d'.l5 d'.c5,.int .i64 c.now] 36)).heap.size:=Nat.lt_of_lt_of_le hb3 (below1 w7 (.cells #[.slice d'.a1 d'.l1 d'.c1,.slice d'.a2 d'.l2 d'.c2,.slice d'.a3 d'.l3 d'.c3,.slice d'.a4 d'.l4 d'.c4,.slice d'.a5 d'.l5 d'.c5,.int .i64 c.now] 36)).size;have hb2' : b2 < (w7.alloc (.cells #[.slice d'.a1 d'.l1 d'.c1,.slice d'.a2 d'.l2 d'.c2,.slice d'.a3 d'.l3 d'.c3,.slice d'.a4 d'.l4 d'.c4,.slice d'.a5 d'.l5 d'.c5,.int .i64 c.now] 36)).heap.size:=Nat.lt_of_lt_of_le hb2 (below1 w7 (.cells #[.slice d'.a1 d'.l1 d'.c1,.slice d'.a2 d'.l2 d'.c2,.slice d'.a3 d'.l3 d'.c3,.slice d'.a4 d'.l4 d'.c4,.slice d'.a5 d'.l5 d'.c5,.int .i64 c.now] 36)).size
   have hszv7 : (w7.alloc (.cells #[.slice d'.a1 d'.l1 d'.c1,.slice d'.a2 d'.l2 d'.c2,.slice d'.a3 d'.l3 d'.c3,.slice d'.a4 d'.l4 d'.c4,.slice d'.a5 d'.l5 d'.c5,.int .i64 c.now] 36)).heap.size = w7.heap.size + 1:=by simp
   have Gk : Hid ((w7.alloc (.cells #[.slice d'.a1 d'.l1 d'.c1,.slice d'.a2 d'.l2 d'.c2,.slice d'.a3 d'.l3 d'.c3,.slice d'.a4 d'.l4 d'.c4,.slice d'.a5 d'.l5 d'.c5,.int .i64 c.now] 36)).heap[w.heap.size]? = some (.cells #[.slice a1 l1 y1,.slice (some ⟨b2,o2,none⟩) l2 y2,.slice (some ⟨b3,o3,none⟩) l3 y3,.slice a4 l4 y4,.slice a5 l5 y5,.int .i64 c.now] 36 (0,0))):=(Below.heap_alloc _ _ _ (lt_of_some Bk.out)).trans (Bk.out);have Gr : Hid ((w7.alloc (.cells #[.slice d'.a1 d'.l1 d'.c1,.slice d'.a2 d'.l2 d'.c2,.slice d'.a3 d'.l3 d'.c3,.slice d'.a4 d'.l4 d'.c4,.slice d'.a5 d'.l5 d'.c5,.int .i64 c.now] 36)).heap[w.heap.size + 1]? = some (.cells #[.slice none 0 0,.slice none 0 0,.slice none 0 0,.slice none 0 0,.slice none 0 0,.int .i64 0,.string ⟨#[]⟩,.int .i64 0] 38 (0,0))):=(Below.heap_alloc _ _ _ (lt_of_some Br.out)).trans (Br.out);have Go : Hid ((w7.alloc (.cells #[.slice d'.a1 d'.l1 d'.c1,.slice d'.a2 d'.l2 d'.c2,.slice d'.a3 d'.l3 d'.c3,.slice d'.a4 d'.l4 d'.c4,.slice d'.a5 d'.l5 d'.c5,.int .i64 c.now] 36)).heap[w7.heap.size]? = some (.cells #[.slice d'.a1 d'.l1 d'.c1,.slice d'.a2 d'.l2 d'.c2,.slice d'.a3 d'.l3 d'.c3,.slice d'.a4 d'.l4 d'.c4,.slice d'.a5 d'.l5 d'.c5,.int .i64 c.now] 36 (0,0))):=Array.getElem?_push_size;have HW : Hid (Below w.heap.size w (w7.alloc (.cells #[.slice d'.a1 d'.l1 d'.c1,.slice d'.a2 d'.l2 d'.c2,.slice d'.a3 d'.l3 d'.c3,.slice d'.a4 d'.l4 d'.c4,.slice d'.a5 d'.l5 d'.c5,.int .i64 c.now] 36))):=(HB.out.trans ((below1 _ _).mono HB.out.size));obtain ⟨k0,k1,k2,k3,k4,k5⟩:=sl6 Gk;have mv : ∀ q : Wd (w7.alloc (.cells #[.slice d'.a1 d'.l1 d'.c1,.slice d'.a2 d'.l2 d'.c2,.slice d'.a3 d'.l3 d'.c3,.slice d'.a4 d'.l4 d'.c4,.slice d'.a5 d'.l5 d'.c5,.int .i64 c.now] 36)),q.w.cell? ⟨b3,o3 + j * 8 + 3,none⟩ = some (.string v.k):=fun q => (q.cell (hb3')).trans (cv3')
   have mk : ∀ q : Wd (w7.alloc (.cells #[.slice d'.a1 d'.l1 d'.c1,.slice d'.a2 d'.l2 d'.c2,.slice d'.a3 d'.l3 d'.c3,.slice d'.a4 d'.l4 d'.c4,.slice d'.a5 d'.l5 d'.c5,.int .i64 c.now] 36)),q.w.cell? ⟨b2,o2 + jk * 4 + 2,none⟩ = some (.bool kc.y):=fun q => (q.cell (hb2')).trans (ck2');have hne0:=Wd.ne (w7.alloc (.cells #[.slice d'.a1 d'.l1 d'.c1,.slice d'.a2 d'.l2 d'.c2,.slice d'.a3 d'.l3 d'.c3,.slice d'.a4 d'.l4 d'.c4,.slice d'.a5 d'.l5 d'.c5,.int .i64 c.now] 36));have HC0:=hidK (fun q : Wd (w7.alloc (.cells #[.slice d'.a1 d'.l1 d'.c1,.slice d'.a2 d'.l2 d'.c2,.slice d'.a3 d'.l3 d'.c3,.slice d'.a4 d'.l4 d'.c4,.slice d'.a5 d'.l5 d'.c5,.int .i64 c.now] 36)) => sxkd_hit ⟨a1,l1,y1,(some ⟨b2,o2,none⟩),l2,y2,(some ⟨b3,o3,none⟩),l3,y3,a4,l4,y4,a5,l5,y5⟩ c.now c.ks v.k q.w (HR.out.k.below (HW.out.trans (q.b.mono HW.out.size))) HT.out.2.1.2.1.2.2 HKC.out HKN.out);go_wp2_with fail;refine wp_region_wide (by kernel_rfl) (by kernel_rfl) ?_
   repeat (go_big_quiet_step (first | (go_at_call 28;exact Calls.wide (HC0.out _)) | fail))
   refine wpQuiet_nil ?_;rintro _ ⟨q1,rfl⟩;have HB7:=upB HW q1.b;have Ck:=upK Gk q1.b;have Cr:=upK Gr q1.b;have Co:=upK Go q1.b;clear hne0 HW HB HC0 k0 k1 k2 k3 k4 k5 mv mk Gk Gr Go Bk Br hszv7 cv3 ck2 cv3' ck2';have HB:=HB7;clear HB7;have Bk:=Ck;clear Ck;have Br:=Cr;clear Cr;have Bo:=Co;clear Co;have HQB : Hid (Below (w7.alloc (.cells #[.slice d'.a1 d'.l1 d'.c1,.slice d'.a2 d'.l2 d'.c2,.slice d'.a3 d'.l3 d'.c3,.slice d'.a4 d'.l4 d'.c4,.slice d'.a5 d'.l5 d'.c5,.int .i64 c.now] 36)).heap.size (w7.alloc (.cells #[.slice d'.a1 d'.l1 d'.c1,.slice d'.a2 d'.l2 d'.c2,.slice d'.a3 d'.l3 d'.c3,.slice d'.a4 d'.l4 d'.c4,.slice d'.a5 d'.l5 d'.c5,.int .i64 c.now] 36)) q1.w):=q1.b;have hq8 : w7.heap.size < q1.w.heap.size:=lt_of_some Bo.out
   have HOQ : Hid (ClFr q1.w d' c.raw (fun k => wr.heap.size ≤ k ∧ ¬ k = w7.heap.size)):=by
    have h1 : Below w7.heap.size w7 q1.w:=(below1 w7 (.cells #[.slice d'.a1 d'.l1 d'.c1,.slice d'.a2 d'.l2 d'.c2,.slice d'.a3 d'.l3 d'.c3,.slice d'.a4 d'.l4 d'.c4,.slice d'.a5 d'.l5 d'.c5,.int .i64 c.now] 36)).trans (HQB.out.mono (by simp));exact ⟨HO.out.n.keep (fun k hk _ => h1.block k hk) (fun k hk s => ⟨s,by omega⟩),HO.out.k.keep (fun k hk _ => h1.block k hk) (fun k hk s => ⟨s,by omega⟩),HO.out.v.keep (fun k hk _ => h1.block k hk) (fun k hk s => ⟨s,by omega⟩),HO.out.x.keep (fun k hk _ => h1.block k hk) (fun k hk s => ⟨s,by omega⟩),HO.out.p.keep (fun k hk _ => h1.block k hk) (fun k hk s => ⟨s,by omega⟩)⟩
   clear HO HQB
   generalize q1.w = wq at *
   obtain ⟨r0,r1,r2,r3,r4,r5,r6,r7⟩:=cs8 Br.out;have ltr_7:=lt_of_some Br.out;obtain ⟨o0,o1,o2,o3,o4,o5⟩:=cs6 Bo.out;have lto_7:=lt_of_some Bo.out
   go_upto_if 73 with fail
   go_cut [10] from 57 to 90 (fun s wx => s = .pointer (some ⟨w7.heap.size,0,none⟩) ∧ Hid (∃ sa sl sc vs,DisksIs c t vs ∧ wx.heap[w7.heap.size]? = some (.cells #[.slice d'.a1 d'.l1 d'.c1,.slice d'.a2 d'.l2 d'.c2,.slice sa sl sc,.slice d'.a4 d'.l4 d'.c4,.slice d'.a5 d'.l5 d'.c5,.int .i64 c.now] 36 (0,0)) ∧ wx.heap[w.heap.size + 1]? = some (.cells #[.slice none 0 0,.slice none 0 0,.slice none 0 0,.slice none 0 0,.slice none 0 0,.int .i64 0,.string ⟨#[]⟩,.int .i64 0] 38 (0,0)) ∧ ROwn wx d'.a1 d'.l1 d'.c1 7 106 (c.ns.map ndF) (fun k => wr.heap.size ≤ k ∧ ¬ k = w7.heap.size) ∧ ROwn wx d'.a2 d'.l2 d'.c2 4 61 (c.ks.map kdF) (fun k => wr.heap.size ≤ k ∧ ¬ k = w7.heap.size) ∧ ROwn wx sa sl sc 8 63 (vs.map vdF) (fun k => wr.heap.size ≤ k ∧ ¬ k = w7.heap.size) ∧ ROwn wx d'.a4 d'.l4 d'.c4 5 78 (c.xs.map xdF) (fun k => wr.heap.size ≤ k ∧ ¬ k = w7.heap.size) ∧ ROwn wx d'.a5 d'.l5 d'.c5 6 58 (c.ps.map pdF) (fun k => wr.heap.size ≤ k ∧ ¬ k = w7.heap.size) ∧ Below w.heap.size w wx))
   case first =>
    cases hky : kc.y
    ·have HKP : Hid (¬ Kept c v):=fun ⟨j9,k9,h1,h2,h3⟩ => by
      obtain ⟨-,rfl⟩:=HT.out.2.1.2.1.2.2.inj h1 HKC.out (h2.trans HKN.out.symm);rw [hky] at h3
      cases h3
     go_wp2_with fail;refine (scut_any d'.a3 d'.l3 d'.c3 c.vs v.n j v _ _ HOQ.out.v (by have h6:=HOQ.out.v.1;have h7 : (c.vs.map vdF).length = d'.l3:=h6;rw [List.length_map] at h7;omega) HT.out.2.1.2.2.1.2.2 HJ.out rfl).mono ?_;rintro e w8 ⟨a8,l8,c8,rfl,hN8,hb8⟩;have hs8:=hb8.size;have HN8:=hidK hN8;have HB8:=hidK hb8;have Bo8:=upK Bo hb8;have Br8:=upK Br hb8;clear hN8 hb8;obtain ⟨s0,s1,s2,s3,s4,s5⟩:=cs6 Bo8.out;have fs2:=froK Bo8.out 2;have hol:=lt_of_some Bo8.out;go_wp2_with fail
     go_meet
     exact ⟨rfl,a8,l8,c8,_,.inl ⟨j,v,HJ.out,HBD.out,.inr ⟨HKP.out,rfl⟩⟩,block_set Bo8.out _,(Below.heap_setCell _ _ _ _ (show w.heap.size + 1 ≠ w7.heap.size by omega)).trans Br8.out,((HOQ.out.n.below HB8.out).keep (fun k hk s => Below.heap_setCell _ _ _ _ s.2) (fun _ _ s => s)),((HOQ.out.k.below HB8.out).keep (fun k hk s => Below.heap_setCell _ _ _ _ s.2) (fun _ _ s => s)),HN8.out.keep (fun k hk s => Below.heap_setCell _ _ _ _ (show k ≠ w7.heap.size by rcases s with s | s;exact s.2;omega)) (fun k _ s => by rcases s with s | s;exact s;exact ⟨by omega,by omega⟩),((HOQ.out.x.below HB8.out).keep (fun k hk s => Below.heap_setCell _ _ _ _ s.2) (fun _ _ s => s)),((HOQ.out.p.below HB8.out).keep (fun k hk s => Below.heap_setCell _ _ _ _ s.2) (fun _ _ s => s)),set_below (by omega) (HB.out.trans (HB8.out.mono HB.out.size))⟩
    ·have HKP : Hid (Kept c v):=⟨jk,kc,HKC.out,HKN.out,hky⟩
     have hjr : (c.vs.map vdF)[j]? = some (vdF v):=by rw [List.getElem?_map,HJ.out];rfl
     obtain ⟨gv,cur,hgv,hgS,hgl,hgb⟩:=ROwn.inn HOQ.out.v hjr;have hgv' : d'.a3 = some ⟨gv,0,none⟩:=hgv;have hOV:=HOQ.out.v;rw [hgv'] at hOV;obtain ⟨⟨u5,c5⟩,f5,⟨u6,c6⟩,f6⟩:=ROwn.atSpent hOV HJ.out;have HOV:=hidK hOV;have HGB:=hidK hgb
     have hlv : (j : Int) < d'.l3:=by have h6:=HOQ.out.v.1;have h7 : (c.vs.map vdF).length = d'.l3:=h6;rw [List.length_map] at h7;omega
     have hgS1 : wr.heap.size ≤ gv:=hgS.1;have hgS2 : ¬ gv = w7.heap.size:=hgS.2;have hgS3 : ¬ w7.heap.size = gv:=fun e => hgS2 e.symm;clear hOV hgb hjr hgS hgv;rw [hgv'] at o2;go_wp2_with fail
     go_meet
     exact ⟨rfl,some ⟨gv,0,none⟩,d'.l3,d'.c3,_,.inl ⟨j,v,HJ.out,HBD.out,.inl ⟨HKP.out,rfl⟩⟩,(Below.heap_setCell _ _ _ _ hgS3).trans ((Below.heap_setCell _ _ _ _ hgS3).trans (by rw [← hgv'];exact Bo.out)),(Below.heap_setCell _ _ _ _ (show w.heap.size + 1 ≠ gv by omega)).trans ((Below.heap_setCell _ _ _ _ (show w.heap.size + 1 ≠ gv by omega)).trans Br.out),ROwn.past (ROwn.past HOQ.out.n (Below.refl _ _) HGB.out (by decide) (by decide)) (Below.refl _ _) (block_set HGB.out _) (by decide) (by decide),ROwn.past (ROwn.past HOQ.out.k (Below.refl _ _) HGB.out (by decide) (by decide)) (Below.refl _ _) (block_set HGB.out _) (by decide) (by decide),ROwn.setSpent HOV.out HJ.out,ROwn.past (ROwn.past HOQ.out.x (Below.refl _ _) HGB.out (by decide) (by decide)) (Below.refl _ _) (block_set HGB.out _) (by decide) (by decide),ROwn.past (ROwn.past HOQ.out.p (Below.refl _ _) HGB.out (by decide) (by decide)) (Below.refl _ _) (block_set HGB.out _) (by decide) (by decide),set_below (by omega) (set_below (by omega) HB.out)⟩
   case rest =>
    obtain ⟨hs10,HRX⟩:=hcut;subst hs10;obtain ⟨sa,sl,sc,vs,hds,hbo,hbr,hn9,hk9,hv9,hx9,hp9,hb9⟩:=HRX.out;clear HRX;have HV : Hid (DropClmIs c t ⟨dropX c t vs,⟨#[]⟩,0⟩):=.inr ⟨HL.out,HT.out,HOK.out,vs,hds,rfl⟩;have HW:=hidK (wo_erase HRI.out HX.out HN.out)
    have hxl : d'.l4 = l4:=by have h6 : (c.xs.map xdF).length = d'.l4:=hx9.1;rw [List.length_map] at h6;omega
    have hmn : l4 ≤ d'.c4:=by rw [← hxl];exact hx9.2.1
    have hmx : d'.c4 ≤ 9223372036854775807:=hx9.2.2.1;have hq9 : w7.heap.size < wc.heap.size:=lt_of_some hbo;have hqr9 : w.heap.size + 1 < wc.heap.size:=lt_of_some hbr;obtain ⟨vss,H,hV,hcell⟩:=hx9.recs
    have hvl : vss.length = l4:=by have h6 : vss.length = (c.xs.map xdF).length:=hV.len;rw [List.length_map] at h6;omega
    obtain ⟨b,hxa,hbS⟩ : ∃ b,d'.a4 = some ⟨b,0,none⟩ ∧ b < wc.heap.size:=by
     have h1 : vss[i]? = some (vss[i]'(by omega)):=List.getElem?_eq_getElem _
     have h2 : 0 < (vss[i]'(by omega)).length:=by rw [hV.all i _ h1];decide
     obtain ⟨g,e,_,h3⟩:=hcell _ _ (flat_at hV.all h1 (List.getElem?_eq_getElem h2));exact ⟨g,e,cell_lt h3⟩
    have HC : Hid (∀ (j : Nat) u,vss.flatten[j]? = some u → wc.cell? ⟨b,j,none⟩ = some u):=fun j u hj => by
     obtain ⟨g,e,_,h3⟩:=hcell j u hj;rw [hxa] at e
     cases e
     exact h3
    have HVR:=hidK hV;obtain ⟨i5,hi5',hz0,hz1,hz2⟩:=info_parts infoxd;have HI0:=hidK (And.intro hi5' (And.intro hz0 (And.intro hz1 hz2)));have hown0 : World.ownsRow (wc.alloc (.cells #[] 78)) wc.heap.size 78 5 (.slice (some ⟨wc.heap.size,0,none⟩) 0 0) 0 []:=⟨by simp,.inr ⟨wc.heap.size,0,#[],rfl,Nat.le_refl _,Array.getElem?_push_size,Nat.le_refl _,by unfold maxLen;omega,by simp,by simp⟩⟩;have HOW:=hidK hown0
    have hik : (i : Int) ≤ d'.c4:=by omega
    have HN9:=hidK hn9;have HK9:=hidK hk9;have HV9:=hidK hv9;have HP9:=hidK hp9;have HB9:=hidK hb9;have HBO:=hidK hbo;have HBR:=hidK hbr;obtain ⟨o0,o1,o2,o3,o4,o5⟩:=cs6 hbo;rw [hxa] at o3;rw [hxl] at o3;clear hV hcell hx9 hi5' hz0 hz1 hz2 hown0 hn9 hk9 hv9 hp9 hb9 hbo hbr hds HX HN HRI
    go_wp2_with (first | (at_builtin;refine wpList_append_own _ rfl _ _ 33 rfl wc.heap.size 78 i5 (.agg #[.string ⟨#[]⟩,.int .i64 0,.string ⟨#[]⟩,.bool false,.string ⟨#[]⟩]) 5 64 Tryz.underlying33 HI0.out.1 HI0.out.2.1 HI0.out.2.2.1 HI0.out.2.2.2 rfl (by decide) _ 0 [] rfl (HOW.out) ⟨b,0,none⟩ i d'.c4 (vss.take i).flatten rfl ?c1 ?c2 ?c3 ?c4 ?c5 ?c6 ?_))
    case c1 => exact take_flat HVR.out.all (by omega)
    case c2 =>
     intro j u hu;rw [Addr.add_lit,Nat.zero_add];exact (cell_below (below1 wc _) hbS).trans (HC.out _ _ (take_at hu))
    case c3 => exact (mem_take_one HVR.out.one i).1
    case c4 => unfold maxLen;omega
    case c5 => omega
    case c6 => simp
    rintro v1 w10 hown4 hgr4 -
    replace hown4 : w10.ownsRow wc.heap.size 78 5 v1 i (vss.take i).flatten:=by simpa using hown4
    have hb4 : Below wc.heap.size wc w10:=((Below.refl wc.heap.size _).alloc (Nat.le_refl _) _).grown hgr4 (by simp) (fun g hg => by simp [Value.ownBlock] at hg;omega);obtain ⟨s1,s2,s3,rfl⟩:=owns_slice hown4;have HB4:=hidK hb4;have HO4:=hidK hown4;have hs4:=hb4.size;have Bo4:=upK HBO hb4;clear hown4 hgr4 hb4 HOW o0 o1 o2 o3 o4 o5;obtain ⟨o0,o1,o2,o3,o4,o5⟩:=cs6 Bo4.out;rw [hxa] at o3;rw [hxl] at o3;have hol:=lt_of_some Bo4.out
    have hik1 : ((i : Int) + 1) ≤ l4:=by omega
    by_cases hcap : d'.c4 = i + 1
    ·have hmi : l4 = i + 1:=by omega
     have hvd : vss.drop (i + 1) = []:=List.drop_eq_nil_of_le (by omega);rw [hcap,hmi] at o3
     go_wp2_with (first | (at_builtin;refine wpList_append_own _ rfl _ _ 33 rfl wc.heap.size 78 i5 (.agg #[.string ⟨#[]⟩,.int .i64 0,.string ⟨#[]⟩,.bool false,.string ⟨#[]⟩]) 5 64 Tryz.underlying33 HI0.out.1 HI0.out.2.1 HI0.out.2.2.1 HI0.out.2.2.2 rfl (by decide) _ _ _ rfl (HO4.out) ⟨b,0,none⟩ 0 0 [] rfl ?c1 ?c2 ?c3 ?c4 ?c5 ?c6 ?_))
     case c1 => rfl
     case c2 => intro j u hu;simp at hu
     case c3 => intro u hu;simp at hu
     case c4 => unfold maxLen;omega
     case c5 => omega
     case c6 => omega
     rintro v2 w11 hown5 hgr5 -
     have hlen5 : (wo Xd.n t c.xs).length = l4 - 1:=by rw [HW.out];simp;omega
     replace hown5 : w11.ownsRow wc.heap.size 78 5 v2 (wo Xd.n t c.xs).length (vss.take i ++ vss.drop (i + 1)).flatten:=by
      rw [hlen5,List.flatten_append];rw [hvd,hmi];simpa using hown5
      
     have hb5 : Below wc.heap.size w10 w11:=(Below.refl wc.heap.size w10).grown hgr5 (by omega) (fun g hg => (HO4.out.lt g hg).1);obtain ⟨t1,t2,t3,rfl⟩:=owns_slice hown5;have H35:=hidK (HB4.out.trans hb5);have HB5:=hidK (HB9.out.trans (H35.out.mono HB9.out.size));have Bo5:=upK HBO H35.out;have Br5:=upK HBR H35.out;have hsel:=Sel.erase (xs:=c.xs) (vss:=vss) (by omega) (k:=i) (by omega);rw [← HW.out] at hsel;have hrec:=(hsel.recs (HVR.out.below H35.out)).keep (w':=w11) (S':=fun k => (fun k => wr.heap.size ≤ k ∧ ¬ k = w7.heap.size) k ∨ wc.heap.size ≤ k) (fun _ _ _ _ => rfl) (fun k _ s => .inl s);obtain ⟨q1,q2,hq,hR⟩:=hrec.own hown5 (by simp) (by decide) (fun g hg => .inr (hown5.lt g hg).1);rw [List.length_map] at hq hR;simp only [Value.slice.injEq] at hq;obtain ⟨rfl,ht2,rfl⟩:=hq;rw [← ht2] at hR;have HT2:=hidK ht2;have HR5:=hidK hR;have hs5:=hb5.size;clear o0 o1 o2 o3 o4 o5;obtain ⟨o0,o1,o2,o3,o4,o5⟩:=cs6 Bo5.out;obtain ⟨r0,r1,r2,r3,r4,r5,r6,r7⟩:=cs8 Br5.out;have fo0:=froK Bo5.out 0;have fo1:=froK Bo5.out 1;have fo2:=froK Bo5.out 2;have fo3:=froK Bo5.out 3;have fo4:=froK Bo5.out 4;have fo5:=froK Bo5.out 5;have fr0:=froK Br5.out 0;have fr1:=froK Br5.out 1;have fr2:=froK Br5.out 2;have fr3:=froK Br5.out 3;have fr4:=froK Br5.out 4;have fr5:=froK Br5.out 5;have fr6:=froK Br5.out 6;have fr7:=froK Br5.out 7
     have hne : ¬ w.heap.size + 1 = w7.heap.size:=by omega
     have hne2 : ¬ w7.heap.size = w.heap.size + 1:=by omega
     have hol5:=lt_of_some Bo5.out;have hrl5:=lt_of_some Br5.out;clear hown5 hgr5 hb5 hsel hrec hR ht2 hlen5 hik hik1 hxa hxl
     go_wp2
     refine bodyPost_ret (v:=.agg #[.slice d'.a1 d'.l1 d'.c1,.slice d'.a2 d'.l2 d'.c2,.slice sa sl sc,.slice t1 t2 t3,.slice d'.a5 d'.l5 d'.c5,.int .i64 c.now,.string ⟨#[]⟩,.int .i64 0]) (by simp [results,Tryz.results6,go_sem, *]) rfl ⟨⟨d'.a1,d'.l1,d'.c1,d'.a2,d'.l2,d'.c2,sa,sl,sc,t1,t2,t3,d'.a5,d'.l5,d'.c5⟩,⟨dropX c t vs,⟨#[]⟩,0⟩,rfl,HV.out,?_,sb1 (sb1 (sb1 (sb1 (sb1 (sb1 (sb1 (sb1 (set_below (show w.heap.size ≤ w7.heap.size by omega) (HB5.out)))))))))⟩
     have hkeep : ∀ k,wr.heap.size ≤ k → ¬ k = w7.heap.size → (((((((((w11.setCell ⟨w7.heap.size,3,none⟩ (.slice t1 t2 t3)).setCell ⟨w.heap.size + 1,0,none⟩ (.slice d'.a1 d'.l1 d'.c1)).setCell ⟨w.heap.size + 1,1,none⟩ (.slice d'.a2 d'.l2 d'.c2)).setCell ⟨w.heap.size + 1,2,none⟩ (.slice sa sl sc)).setCell ⟨w.heap.size + 1,3,none⟩ (.slice t1 t2 t3)).setCell ⟨w.heap.size + 1,4,none⟩ (.slice d'.a5 d'.l5 d'.c5)).setCell ⟨w.heap.size + 1,5,none⟩ (.int .i64 c.now)).setCell ⟨w.heap.size + 1,6,none⟩ (.string ⟨#[]⟩)).setCell ⟨w.heap.size + 1,7,none⟩ (.int .i64 0)).heap[k]? = w11.heap[k]?:=fun k h1 h2 => by rw [Below.heap_setCell _ _ _ _ (show k ≠ w.heap.size + 1 by omega),Below.heap_setCell _ _ _ _ (show k ≠ w.heap.size + 1 by omega),Below.heap_setCell _ _ _ _ (show k ≠ w.heap.size + 1 by omega),Below.heap_setCell _ _ _ _ (show k ≠ w.heap.size + 1 by omega),Below.heap_setCell _ _ _ _ (show k ≠ w.heap.size + 1 by omega),Below.heap_setCell _ _ _ _ (show k ≠ w.heap.size + 1 by omega),Below.heap_setCell _ _ _ _ (show k ≠ w.heap.size + 1 by omega),Below.heap_setCell _ _ _ _ (show k ≠ w.heap.size + 1 by omega),Below.heap_setCell _ _ _ _ (show k ≠ w7.heap.size by omega)]
     refine ⟨?_,?_,?_,?_,?_⟩
     ·exact (HN9.out.keep (w':=(((((((((w11.setCell ⟨w7.heap.size,3,none⟩ (.slice t1 t2 t3)).setCell ⟨w.heap.size + 1,0,none⟩ (.slice d'.a1 d'.l1 d'.c1)).setCell ⟨w.heap.size + 1,1,none⟩ (.slice d'.a2 d'.l2 d'.c2)).setCell ⟨w.heap.size + 1,2,none⟩ (.slice sa sl sc)).setCell ⟨w.heap.size + 1,3,none⟩ (.slice t1 t2 t3)).setCell ⟨w.heap.size + 1,4,none⟩ (.slice d'.a5 d'.l5 d'.c5)).setCell ⟨w.heap.size + 1,5,none⟩ (.int .i64 c.now)).setCell ⟨w.heap.size + 1,6,none⟩ (.string ⟨#[]⟩)).setCell ⟨w.heap.size + 1,7,none⟩ (.int .i64 0))) (S':=fun _ => True) (fun k hk s => (hkeep k s.1 s.2).trans (H35.out.block k hk)) (fun _ _ _ => trivial)).row
     ·exact (HK9.out.keep (w':=(((((((((w11.setCell ⟨w7.heap.size,3,none⟩ (.slice t1 t2 t3)).setCell ⟨w.heap.size + 1,0,none⟩ (.slice d'.a1 d'.l1 d'.c1)).setCell ⟨w.heap.size + 1,1,none⟩ (.slice d'.a2 d'.l2 d'.c2)).setCell ⟨w.heap.size + 1,2,none⟩ (.slice sa sl sc)).setCell ⟨w.heap.size + 1,3,none⟩ (.slice t1 t2 t3)).setCell ⟨w.heap.size + 1,4,none⟩ (.slice d'.a5 d'.l5 d'.c5)).setCell ⟨w.heap.size + 1,5,none⟩ (.int .i64 c.now)).setCell ⟨w.heap.size + 1,6,none⟩ (.string ⟨#[]⟩)).setCell ⟨w.heap.size + 1,7,none⟩ (.int .i64 0))) (S':=fun _ => True) (fun k hk s => (hkeep k s.1 s.2).trans (H35.out.block k hk)) (fun _ _ _ => trivial)).row
     ·exact (HV9.out.keep (w':=(((((((((w11.setCell ⟨w7.heap.size,3,none⟩ (.slice t1 t2 t3)).setCell ⟨w.heap.size + 1,0,none⟩ (.slice d'.a1 d'.l1 d'.c1)).setCell ⟨w.heap.size + 1,1,none⟩ (.slice d'.a2 d'.l2 d'.c2)).setCell ⟨w.heap.size + 1,2,none⟩ (.slice sa sl sc)).setCell ⟨w.heap.size + 1,3,none⟩ (.slice t1 t2 t3)).setCell ⟨w.heap.size + 1,4,none⟩ (.slice d'.a5 d'.l5 d'.c5)).setCell ⟨w.heap.size + 1,5,none⟩ (.int .i64 c.now)).setCell ⟨w.heap.size + 1,6,none⟩ (.string ⟨#[]⟩)).setCell ⟨w.heap.size + 1,7,none⟩ (.int .i64 0))) (S':=fun _ => True) (fun k hk s => (hkeep k s.1 s.2).trans (H35.out.block k hk)) (fun _ _ _ => trivial)).row
     ·exact (HR5.out.keep (w':=(((((((((w11.setCell ⟨w7.heap.size,3,none⟩ (.slice t1 t2 t3)).setCell ⟨w.heap.size + 1,0,none⟩ (.slice d'.a1 d'.l1 d'.c1)).setCell ⟨w.heap.size + 1,1,none⟩ (.slice d'.a2 d'.l2 d'.c2)).setCell ⟨w.heap.size + 1,2,none⟩ (.slice sa sl sc)).setCell ⟨w.heap.size + 1,3,none⟩ (.slice t1 t2 t3)).setCell ⟨w.heap.size + 1,4,none⟩ (.slice d'.a5 d'.l5 d'.c5)).setCell ⟨w.heap.size + 1,5,none⟩ (.int .i64 c.now)).setCell ⟨w.heap.size + 1,6,none⟩ (.string ⟨#[]⟩)).setCell ⟨w.heap.size + 1,7,none⟩ (.int .i64 0))) (S':=fun _ => True) (fun k hk s => hkeep k (by rcases s with s | s;exact s.1;omega) (by rcases s with s | s;exact s.2;omega)) (fun _ _ _ => trivial)).row
     ·exact (HP9.out.keep (w':=(((((((((w11.setCell ⟨w7.heap.size,3,none⟩ (.slice t1 t2 t3)).setCell ⟨w.heap.size + 1,0,none⟩ (.slice d'.a1 d'.l1 d'.c1)).setCell ⟨w.heap.size + 1,1,none⟩ (.slice d'.a2 d'.l2 d'.c2)).setCell ⟨w.heap.size + 1,2,none⟩ (.slice sa sl sc)).setCell ⟨w.heap.size + 1,3,none⟩ (.slice t1 t2 t3)).setCell ⟨w.heap.size + 1,4,none⟩ (.slice d'.a5 d'.l5 d'.c5)).setCell ⟨w.heap.size + 1,5,none⟩ (.int .i64 c.now)).setCell ⟨w.heap.size + 1,6,none⟩ (.string ⟨#[]⟩)).setCell ⟨w.heap.size + 1,7,none⟩ (.int .i64 0))) (S':=fun _ => True) (fun k hk s => (hkeep k s.1 s.2).trans (H35.out.block k hk)) (fun _ _ _ => trivial)).row
    ·go_wp2_with (first | (at_builtin;refine wpList_append_own _ rfl _ _ 33 rfl wc.heap.size 78 i5 (.agg #[.string ⟨#[]⟩,.int .i64 0,.string ⟨#[]⟩,.bool false,.string ⟨#[]⟩]) 5 64 Tryz.underlying33 HI0.out.1 HI0.out.2.1 HI0.out.2.2.1 HI0.out.2.2.2 rfl (by decide) _ _ _ rfl (HO4.out) ⟨b,(i + 1) * 5,none⟩ (l4 - (i + 1)) (d'.c4 - (i + 1)) (vss.drop (i + 1)).flatten rfl ?c1 ?c2 ?c3 ?c4 ?c5 ?c6 ?_))
     case c1 => rw [drop_flat HVR.out.all,hvl]
     case c2 =>
      intro j u hu;rw [Addr.add_lit];exact (cell_below HB4.out hbS).trans (HC.out _ _ (drop_at HVR.out.all (by omega) hu))
     case c3 => exact (mem_take_one HVR.out.one (i + 1)).2
     case c4 => unfold maxLen;omega
     case c5 => omega
     case c6 => omega
     rintro v2 w11 hown5 hgr5 -
     have hlen5 : (wo Xd.n t c.xs).length = l4 - 1:=by rw [HW.out];simp;omega
     replace hown5 : w11.ownsRow wc.heap.size 78 5 v2 (wo Xd.n t c.xs).length (vss.take i ++ vss.drop (i + 1)).flatten:=by
      rw [hlen5,List.flatten_append]
      have e9 : l4 - 1 = i + (l4 - (i + 1)):=by omega
      rw [e9];exact hown5
     have hb5 : Below wc.heap.size w10 w11:=(Below.refl wc.heap.size w10).grown hgr5 (by omega) (fun g hg => (HO4.out.lt g hg).1);obtain ⟨t1,t2,t3,rfl⟩:=owns_slice hown5;have H35:=hidK (HB4.out.trans hb5);have HB5:=hidK (HB9.out.trans (H35.out.mono HB9.out.size));have Bo5:=upK HBO H35.out;have Br5:=upK HBR H35.out;have hsel:=Sel.erase (xs:=c.xs) (vss:=vss) (by omega) (k:=i) (by omega);rw [← HW.out] at hsel;have hrec:=(hsel.recs (HVR.out.below H35.out)).keep (w':=w11) (S':=fun k => (fun k => wr.heap.size ≤ k ∧ ¬ k = w7.heap.size) k ∨ wc.heap.size ≤ k) (fun _ _ _ _ => rfl) (fun k _ s => .inl s);obtain ⟨q1,q2,hq,hR⟩:=hrec.own hown5 (by simp) (by decide) (fun g hg => .inr (hown5.lt g hg).1);rw [List.length_map] at hq hR;simp only [Value.slice.injEq] at hq;obtain ⟨rfl,ht2,rfl⟩:=hq;rw [← ht2] at hR;have HT2:=hidK ht2;have HR5:=hidK hR;have hs5:=hb5.size;clear o0 o1 o2 o3 o4 o5;obtain ⟨o0,o1,o2,o3,o4,o5⟩:=cs6 Bo5.out;obtain ⟨r0,r1,r2,r3,r4,r5,r6,r7⟩:=cs8 Br5.out;have fo0:=froK Bo5.out 0;have fo1:=froK Bo5.out 1;have fo2:=froK Bo5.out 2;have fo3:=froK Bo5.out 3;have fo4:=froK Bo5.out 4;have fo5:=froK Bo5.out 5;have fr0:=froK Br5.out 0;have fr1:=froK Br5.out 1;have fr2:=froK Br5.out 2;have fr3:=froK Br5.out 3;have fr4:=froK Br5.out 4;have fr5:=froK Br5.out 5;have fr6:=froK Br5.out 6;have fr7:=froK Br5.out 7
     have hne : ¬ w.heap.size + 1 = w7.heap.size:=by omega
     have hne2 : ¬ w7.heap.size = w.heap.size + 1:=by omega
     have hol5:=lt_of_some Bo5.out;have hrl5:=lt_of_some Br5.out;clear hown5 hgr5 hb5 hsel hrec hR ht2 hlen5 hik hik1 hxa hxl
     go_wp2
     refine bodyPost_ret (v:=.agg #[.slice d'.a1 d'.l1 d'.c1,.slice d'.a2 d'.l2 d'.c2,.slice sa sl sc,.slice t1 t2 t3,.slice d'.a5 d'.l5 d'.c5,.int .i64 c.now,.string ⟨#[]⟩,.int .i64 0]) (by simp [results,Tryz.results6,go_sem, *]) rfl ⟨⟨d'.a1,d'.l1,d'.c1,d'.a2,d'.l2,d'.c2,sa,sl,sc,t1,t2,t3,d'.a5,d'.l5,d'.c5⟩,⟨dropX c t vs,⟨#[]⟩,0⟩,rfl,HV.out,?_,sb1 (sb1 (sb1 (sb1 (sb1 (sb1 (sb1 (sb1 (set_below (show w.heap.size ≤ w7.heap.size by omega) (HB5.out)))))))))⟩
     have hkeep : ∀ k,wr.heap.size ≤ k → ¬ k = w7.heap.size → (((((((((w11.setCell ⟨w7.heap.size,3,none⟩ (.slice t1 t2 t3)).setCell ⟨w.heap.size + 1,0,none⟩ (.slice d'.a1 d'.l1 d'.c1)).setCell ⟨w.heap.size + 1,1,none⟩ (.slice d'.a2 d'.l2 d'.c2)).setCell ⟨w.heap.size + 1,2,none⟩ (.slice sa sl sc)).setCell ⟨w.heap.size + 1,3,none⟩ (.slice t1 t2 t3)).setCell ⟨w.heap.size + 1,4,none⟩ (.slice d'.a5 d'.l5 d'.c5)).setCell ⟨w.heap.size + 1,5,none⟩ (.int .i64 c.now)).setCell ⟨w.heap.size + 1,6,none⟩ (.string ⟨#[]⟩)).setCell ⟨w.heap.size + 1,7,none⟩ (.int .i64 0)).heap[k]? = w11.heap[k]?:=fun k h1 h2 => by rw [Below.heap_setCell _ _ _ _ (show k ≠ w.heap.size + 1 by omega),Below.heap_setCell _ _ _ _ (show k ≠ w.heap.size + 1 by omega),Below.heap_setCell _ _ _ _ (show k ≠ w.heap.size + 1 by omega),Below.heap_setCell _ _ _ _ (show k ≠ w.heap.size + 1 by omega),Below.heap_setCell _ _ _ _ (show k ≠ w.heap.size + 1 by omega),Below.heap_setCell _ _ _ _ (show k ≠ w.heap.size + 1 by omega),Below.heap_setCell _ _ _ _ (show k ≠ w.heap.size + 1 by omega),Below.heap_setCell _ _ _ _ (show k ≠ w.heap.size + 1 by omega),Below.heap_setCell _ _ _ _ (show k ≠ w7.heap.size by omega)]
     refine ⟨?_,?_,?_,?_,?_⟩
     ·exact (HN9.out.keep (w':=(((((((((w11.setCell ⟨w7.heap.size,3,none⟩ (.slice t1 t2 t3)).setCell ⟨w.heap.size + 1,0,none⟩ (.slice d'.a1 d'.l1 d'.c1)).setCell ⟨w.heap.size + 1,1,none⟩ (.slice d'.a2 d'.l2 d'.c2)).setCell ⟨w.heap.size + 1,2,none⟩ (.slice sa sl sc)).setCell ⟨w.heap.size + 1,3,none⟩ (.slice t1 t2 t3)).setCell ⟨w.heap.size + 1,4,none⟩ (.slice d'.a5 d'.l5 d'.c5)).setCell ⟨w.heap.size + 1,5,none⟩ (.int .i64 c.now)).setCell ⟨w.heap.size + 1,6,none⟩ (.string ⟨#[]⟩)).setCell ⟨w.heap.size + 1,7,none⟩ (.int .i64 0))) (S':=fun _ => True) (fun k hk s => (hkeep k s.1 s.2).trans (H35.out.block k hk)) (fun _ _ _ => trivial)).row
     ·exact (HK9.out.keep (w':=(((((((((w11.setCell ⟨w7.heap.size,3,none⟩ (.slice t1 t2 t3)).setCell ⟨w.heap.size + 1,0,none⟩ (.slice d'.a1 d'.l1 d'.c1)).setCell ⟨w.heap.size + 1,1,none⟩ (.slice d'.a2 d'.l2 d'.c2)).setCell ⟨w.heap.size + 1,2,none⟩ (.slice sa sl sc)).setCell ⟨w.heap.size + 1,3,none⟩ (.slice t1 t2 t3)).setCell ⟨w.heap.size + 1,4,none⟩ (.slice d'.a5 d'.l5 d'.c5)).setCell ⟨w.heap.size + 1,5,none⟩ (.int .i64 c.now)).setCell ⟨w.heap.size + 1,6,none⟩ (.string ⟨#[]⟩)).setCell ⟨w.heap.size + 1,7,none⟩ (.int .i64 0))) (S':=fun _ => True) (fun k hk s => (hkeep k s.1 s.2).trans (H35.out.block k hk)) (fun _ _ _ => trivial)).row
     ·exact (HV9.out.keep (w':=(((((((((w11.setCell ⟨w7.heap.size,3,none⟩ (.slice t1 t2 t3)).setCell ⟨w.heap.size + 1,0,none⟩ (.slice d'.a1 d'.l1 d'.c1)).setCell ⟨w.heap.size + 1,1,none⟩ (.slice d'.a2 d'.l2 d'.c2)).setCell ⟨w.heap.size + 1,2,none⟩ (.slice sa sl sc)).setCell ⟨w.heap.size + 1,3,none⟩ (.slice t1 t2 t3)).setCell ⟨w.heap.size + 1,4,none⟩ (.slice d'.a5 d'.l5 d'.c5)).setCell ⟨w.heap.size + 1,5,none⟩ (.int .i64 c.now)).setCell ⟨w.heap.size + 1,6,none⟩ (.string ⟨#[]⟩)).setCell ⟨w.heap.size + 1,7,none⟩ (.int .i64 0))) (S':=fun _ => True) (fun k hk s => (hkeep k s.1 s.2).trans (H35.out.block k hk)) (fun _ _ _ => trivial)).row
     ·exact (HR5.out.keep (w':=(((((((((w11.setCell ⟨w7.heap.size,3,none⟩ (.slice t1 t2 t3)).setCell ⟨w.heap.size + 1,0,none⟩ (.slice d'.a1 d'.l1 d'.c1)).setCell ⟨w.heap.size + 1,1,none⟩ (.slice d'.a2 d'.l2 d'.c2)).setCell ⟨w.heap.size + 1,2,none⟩ (.slice sa sl sc)).setCell ⟨w.heap.size + 1,3,none⟩ (.slice t1 t2 t3)).setCell ⟨w.heap.size + 1,4,none⟩ (.slice d'.a5 d'.l5 d'.c5)).setCell ⟨w.heap.size + 1,5,none⟩ (.int .i64 c.now)).setCell ⟨w.heap.size + 1,6,none⟩ (.string ⟨#[]⟩)).setCell ⟨w.heap.size + 1,7,none⟩ (.int .i64 0))) (S':=fun _ => True) (fun k hk s => hkeep k (by rcases s with s | s;exact s.1;omega) (by rcases s with s | s;exact s.2;omega)) (fun _ _ _ => trivial)).row
     ·exact (HP9.out.keep (w':=(((((((((w11.setCell ⟨w7.heap.size,3,none⟩ (.slice t1 t2 t3)).setCell ⟨w.heap.size + 1,0,none⟩ (.slice d'.a1 d'.l1 d'.c1)).setCell ⟨w.heap.size + 1,1,none⟩ (.slice d'.a2 d'.l2 d'.c2)).setCell ⟨w.heap.size + 1,2,none⟩ (.slice sa sl sc)).setCell ⟨w.heap.size + 1,3,none⟩ (.slice t1 t2 t3)).setCell ⟨w.heap.size + 1,4,none⟩ (.slice d'.a5 d'.l5 d'.c5)).setCell ⟨w.heap.size + 1,5,none⟩ (.int .i64 c.now)).setCell ⟨w.heap.size + 1,6,none⟩ (.string ⟨#[]⟩)).setCell ⟨w.heap.size + 1,7,none⟩ (.int .i64 0))) (S':=fun _ => True) (fun k hk s => (hkeep k s.1 s.2).trans (H35.out.block k hk)) (fun _ _ _ => trivial)).row
 ·have HNO:=hidK hno;clear hno;obtain ⟨k0,k1,k2,k3,k4,k5⟩:=cs6 Bk.out;have ltk_2:=lt_of_some Bk.out;go_wp2_with fail;refine (sbind_miss ⟨a1,l1,y1,a2,l2,y2,a3,l3,y3,a4,l4,y4,a5,l5,y5⟩ c t _ (HR.out.below HB.out) HT.out.2.1.2.2.2.1.2.2 HT.out.2.1.2.2.1.2.2 (RowsOk.ne HT.out.2.1) HNO.out).mono ?_;rintro e w4 ⟨rfl,hb⟩;clear k0 k1 k2 k3 k4 k5 ltk_2;replace Bk:=upK Bk hb;replace Br:=upK Br hb;replace HB:=upB HB hb;clear hb;have HI : Hid (false = true ↔ False):=⟨fun h => (by cases h),False.elim⟩;obtain ⟨k0,k1,k2,k3,k4,k5⟩:=cs6 Bk.out;have ltk_3:=lt_of_some Bk.out;obtain ⟨r0,r1,r2,r3,r4,r5,r6,r7⟩:=cs8 Br.out;have ltr_3:=lt_of_some Br.out
  go_wp2
  go_loopw [8,9] (fun q iv wr => ∃ (k : Nat) (r : Bool),k ≤ l5 ∧ q = .bool r ∧ iv = .int .i64 k ∧ Hid (r = true ↔ (False ∨ ∃ (i : Nat) (p : Pd),i < k ∧ c.ps[i]? = some p ∧ InL p.zs t)) ∧ Hid (Below w4.heap.size w4 wr)) (fun _ iv _ => l5 - (intOf iv).toNat)
  case atStart => exact ⟨0,false,by omega,rfl,rfl,show _ ↔ _ by rw [HI.out];exact ⟨.inl,fun h => h.elim id (fun ⟨i,p,h,_⟩ => by omega)⟩,Below.refl _ _⟩
  case round =>
   clear k0 k1 k2 k3 k4 k5 ltk_3 r0 r1 r2 r3 r4 r5 r6 r7 ltr_3;obtain ⟨k,r,hk,rfl,rfl,HS,HL4⟩:=hrel;have hb4:=HL4.out;replace Bk:=upK Bk hb4;replace Br:=upK Br hb4;replace HB:=upB HB hb4;clear hb4;obtain ⟨k0,k1,k2,k3,k4,k5⟩:=cs6 Bk.out;have ltk:=lt_of_some Bk.out
   by_cases hlt : k < l5
   ·obtain ⟨b,o,p,rfl,hb,hxn,hat⟩:=pd_at (HR.out.p.below HB.out) hlt;obtain ⟨va,vl,vc,hvr,z0,z2,z4,c0,c1,c2,c3,c4,c5⟩:=pd_cells hat;have HP:=hidK hxn;have HTP:=hidK hvr
    have hk3 : (k : Int) < l5:=by omega
    clear hat hxn z0 z2 z4 hvr
    cases r
    ·go_wp2_with fail;refine (shas_any va vl vc p.zs t _ HTP.out).mono ?_;rintro e w6 ⟨r2,rfl,hi,hb6⟩;have HI6:=hidK hi;have HL6:=upB HL4 hb6;clear hi;replace Bk:=upK Bk hb6;replace Br:=upK Br hb6;replace HB:=upB HB hb6;clear hb6;clear k0 k1 k2 k3 k4 k5 ltk c0 c1 c2 c3 c4 c5 hb
     go_wp2
     refine ⟨⟨k + 1,r2,by omega,rfl,by go_num,show _ ↔ _ from ?_,HL6.out⟩,by simp [intOf];omega⟩
     constructor
     ·exact fun h => .inr ⟨k,p,by omega,HP.out,HI6.out.1 h⟩
     ·rintro (h | ⟨i,m,h1,h2,h3⟩)
      ·exact absurd (HS.out.2 (.inl h)) (by decide)
      ·by_cases e : i = k
       ·subst e;rw [HP.out] at h2
        cases h2
        exact HI6.out.2 h3
       ·exact absurd (HS.out.2 (.inr ⟨i,m,by omega,h2,h3⟩)) (by decide)
    ·go_wp2
     refine ⟨⟨k + 1,true,by omega,rfl,by go_num,show _ ↔ _ from ⟨fun _ => (HS.out.1 (by first | trivial | rfl)).elim .inl (fun ⟨i,m,h1,h2⟩ => .inr ⟨i,m,by omega,h2⟩),fun _ => rfl⟩,HL4.out⟩,by simp [intOf];omega⟩
   obtain rfl : l5 = k:=by omega
   have hgo : r = true ↔ XBusy c t:=by
    rw [HS.out]
    constructor
    ·rintro (h | ⟨i,p,-,h1,h2⟩)
     ·exact h.elim
     ·exact .inr ⟨i,p,h1,h2⟩
    ·rintro (⟨u,hu,hb⟩ | ⟨i,p,h1,h2⟩)
     ·exact absurd hu (HNO.out u)
     ·exact .inr ⟨i,p,by have:=(List.getElem?_eq_some_iff.1 h1).1;omega,h1,h2⟩
   clear HS
   cases r
   rotate_left
   ·have HV : Hid (DropClmIs c t (co0 11)):=.inl ⟨5,⟨HL.out,HT.out,.inr ⟨rfl,HHit.out,hgo.1 (by first | trivial | rfl)⟩⟩,rfl⟩;clear hgo;obtain ⟨k0,k1,k2,k3,k4,k5⟩:=cs6 Bk.out;have ltk_4:=lt_of_some Bk.out;go_wp2_with fail;refine (sill_any 11 _).mono ?_;rintro e w5 ⟨rfl,hb⟩;clear k0 k1 k2 k3 k4 k5 ltk_4;replace Bk:=upK Bk hb;replace Br:=upK Br hb;replace HB:=upB HB hb;clear hb;obtain ⟨r0,r1,r2,r3,r4,r5,r6,r7⟩:=cs8 Br.out;have ltr_5:=lt_of_some Br.out;have fr0:=froK Br.out 0;have fr1:=froK Br.out 1;have fr2:=froK Br.out 2;have fr3:=froK Br.out 3;have fr4:=froK Br.out 4;have fr5:=froK Br.out 5;have fr6:=froK Br.out 6;have fr7:=froK Br.out 7;have hrl : w.heap.size + 1 < w5.heap.size:=lt_of_some Br.out
    go_wp2
    exact bodyPost_ret (v:=.agg #[.slice none 0 0,.slice none 0 0,.slice none 0 0,.slice none 0 0,.slice none 0 0,.int .i64 0,.string ⟨#[]⟩,.int .i64 11]) (by simp [results,Tryz.results6,go_sem, *]) rfl ⟨ad0,co0 11,rfl,HV.out,(own0 _ (fun _ => True)).row,sb1 (sb1 (sb1 (sb1 (sb1 (sb1 (sb1 (sb1 (HB.out))))))))⟩
   have HQR : Hid (w.heap.size + 1 < wr.heap.size):=lt_of_some Br.out;have HOK : Hid (clmOk c t):=⟨HHit.out,fun h => by have h9:=hgo.2 h;cases h9⟩;clear hgo;obtain ⟨k0,k1,k2,k3,k4,k5⟩:=cs6 Bk.out;have ltk_4:=lt_of_some Bk.out;go_wp2_with fail;refine (scopyC_any ⟨a1,l1,y1,a2,l2,y2,a3,l3,y3,a4,l4,y4,a5,l5,y5⟩ c _ (HR.out.below HB.out) HT.out.sm).mono ?_;rintro e w7 ⟨d',rfl,ho,hb⟩;have HQ7:=hidK hb.size;have HO:=hidK ho;clear ho;clear k0 k1 k2 k3 k4 k5 ltk_4;replace Bk:=upK Bk hb;replace Br:=upK Br hb;replace HB:=upB HB hb;clear hb;have hq7:=HQ7.out;have hqr : w.heap.size + 1 < wr.heap.size:=HQR.out
   have hszv6 : (w7.alloc (.cells #[.slice d'.a1 d'.l1 d'.c1,.slice d'.a2 d'.l2 d'.c2,.slice d'.a3 d'.l3 d'.c3,.slice d'.a4 d'.l4 d'.c4,.slice d'.a5 d'.l5 d'.c5,.int .i64 c.now] 36)).heap.size = w7.heap.size + 1:=by simp
   have Gk : Hid ((w7.alloc (.cells #[.slice d'.a1 d'.l1 d'.c1,.slice d'.a2 d'.l2 d'.c2,.slice d'.a3 d'.l3 d'.c3,.slice d'.a4 d'.l4 d'.c4,.slice d'.a5 d'.l5 d'.c5,.int .i64 c.now] 36)).heap[w.heap.size]? = some (.cells #[.slice a1 l1 y1,.slice a2 l2 y2,.slice a3 l3 y3,.slice a4 l4 y4,.slice a5 l5 y5,.int .i64 c.now] 36 (0,0))):=(Below.heap_alloc _ _ _ (lt_of_some Bk.out)).trans (Bk.out);have Gr : Hid ((w7.alloc (.cells #[.slice d'.a1 d'.l1 d'.c1,.slice d'.a2 d'.l2 d'.c2,.slice d'.a3 d'.l3 d'.c3,.slice d'.a4 d'.l4 d'.c4,.slice d'.a5 d'.l5 d'.c5,.int .i64 c.now] 36)).heap[w.heap.size + 1]? = some (.cells #[.slice none 0 0,.slice none 0 0,.slice none 0 0,.slice none 0 0,.slice none 0 0,.int .i64 0,.string ⟨#[]⟩,.int .i64 0] 38 (0,0))):=(Below.heap_alloc _ _ _ (lt_of_some Br.out)).trans (Br.out);have Go : Hid ((w7.alloc (.cells #[.slice d'.a1 d'.l1 d'.c1,.slice d'.a2 d'.l2 d'.c2,.slice d'.a3 d'.l3 d'.c3,.slice d'.a4 d'.l4 d'.c4,.slice d'.a5 d'.l5 d'.c5,.int .i64 c.now] 36)).heap[w7.heap.size]? = some (.cells #[.slice d'.a1 d'.l1 d'.c1,.slice d'.a2 d'.l2 d'.c2,.slice d'.a3 d'.l3 d'.c3,.slice d'.a4 d'.l4 d'.c4,.slice d'.a5 d'.l5 d'.c5,.int .i64 c.now] 36 (0,0))):=Array.getElem?_push_size;have HW : Hid (Below w.heap.size w (w7.alloc (.cells #[.slice d'.a1 d'.l1 d'.c1,.slice d'.a2 d'.l2 d'.c2,.slice d'.a3 d'.l3 d'.c3,.slice d'.a4 d'.l4 d'.c4,.slice d'.a5 d'.l5 d'.c5,.int .i64 c.now] 36))):=(HB.out.trans ((below1 _ _).mono HB.out.size));obtain ⟨k0,k1,k2,k3,k4,k5⟩:=sl6 Gk;have hne0:=Wd.ne (w7.alloc (.cells #[.slice d'.a1 d'.l1 d'.c1,.slice d'.a2 d'.l2 d'.c2,.slice d'.a3 d'.l3 d'.c3,.slice d'.a4 d'.l4 d'.c4,.slice d'.a5 d'.l5 d'.c5,.int .i64 c.now] 36));go_wp2_with fail;refine wp_region_wide (by kernel_rfl) (by kernel_rfl) ?_
   repeat (go_big_quiet_step (first | fail))
   refine wpQuiet_nil ?_;rintro _ ⟨q1,rfl⟩;have HB6:=upB HW q1.b;have Ck:=upK Gk q1.b;have Cr:=upK Gr q1.b;have Co:=upK Go q1.b;clear hne0 HW HB k0 k1 k2 k3 k4 k5 Gk Gr Go Bk Br hszv6;have HB:=HB6;clear HB6;have Bk:=Ck;clear Ck;have Br:=Cr;clear Cr;have Bo:=Co;clear Co;have HQB : Hid (Below (w7.alloc (.cells #[.slice d'.a1 d'.l1 d'.c1,.slice d'.a2 d'.l2 d'.c2,.slice d'.a3 d'.l3 d'.c3,.slice d'.a4 d'.l4 d'.c4,.slice d'.a5 d'.l5 d'.c5,.int .i64 c.now] 36)).heap.size (w7.alloc (.cells #[.slice d'.a1 d'.l1 d'.c1,.slice d'.a2 d'.l2 d'.c2,.slice d'.a3 d'.l3 d'.c3,.slice d'.a4 d'.l4 d'.c4,.slice d'.a5 d'.l5 d'.c5,.int .i64 c.now] 36)) q1.w):=q1.b;have hq8 : w7.heap.size < q1.w.heap.size:=lt_of_some Bo.out
   have HOQ : Hid (ClFr q1.w d' c.raw (fun k => wr.heap.size ≤ k ∧ ¬ k = w7.heap.size)):=by
    have h1 : Below w7.heap.size w7 q1.w:=(below1 w7 (.cells #[.slice d'.a1 d'.l1 d'.c1,.slice d'.a2 d'.l2 d'.c2,.slice d'.a3 d'.l3 d'.c3,.slice d'.a4 d'.l4 d'.c4,.slice d'.a5 d'.l5 d'.c5,.int .i64 c.now] 36)).trans (HQB.out.mono (by simp));exact ⟨HO.out.n.keep (fun k hk _ => h1.block k hk) (fun k hk s => ⟨s,by omega⟩),HO.out.k.keep (fun k hk _ => h1.block k hk) (fun k hk s => ⟨s,by omega⟩),HO.out.v.keep (fun k hk _ => h1.block k hk) (fun k hk s => ⟨s,by omega⟩),HO.out.x.keep (fun k hk _ => h1.block k hk) (fun k hk s => ⟨s,by omega⟩),HO.out.p.keep (fun k hk _ => h1.block k hk) (fun k hk s => ⟨s,by omega⟩)⟩
   clear HO HQB
   generalize q1.w = wq at *
   obtain ⟨r0,r1,r2,r3,r4,r5,r6,r7⟩:=cs8 Br.out;have ltr_6:=lt_of_some Br.out;obtain ⟨o0,o1,o2,o3,o4,o5⟩:=cs6 Bo.out;have lto_6:=lt_of_some Bo.out
   go_upto_if 73 with fail
   go_cut [10] from 57 to 90 (fun s wx => s = .pointer (some ⟨w7.heap.size,0,none⟩) ∧ Hid (∃ sa sl sc vs,DisksIs c t vs ∧ wx.heap[w7.heap.size]? = some (.cells #[.slice d'.a1 d'.l1 d'.c1,.slice d'.a2 d'.l2 d'.c2,.slice sa sl sc,.slice d'.a4 d'.l4 d'.c4,.slice d'.a5 d'.l5 d'.c5,.int .i64 c.now] 36 (0,0)) ∧ wx.heap[w.heap.size + 1]? = some (.cells #[.slice none 0 0,.slice none 0 0,.slice none 0 0,.slice none 0 0,.slice none 0 0,.int .i64 0,.string ⟨#[]⟩,.int .i64 0] 38 (0,0)) ∧ ROwn wx d'.a1 d'.l1 d'.c1 7 106 (c.ns.map ndF) (fun k => wr.heap.size ≤ k ∧ ¬ k = w7.heap.size) ∧ ROwn wx d'.a2 d'.l2 d'.c2 4 61 (c.ks.map kdF) (fun k => wr.heap.size ≤ k ∧ ¬ k = w7.heap.size) ∧ ROwn wx sa sl sc 8 63 (vs.map vdF) (fun k => wr.heap.size ≤ k ∧ ¬ k = w7.heap.size) ∧ ROwn wx d'.a4 d'.l4 d'.c4 5 78 (c.xs.map xdF) (fun k => wr.heap.size ≤ k ∧ ¬ k = w7.heap.size) ∧ ROwn wx d'.a5 d'.l5 d'.c5 6 58 (c.ps.map pdF) (fun k => wr.heap.size ≤ k ∧ ¬ k = w7.heap.size) ∧ Below w.heap.size w wx))
   case first =>
    go_wp2_with fail
    go_meet
    exact ⟨rfl,_,_,_,c.vs,.inr ⟨HNO.out,rfl⟩,Bo.out,Br.out,HOQ.out.n,HOQ.out.k,HOQ.out.v,HOQ.out.x,HOQ.out.p,HB.out⟩
   case rest =>
    obtain ⟨hs10,HRX⟩:=hcut;subst hs10;obtain ⟨sa,sl,sc,vs,hds,hbo,hbr,hn9,hk9,hv9,hx9,hp9,hb9⟩:=HRX.out;clear HRX;have HV : Hid (DropClmIs c t ⟨dropX c t vs,⟨#[]⟩,0⟩):=.inr ⟨HL.out,HT.out,HOK.out,vs,hds,rfl⟩;have HW:=hidK (wo_erase HRI.out HX.out HN.out)
    have hxl : d'.l4 = l4:=by have h6 : (c.xs.map xdF).length = d'.l4:=hx9.1;rw [List.length_map] at h6;omega
    have hmn : l4 ≤ d'.c4:=by rw [← hxl];exact hx9.2.1
    have hmx : d'.c4 ≤ 9223372036854775807:=hx9.2.2.1;have hq9 : w7.heap.size < wc.heap.size:=lt_of_some hbo;have hqr9 : w.heap.size + 1 < wc.heap.size:=lt_of_some hbr;obtain ⟨vss,H,hV,hcell⟩:=hx9.recs
    have hvl : vss.length = l4:=by have h6 : vss.length = (c.xs.map xdF).length:=hV.len;rw [List.length_map] at h6;omega
    obtain ⟨b,hxa,hbS⟩ : ∃ b,d'.a4 = some ⟨b,0,none⟩ ∧ b < wc.heap.size:=by
     have h1 : vss[i]? = some (vss[i]'(by omega)):=List.getElem?_eq_getElem _
     have h2 : 0 < (vss[i]'(by omega)).length:=by rw [hV.all i _ h1];decide
     obtain ⟨g,e,_,h3⟩:=hcell _ _ (flat_at hV.all h1 (List.getElem?_eq_getElem h2));exact ⟨g,e,cell_lt h3⟩
    have HC : Hid (∀ (j : Nat) u,vss.flatten[j]? = some u → wc.cell? ⟨b,j,none⟩ = some u):=fun j u hj => by
     obtain ⟨g,e,_,h3⟩:=hcell j u hj;rw [hxa] at e
     cases e
     exact h3
    have HVR:=hidK hV;obtain ⟨i5,hi5',hz0,hz1,hz2⟩:=info_parts infoxd;have HI0:=hidK (And.intro hi5' (And.intro hz0 (And.intro hz1 hz2)));have hown0 : World.ownsRow (wc.alloc (.cells #[] 78)) wc.heap.size 78 5 (.slice (some ⟨wc.heap.size,0,none⟩) 0 0) 0 []:=⟨by simp,.inr ⟨wc.heap.size,0,#[],rfl,Nat.le_refl _,Array.getElem?_push_size,Nat.le_refl _,by unfold maxLen;omega,by simp,by simp⟩⟩;have HOW:=hidK hown0
    have hik : (i : Int) ≤ d'.c4:=by omega
    have HN9:=hidK hn9;have HK9:=hidK hk9;have HV9:=hidK hv9;have HP9:=hidK hp9;have HB9:=hidK hb9;have HBO:=hidK hbo;have HBR:=hidK hbr;obtain ⟨o0,o1,o2,o3,o4,o5⟩:=cs6 hbo;rw [hxa] at o3;rw [hxl] at o3;clear hV hcell hx9 hi5' hz0 hz1 hz2 hown0 hn9 hk9 hv9 hp9 hb9 hbo hbr hds HX HN HRI
    go_wp2_with (first | (at_builtin;refine wpList_append_own _ rfl _ _ 33 rfl wc.heap.size 78 i5 (.agg #[.string ⟨#[]⟩,.int .i64 0,.string ⟨#[]⟩,.bool false,.string ⟨#[]⟩]) 5 64 Tryz.underlying33 HI0.out.1 HI0.out.2.1 HI0.out.2.2.1 HI0.out.2.2.2 rfl (by decide) _ 0 [] rfl (HOW.out) ⟨b,0,none⟩ i d'.c4 (vss.take i).flatten rfl ?c1 ?c2 ?c3 ?c4 ?c5 ?c6 ?_))
    case c1 => exact take_flat HVR.out.all (by omega)
    case c2 =>
     intro j u hu;rw [Addr.add_lit,Nat.zero_add];exact (cell_below (below1 wc _) hbS).trans (HC.out _ _ (take_at hu))
    case c3 => exact (mem_take_one HVR.out.one i).1
    case c4 => unfold maxLen;omega
    case c5 => omega
    case c6 => simp
    rintro v1 w10 hown4 hgr4 -
    replace hown4 : w10.ownsRow wc.heap.size 78 5 v1 i (vss.take i).flatten:=by simpa using hown4
    have hb4 : Below wc.heap.size wc w10:=((Below.refl wc.heap.size _).alloc (Nat.le_refl _) _).grown hgr4 (by simp) (fun g hg => by simp [Value.ownBlock] at hg;omega);obtain ⟨s1,s2,s3,rfl⟩:=owns_slice hown4;have HB4:=hidK hb4;have HO4:=hidK hown4;have hs4:=hb4.size;have Bo4:=upK HBO hb4;clear hown4 hgr4 hb4 HOW o0 o1 o2 o3 o4 o5;obtain ⟨o0,o1,o2,o3,o4,o5⟩:=cs6 Bo4.out;rw [hxa] at o3;rw [hxl] at o3;have hol:=lt_of_some Bo4.out
    have hik1 : ((i : Int) + 1) ≤ l4:=by omega
    by_cases hcap : d'.c4 = i + 1
    ·have hmi : l4 = i + 1:=by omega
     have hvd : vss.drop (i + 1) = []:=List.drop_eq_nil_of_le (by omega);rw [hcap,hmi] at o3
     go_wp2_with (first | (at_builtin;refine wpList_append_own _ rfl _ _ 33 rfl wc.heap.size 78 i5 (.agg #[.string ⟨#[]⟩,.int .i64 0,.string ⟨#[]⟩,.bool false,.string ⟨#[]⟩]) 5 64 Tryz.underlying33 HI0.out.1 HI0.out.2.1 HI0.out.2.2.1 HI0.out.2.2.2 rfl (by decide) _ _ _ rfl (HO4.out) ⟨b,0,none⟩ 0 0 [] rfl ?c1 ?c2 ?c3 ?c4 ?c5 ?c6 ?_))
     case c1 => rfl
     case c2 => intro j u hu;simp at hu
     case c3 => intro u hu;simp at hu
     case c4 => unfold maxLen;omega
     case c5 => omega
     case c6 => omega
     rintro v2 w11 hown5 hgr5 -
     have hlen5 : (wo Xd.n t c.xs).length = l4 - 1:=by rw [HW.out];simp;omega
     replace hown5 : w11.ownsRow wc.heap.size 78 5 v2 (wo Xd.n t c.xs).length (vss.take i ++ vss.drop (i + 1)).flatten:=by
      rw [hlen5,List.flatten_append];rw [hvd,hmi];simpa using hown5
      
     have hb5 : Below wc.heap.size w10 w11:=(Below.refl wc.heap.size w10).grown hgr5 (by omega) (fun g hg => (HO4.out.lt g hg).1);obtain ⟨t1,t2,t3,rfl⟩:=owns_slice hown5;have H35:=hidK (HB4.out.trans hb5);have HB5:=hidK (HB9.out.trans (H35.out.mono HB9.out.size));have Bo5:=upK HBO H35.out;have Br5:=upK HBR H35.out;have hsel:=Sel.erase (xs:=c.xs) (vss:=vss) (by omega) (k:=i) (by omega);rw [← HW.out] at hsel;have hrec:=(hsel.recs (HVR.out.below H35.out)).keep (w':=w11) (S':=fun k => (fun k => wr.heap.size ≤ k ∧ ¬ k = w7.heap.size) k ∨ wc.heap.size ≤ k) (fun _ _ _ _ => rfl) (fun k _ s => .inl s);obtain ⟨q1,q2,hq,hR⟩:=hrec.own hown5 (by simp) (by decide) (fun g hg => .inr (hown5.lt g hg).1);rw [List.length_map] at hq hR;simp only [Value.slice.injEq] at hq;obtain ⟨rfl,ht2,rfl⟩:=hq;rw [← ht2] at hR;have HT2:=hidK ht2;have HR5:=hidK hR;have hs5:=hb5.size;clear o0 o1 o2 o3 o4 o5;obtain ⟨o0,o1,o2,o3,o4,o5⟩:=cs6 Bo5.out;obtain ⟨r0,r1,r2,r3,r4,r5,r6,r7⟩:=cs8 Br5.out;have fo0:=froK Bo5.out 0;have fo1:=froK Bo5.out 1;have fo2:=froK Bo5.out 2;have fo3:=froK Bo5.out 3;have fo4:=froK Bo5.out 4;have fo5:=froK Bo5.out 5;have fr0:=froK Br5.out 0;have fr1:=froK Br5.out 1;have fr2:=froK Br5.out 2;have fr3:=froK Br5.out 3;have fr4:=froK Br5.out 4;have fr5:=froK Br5.out 5;have fr6:=froK Br5.out 6;have fr7:=froK Br5.out 7
     have hne : ¬ w.heap.size + 1 = w7.heap.size:=by omega
     have hne2 : ¬ w7.heap.size = w.heap.size + 1:=by omega
     have hol5:=lt_of_some Bo5.out;have hrl5:=lt_of_some Br5.out;clear hown5 hgr5 hb5 hsel hrec hR ht2 hlen5 hik hik1 hxa hxl
     go_wp2
     refine bodyPost_ret (v:=.agg #[.slice d'.a1 d'.l1 d'.c1,.slice d'.a2 d'.l2 d'.c2,.slice sa sl sc,.slice t1 t2 t3,.slice d'.a5 d'.l5 d'.c5,.int .i64 c.now,.string ⟨#[]⟩,.int .i64 0]) (by simp [results,Tryz.results6,go_sem, *]) rfl ⟨⟨d'.a1,d'.l1,d'.c1,d'.a2,d'.l2,d'.c2,sa,sl,sc,t1,t2,t3,d'.a5,d'.l5,d'.c5⟩,⟨dropX c t vs,⟨#[]⟩,0⟩,rfl,HV.out,?_,sb1 (sb1 (sb1 (sb1 (sb1 (sb1 (sb1 (sb1 (set_below (show w.heap.size ≤ w7.heap.size by omega) (HB5.out)))))))))⟩
     have hkeep : ∀ k,wr.heap.size ≤ k → ¬ k = w7.heap.size → (((((((((w11.setCell ⟨w7.heap.size,3,none⟩ (.slice t1 t2 t3)).setCell ⟨w.heap.size + 1,0,none⟩ (.slice d'.a1 d'.l1 d'.c1)).setCell ⟨w.heap.size + 1,1,none⟩ (.slice d'.a2 d'.l2 d'.c2)).setCell ⟨w.heap.size + 1,2,none⟩ (.slice sa sl sc)).setCell ⟨w.heap.size + 1,3,none⟩ (.slice t1 t2 t3)).setCell ⟨w.heap.size + 1,4,none⟩ (.slice d'.a5 d'.l5 d'.c5)).setCell ⟨w.heap.size + 1,5,none⟩ (.int .i64 c.now)).setCell ⟨w.heap.size + 1,6,none⟩ (.string ⟨#[]⟩)).setCell ⟨w.heap.size + 1,7,none⟩ (.int .i64 0)).heap[k]? = w11.heap[k]?:=fun k h1 h2 => by rw [Below.heap_setCell _ _ _ _ (show k ≠ w.heap.size + 1 by omega),Below.heap_setCell _ _ _ _ (show k ≠ w.heap.size + 1 by omega),Below.heap_setCell _ _ _ _ (show k ≠ w.heap.size + 1 by omega),Below.heap_setCell _ _ _ _ (show k ≠ w.heap.size + 1 by omega),Below.heap_setCell _ _ _ _ (show k ≠ w.heap.size + 1 by omega),Below.heap_setCell _ _ _ _ (show k ≠ w.heap.size + 1 by omega),Below.heap_setCell _ _ _ _ (show k ≠ w.heap.size + 1 by omega),Below.heap_setCell _ _ _ _ (show k ≠ w.heap.size + 1 by omega),Below.heap_setCell _ _ _ _ (show k ≠ w7.heap.size by omega)]
     refine ⟨?_,?_,?_,?_,?_⟩
     ·exact (HN9.out.keep (w':=(((((((((w11.setCell ⟨w7.heap.size,3,none⟩ (.slice t1 t2 t3)).setCell ⟨w.heap.size + 1,0,none⟩ (.slice d'.a1 d'.l1 d'.c1)).setCell ⟨w.heap.size + 1,1,none⟩ (.slice d'.a2 d'.l2 d'.c2)).setCell ⟨w.heap.size + 1,2,none⟩ (.slice sa sl sc)).setCell ⟨w.heap.size + 1,3,none⟩ (.slice t1 t2 t3)).setCell ⟨w.heap.size + 1,4,none⟩ (.slice d'.a5 d'.l5 d'.c5)).setCell ⟨w.heap.size + 1,5,none⟩ (.int .i64 c.now)).setCell ⟨w.heap.size + 1,6,none⟩ (.string ⟨#[]⟩)).setCell ⟨w.heap.size + 1,7,none⟩ (.int .i64 0))) (S':=fun _ => True) (fun k hk s => (hkeep k s.1 s.2).trans (H35.out.block k hk)) (fun _ _ _ => trivial)).row
     ·exact (HK9.out.keep (w':=(((((((((w11.setCell ⟨w7.heap.size,3,none⟩ (.slice t1 t2 t3)).setCell ⟨w.heap.size + 1,0,none⟩ (.slice d'.a1 d'.l1 d'.c1)).setCell ⟨w.heap.size + 1,1,none⟩ (.slice d'.a2 d'.l2 d'.c2)).setCell ⟨w.heap.size + 1,2,none⟩ (.slice sa sl sc)).setCell ⟨w.heap.size + 1,3,none⟩ (.slice t1 t2 t3)).setCell ⟨w.heap.size + 1,4,none⟩ (.slice d'.a5 d'.l5 d'.c5)).setCell ⟨w.heap.size + 1,5,none⟩ (.int .i64 c.now)).setCell ⟨w.heap.size + 1,6,none⟩ (.string ⟨#[]⟩)).setCell ⟨w.heap.size + 1,7,none⟩ (.int .i64 0))) (S':=fun _ => True) (fun k hk s => (hkeep k s.1 s.2).trans (H35.out.block k hk)) (fun _ _ _ => trivial)).row
     ·exact (HV9.out.keep (w':=(((((((((w11.setCell ⟨w7.heap.size,3,none⟩ (.slice t1 t2 t3)).setCell ⟨w.heap.size + 1,0,none⟩ (.slice d'.a1 d'.l1 d'.c1)).setCell ⟨w.heap.size + 1,1,none⟩ (.slice d'.a2 d'.l2 d'.c2)).setCell ⟨w.heap.size + 1,2,none⟩ (.slice sa sl sc)).setCell ⟨w.heap.size + 1,3,none⟩ (.slice t1 t2 t3)).setCell ⟨w.heap.size + 1,4,none⟩ (.slice d'.a5 d'.l5 d'.c5)).setCell ⟨w.heap.size + 1,5,none⟩ (.int .i64 c.now)).setCell ⟨w.heap.size + 1,6,none⟩ (.string ⟨#[]⟩)).setCell ⟨w.heap.size + 1,7,none⟩ (.int .i64 0))) (S':=fun _ => True) (fun k hk s => (hkeep k s.1 s.2).trans (H35.out.block k hk)) (fun _ _ _ => trivial)).row
     ·exact (HR5.out.keep (w':=(((((((((w11.setCell ⟨w7.heap.size,3,none⟩ (.slice t1 t2 t3)).setCell ⟨w.heap.size + 1,0,none⟩ (.slice d'.a1 d'.l1 d'.c1)).setCell ⟨w.heap.size + 1,1,none⟩ (.slice d'.a2 d'.l2 d'.c2)).setCell ⟨w.heap.size + 1,2,none⟩ (.slice sa sl sc)).setCell ⟨w.heap.size + 1,3,none⟩ (.slice t1 t2 t3)).setCell ⟨w.heap.size + 1,4,none⟩ (.slice d'.a5 d'.l5 d'.c5)).setCell ⟨w.heap.size + 1,5,none⟩ (.int .i64 c.now)).setCell ⟨w.heap.size + 1,6,none⟩ (.string ⟨#[]⟩)).setCell ⟨w.heap.size + 1,7,none⟩ (.int .i64 0))) (S':=fun _ => True) (fun k hk s => hkeep k (by rcases s with s | s;exact s.1;omega) (by rcases s with s | s;exact s.2;omega)) (fun _ _ _ => trivial)).row
     ·exact (HP9.out.keep (w':=(((((((((w11.setCell ⟨w7.heap.size,3,none⟩ (.slice t1 t2 t3)).setCell ⟨w.heap.size + 1,0,none⟩ (.slice d'.a1 d'.l1 d'.c1)).setCell ⟨w.heap.size + 1,1,none⟩ (.slice d'.a2 d'.l2 d'.c2)).setCell ⟨w.heap.size + 1,2,none⟩ (.slice sa sl sc)).setCell ⟨w.heap.size + 1,3,none⟩ (.slice t1 t2 t3)).setCell ⟨w.heap.size + 1,4,none⟩ (.slice d'.a5 d'.l5 d'.c5)).setCell ⟨w.heap.size + 1,5,none⟩ (.int .i64 c.now)).setCell ⟨w.heap.size + 1,6,none⟩ (.string ⟨#[]⟩)).setCell ⟨w.heap.size + 1,7,none⟩ (.int .i64 0))) (S':=fun _ => True) (fun k hk s => (hkeep k s.1 s.2).trans (H35.out.block k hk)) (fun _ _ _ => trivial)).row
    ·go_wp2_with (first | (at_builtin;refine wpList_append_own _ rfl _ _ 33 rfl wc.heap.size 78 i5 (.agg #[.string ⟨#[]⟩,.int .i64 0,.string ⟨#[]⟩,.bool false,.string ⟨#[]⟩]) 5 64 Tryz.underlying33 HI0.out.1 HI0.out.2.1 HI0.out.2.2.1 HI0.out.2.2.2 rfl (by decide) _ _ _ rfl (HO4.out) ⟨b,(i + 1) * 5,none⟩ (l4 - (i + 1)) (d'.c4 - (i + 1)) (vss.drop (i + 1)).flatten rfl ?c1 ?c2 ?c3 ?c4 ?c5 ?c6 ?_))
     case c1 => rw [drop_flat HVR.out.all,hvl]
     case c2 =>
      intro j u hu;rw [Addr.add_lit];exact (cell_below HB4.out hbS).trans (HC.out _ _ (drop_at HVR.out.all (by omega) hu))
     case c3 => exact (mem_take_one HVR.out.one (i + 1)).2
     case c4 => unfold maxLen;omega
     case c5 => omega
     case c6 => omega
     rintro v2 w11 hown5 hgr5 -
     have hlen5 : (wo Xd.n t c.xs).length = l4 - 1:=by rw [HW.out];simp;omega
     replace hown5 : w11.ownsRow wc.heap.size 78 5 v2 (wo Xd.n t c.xs).length (vss.take i ++ vss.drop (i + 1)).flatten:=by
      rw [hlen5,List.flatten_append]
      have e9 : l4 - 1 = i + (l4 - (i + 1)):=by omega
      rw [e9];exact hown5
     have hb5 : Below wc.heap.size w10 w11:=(Below.refl wc.heap.size w10).grown hgr5 (by omega) (fun g hg => (HO4.out.lt g hg).1);obtain ⟨t1,t2,t3,rfl⟩:=owns_slice hown5;have H35:=hidK (HB4.out.trans hb5);have HB5:=hidK (HB9.out.trans (H35.out.mono HB9.out.size));have Bo5:=upK HBO H35.out;have Br5:=upK HBR H35.out;have hsel:=Sel.erase (xs:=c.xs) (vss:=vss) (by omega) (k:=i) (by omega);rw [← HW.out] at hsel;have hrec:=(hsel.recs (HVR.out.below H35.out)).keep (w':=w11) (S':=fun k => (fun k => wr.heap.size ≤ k ∧ ¬ k = w7.heap.size) k ∨ wc.heap.size ≤ k) (fun _ _ _ _ => rfl) (fun k _ s => .inl s);obtain ⟨q1,q2,hq,hR⟩:=hrec.own hown5 (by simp) (by decide) (fun g hg => .inr (hown5.lt g hg).1);rw [List.length_map] at hq hR;simp only [Value.slice.injEq] at hq;obtain ⟨rfl,ht2,rfl⟩:=hq;rw [← ht2] at hR;have HT2:=hidK ht2;have HR5:=hidK hR;have hs5:=hb5.size;clear o0 o1 o2 o3 o4 o5;obtain ⟨o0,o1,o2,o3,o4,o5⟩:=cs6 Bo5.out;obtain ⟨r0,r1,r2,r3,r4,r5,r6,r7⟩:=cs8 Br5.out;have fo0:=froK Bo5.out 0;have fo1:=froK Bo5.out 1;have fo2:=froK Bo5.out 2;have fo3:=froK Bo5.out 3;have fo4:=froK Bo5.out 4;have fo5:=froK Bo5.out 5;have fr0:=froK Br5.out 0;have fr1:=froK Br5.out 1;have fr2:=froK Br5.out 2;have fr3:=froK Br5.out 3;have fr4:=froK Br5.out 4;have fr5:=froK Br5.out 5;have fr6:=froK Br5.out 6;have fr7:=froK Br5.out 7
     have hne : ¬ w.heap.size + 1 = w7.heap.size:=by omega
     have hne2 : ¬ w7.heap.size = w.heap.size + 1:=by omega
     have hol5:=lt_of_some Bo5.out;have hrl5:=lt_of_some Br5.out;clear hown5 hgr5 hb5 hsel hrec hR ht2 hlen5 hik hik1 hxa hxl
     go_wp2
     refine bodyPost_ret (v:=.agg #[.slice d'.a1 d'.l1 d'.c1,.slice d'.a2 d'.l2 d'.c2,.slice sa sl sc,.slice t1 t2 t3,.slice d'.a5 d'.l5 d'.c5,.int .i64 c.now,.string ⟨#[]⟩,.int .i64 0]) (by simp [results,Tryz.results6,go_sem, *]) rfl ⟨⟨d'.a1,d'.l1,d'.c1,d'.a2,d'.l2,d'.c2,sa,sl,sc,t1,t2,t3,d'.a5,d'.l5,d'.c5⟩,⟨dropX c t vs,⟨#[]⟩,0⟩,rfl,HV.out,?_,sb1 (sb1 (sb1 (sb1 (sb1 (sb1 (sb1 (sb1 (set_below (show w.heap.size ≤ w7.heap.size by omega) (HB5.out)))))))))⟩
     have hkeep : ∀ k,wr.heap.size ≤ k → ¬ k = w7.heap.size → (((((((((w11.setCell ⟨w7.heap.size,3,none⟩ (.slice t1 t2 t3)).setCell ⟨w.heap.size + 1,0,none⟩ (.slice d'.a1 d'.l1 d'.c1)).setCell ⟨w.heap.size + 1,1,none⟩ (.slice d'.a2 d'.l2 d'.c2)).setCell ⟨w.heap.size + 1,2,none⟩ (.slice sa sl sc)).setCell ⟨w.heap.size + 1,3,none⟩ (.slice t1 t2 t3)).setCell ⟨w.heap.size + 1,4,none⟩ (.slice d'.a5 d'.l5 d'.c5)).setCell ⟨w.heap.size + 1,5,none⟩ (.int .i64 c.now)).setCell ⟨w.heap.size + 1,6,none⟩ (.string ⟨#[]⟩)).setCell ⟨w.heap.size + 1,7,none⟩ (.int .i64 0)).heap[k]? = w11.heap[k]?:=fun k h1 h2 => by rw [Below.heap_setCell _ _ _ _ (show k ≠ w.heap.size + 1 by omega),Below.heap_setCell _ _ _ _ (show k ≠ w.heap.size + 1 by omega),Below.heap_setCell _ _ _ _ (show k ≠ w.heap.size + 1 by omega),Below.heap_setCell _ _ _ _ (show k ≠ w.heap.size + 1 by omega),Below.heap_setCell _ _ _ _ (show k ≠ w.heap.size + 1 by omega),Below.heap_setCell _ _ _ _ (show k ≠ w.heap.size + 1 by omega),Below.heap_setCell _ _ _ _ (show k ≠ w.heap.size + 1 by omega),Below.heap_setCell _ _ _ _ (show k ≠ w.heap.size + 1 by omega),Below.heap_setCell _ _ _ _ (show k ≠ w7.heap.size by omega)]
     refine ⟨?_,?_,?_,?_,?_⟩
     ·exact (HN9.out.keep (w':=(((((((((w11.setCell ⟨w7.heap.size,3,none⟩ (.slice t1 t2 t3)).setCell ⟨w.heap.size + 1,0,none⟩ (.slice d'.a1 d'.l1 d'.c1)).setCell ⟨w.heap.size + 1,1,none⟩ (.slice d'.a2 d'.l2 d'.c2)).setCell ⟨w.heap.size + 1,2,none⟩ (.slice sa sl sc)).setCell ⟨w.heap.size + 1,3,none⟩ (.slice t1 t2 t3)).setCell ⟨w.heap.size + 1,4,none⟩ (.slice d'.a5 d'.l5 d'.c5)).setCell ⟨w.heap.size + 1,5,none⟩ (.int .i64 c.now)).setCell ⟨w.heap.size + 1,6,none⟩ (.string ⟨#[]⟩)).setCell ⟨w.heap.size + 1,7,none⟩ (.int .i64 0))) (S':=fun _ => True) (fun k hk s => (hkeep k s.1 s.2).trans (H35.out.block k hk)) (fun _ _ _ => trivial)).row
     ·exact (HK9.out.keep (w':=(((((((((w11.setCell ⟨w7.heap.size,3,none⟩ (.slice t1 t2 t3)).setCell ⟨w.heap.size + 1,0,none⟩ (.slice d'.a1 d'.l1 d'.c1)).setCell ⟨w.heap.size + 1,1,none⟩ (.slice d'.a2 d'.l2 d'.c2)).setCell ⟨w.heap.size + 1,2,none⟩ (.slice sa sl sc)).setCell ⟨w.heap.size + 1,3,none⟩ (.slice t1 t2 t3)).setCell ⟨w.heap.size + 1,4,none⟩ (.slice d'.a5 d'.l5 d'.c5)).setCell ⟨w.heap.size + 1,5,none⟩ (.int .i64 c.now)).setCell ⟨w.heap.size + 1,6,none⟩ (.string ⟨#[]⟩)).setCell ⟨w.heap.size + 1,7,none⟩ (.int .i64 0))) (S':=fun _ => True) (fun k hk s => (hkeep k s.1 s.2).trans (H35.out.block k hk)) (fun _ _ _ => trivial)).row
     ·exact (HV9.out.keep (w':=(((((((((w11.setCell ⟨w7.heap.size,3,none⟩ (.slice t1 t2 t3)).setCell ⟨w.heap.size + 1,0,none⟩ (.slice d'.a1 d'.l1 d'.c1)).setCell ⟨w.heap.size + 1,1,none⟩ (.slice d'.a2 d'.l2 d'.c2)).setCell ⟨w.heap.size + 1,2,none⟩ (.slice sa sl sc)).setCell ⟨w.heap.size + 1,3,none⟩ (.slice t1 t2 t3)).setCell ⟨w.heap.size + 1,4,none⟩ (.slice d'.a5 d'.l5 d'.c5)).setCell ⟨w.heap.size + 1,5,none⟩ (.int .i64 c.now)).setCell ⟨w.heap.size + 1,6,none⟩ (.string ⟨#[]⟩)).setCell ⟨w.heap.size + 1,7,none⟩ (.int .i64 0))) (S':=fun _ => True) (fun k hk s => (hkeep k s.1 s.2).trans (H35.out.block k hk)) (fun _ _ _ => trivial)).row
     ·exact (HR5.out.keep (w':=(((((((((w11.setCell ⟨w7.heap.size,3,none⟩ (.slice t1 t2 t3)).setCell ⟨w.heap.size + 1,0,none⟩ (.slice d'.a1 d'.l1 d'.c1)).setCell ⟨w.heap.size + 1,1,none⟩ (.slice d'.a2 d'.l2 d'.c2)).setCell ⟨w.heap.size + 1,2,none⟩ (.slice sa sl sc)).setCell ⟨w.heap.size + 1,3,none⟩ (.slice t1 t2 t3)).setCell ⟨w.heap.size + 1,4,none⟩ (.slice d'.a5 d'.l5 d'.c5)).setCell ⟨w.heap.size + 1,5,none⟩ (.int .i64 c.now)).setCell ⟨w.heap.size + 1,6,none⟩ (.string ⟨#[]⟩)).setCell ⟨w.heap.size + 1,7,none⟩ (.int .i64 0))) (S':=fun _ => True) (fun k hk s => hkeep k (by rcases s with s | s;exact s.1;omega) (by rcases s with s | s;exact s.2;omega)) (fun _ _ _ => trivial)).row
     ·exact (HP9.out.keep (w':=(((((((((w11.setCell ⟨w7.heap.size,3,none⟩ (.slice t1 t2 t3)).setCell ⟨w.heap.size + 1,0,none⟩ (.slice d'.a1 d'.l1 d'.c1)).setCell ⟨w.heap.size + 1,1,none⟩ (.slice d'.a2 d'.l2 d'.c2)).setCell ⟨w.heap.size + 1,2,none⟩ (.slice sa sl sc)).setCell ⟨w.heap.size + 1,3,none⟩ (.slice t1 t2 t3)).setCell ⟨w.heap.size + 1,4,none⟩ (.slice d'.a5 d'.l5 d'.c5)).setCell ⟨w.heap.size + 1,5,none⟩ (.int .i64 c.now)).setCell ⟨w.heap.size + 1,6,none⟩ (.string ⟨#[]⟩)).setCell ⟨w.heap.size + 1,7,none⟩ (.int .i64 0))) (S':=fun _ => True) (fun k hk s => (hkeep k s.1 s.2).trans (H35.out.block k hk)) (fun _ _ _ => trivial)).row

end Rc
end Go.Proofs.YtkecljccapjkpaaGreatDoor

namespace Go.Proofs.YtkecljccapjkpaaGreatDoor
open Go.RowKit Rc Mk

def DropClaimClV (c : Cl) : Fact:=fun v w => ∃ d : Ad,v = .agg #[.slice d.a1 d.l1 d.c1,.slice d.a2 d.l2 d.c2,.slice d.a3 d.l3 d.c3,.slice d.a4 d.l4 d.c4,.slice d.a5 d.l5 d.c5,.int .i64 c.now] ∧ ClRow w d c.raw
theorem DropClaimClV.mono (c : Cl) : Fact.Mono (DropClaimClV c):=by
 rintro v w w' ⟨d,h1,h2⟩ hb;exact ⟨d,h1,h2.below hb⟩

set_option linter.unusedVariables false in
theorem dropClaim_walk (d : Ad) (c : Cl) (t : ByteArray) (E : Nat → Addr) (w : World) (hr : ClRow w d c.raw) (ht : t.size ≤ maxLen) (hG : Ers w E) :
  Calls Tryz.prog 3 #[.agg #[.slice d.a1 d.l1 d.c1,.slice d.a2 d.l2 d.c2,.slice d.a3 d.l3 d.c3,.slice d.a4 d.l4 d.c4,.slice d.a5 d.l5 d.c5,.int .i64 c.now],.string t] w fun e w' => e = .returned (.bool true) ∧ Below w.heap.size w w':=by
 have HR:=hidK hr;have HE:=hidK hG;have HB:=hidK (Below.refl w.heap.size w);clear hr hG
 by_cases hlongt : 1048576 < t.size
 ·go_enter Tryz.func3,Tryz.ntmps3
  go_wp2
  go_ret;exact ⟨rfl,below1 _ _⟩
 go_enter Tryz.func3,Tryz.ntmps3
 go_wp2_with fail;refine (szCluster_any d c _ (HR.out.below (HB.out.trans ((below1 _ _).mono HB.out.size)))).mono ?_;rintro e w1 ⟨r,rfl,hi,hb⟩;obtain ⟨HA0,hbx⟩:=slots1 hb;have Bk:=hidK HA0;replace HB:=upB HB hbx;clear hb hbx HA0
 rcases hi with rfl | ⟨hr0,-,hft⟩
 ·obtain ⟨k0,k1,k2,k3,k4,k5⟩:=cs6 Bk.out;have ltk_1:=lt_of_some Bk.out
  go_wp2
  go_ret;exact ⟨rfl,HB.out⟩
 have HF:=hidK hft;clear hft;obtain ⟨k0,k1,k2,k3,k4,k5⟩:=cs6 Bk.out;have ltk_1:=lt_of_some Bk.out;go_wp2_with fail;refine (toCluster_any d c _ (HR.out.below HB.out) HF.out).mono ?_;rintro e w2 ⟨d1,rfl,ho,hb⟩;clear k0 k1 k2 k3 k4 k5 ltk_1;replace Bk:=upK Bk hb;replace HB:=upB HB hb;clear hb;have HO:=hidK ho.row;clear ho;go_wp2_with fail;refine (sdropX_any d1 c t _ HO.out).mono ?_;rintro e w3 ⟨dg0,o,rfl,hI,ho,hb⟩;have R0:=hidK ho;have HIS:=hidK hI;clear ho hI HO;replace Bk:=upK Bk hb;replace HB:=upB HB hb;clear hb;have HY:=hidK (Bw.refl w3);have HQ3:=hidK (show w.heap.size < w3.heap.size from lt_of_some Bk.out);obtain ⟨k0,k1,k2,k3,k4,k5⟩:=cs6 Bk.out;have ltk_3:=lt_of_some Bk.out;go_wp2_with fail;refine (toCluster_any d c _ (HR.out.below (HB.out.trans ((below1 _ _).mono HB.out.size))) HF.out).mono ?_;rintro e w4 ⟨d2,rfl,ho,hb⟩;clear k0 k1 k2 k3 k4 k5 ltk_3;obtain ⟨HA0,hbx⟩:=slots1 hb;replace Bk:=upK Bk hbx;have Ba:=hidK HA0;replace HY:=hidK (HY.out.below hbx);replace HB:=upB HB hbx;clear hb hbx HA0
 have HQ4 : Hid (w3.heap.size + 1 ≤ w4.heap.size):=by have:=HY.out.le;have:=lt_of_some Ba.out;show w3.heap.size + 1 ≤ _;omega
 have HO2:=hidK (ho.into (S':=fun k => w3.heap.size + 1 ≤ k ∧ k < w4.heap.size) (fun k hk s => ⟨(show w3.heap.size + 1 ≤ k by simpa using s),hk⟩));clear ho;obtain ⟨k0,k1,k2,k3,k4,k5⟩:=cs6 Bk.out;have ltk_4:=lt_of_some Bk.out;obtain ⟨a0,a1,a2,a3,a4,a5,a6,a7⟩:=cs8 Ba.out;have lta_4:=lt_of_some Ba.out;go_wp2_with fail;have HOX:=hidK (HO2.out.below (below1 w4 (.cells #[.slice d2.a1 d2.l1 d2.c1,.slice d2.a2 d2.l2 d2.c2,.slice d2.a3 d2.l3 d2.c3,.slice d2.a4 d2.l4 d2.c4,.slice d2.a5 d2.l5 d2.c5,.int .i64 c.now] 36)));refine (idropX_any d2 c t E _ HOX.out.row (HE.out.below (HB.out.trans ((below1 _ _).mono HB.out.size))) (by omega)).mono ?_;rintro e w5 ⟨dg1,o1,rfl,hI,ho,hb⟩;clear HOX;obtain rfl:=HIS.out.same hI;clear hI;clear k0 k1 k2 k3 k4 k5 ltk_4 a0 a1 a2 a3 a4 a5 a6 a7 lta_4;obtain ⟨HA0,hbx⟩:=slots1 hb;replace Bk:=upK Bk hbx;replace Ba:=upK Ba hbx;have Bx:=hidK HA0;replace HY:=hidK (HY.out.below hbx);replace HO2:=hidK (HO2.out.below hbx);replace HB:=upB HB hbx;clear hb hbx HA0;have HQ5 : Hid (w4.heap.size < w5.heap.size):=lt_of_some Bx.out;have HO1:=hidK (ho.into (S':=fun k => w4.heap.size + 1 ≤ k ∧ k < w5.heap.size) (fun k hk s => ⟨(show w4.heap.size + 1 ≤ k by simpa using s),hk⟩));clear ho;have hlz : mkCn 1 o.c.raw ≤ 1152921504606846976:=HIS.out.marks HF.out;have HH:=hidK (fun (W : World) (hr : ClRow W dg1 (mkC 1 o.c.raw)) => heldCout_any dg1 o 1 W hr (by decide) hlz);obtain ⟨M,hM⟩ : ∃ M : Int,M = mkCn 1 o.c.raw:=⟨_,rfl⟩
 have hM0 : (0 : Int) < M:=by rw [hM];have:=mkCn_ge 1 o.c.raw;omega
 rw [← hM] at HH;have HMM:=hidK hM;clear hM;obtain ⟨k0,k1,k2,k3,k4,k5⟩:=cs6 Bk.out;have ltk_5:=lt_of_some Bk.out;obtain ⟨a0,a1,a2,a3,a4,a5,a6,a7⟩:=cs8 Ba.out;have lta_5:=lt_of_some Ba.out;obtain ⟨x0,x1,x2,x3,x4,x5⟩:=cs6 Bx.out;have ltx_5:=lt_of_some Bx.out;go_wp2_with fail;refine (eqCout_any dg1 dg0 o _ (HO1.out.row.below (below1 _ _)) (R0.out.below (HY.out.below (below1 _ _)).out)).mono ?_;rintro e w6 ⟨rfl,hb⟩;clear k0 k1 k2 k3 k4 k5 ltk_5 a0 a1 a2 a3 a4 a5 a6 a7 lta_5 x0 x1 x2 x3 x4 x5 ltx_5;obtain ⟨HA0,hbx⟩:=slots1 hb;replace Bk:=upK Bk hbx;replace Ba:=upK Ba hbx;replace Bx:=upK Bx hbx;have Bg:=hidK HA0;replace HY:=hidK (HY.out.below hbx);replace HO2:=hidK (HO2.out.below hbx);replace HO1:=hidK (HO1.out.below hbx);replace HB:=upB HB hbx;clear hb hbx HA0;obtain ⟨W,hW0⟩ : ∃ W,W = w6:=⟨_,rfl⟩;rw [← hW0] at HB HY HO2 HO1 Bk Ba Bx Bg;go_wp2_with fail;rw [← hW0];clear hW0;rename_i K0 hK0;refine wp_region_grow (back:=none) (by kernel_rfl) (List.append_nil _).symm (by kernel_rfl) ?_;refine' Grow.stepC _ rfl ?_ ?_;rotate_left 1
 ·refine Obl.plain rfl ?_;intro ac wg K hsz hW hf hK;clear hsz;have e7:=hf 7 (by decide)
  simp [slotFact,List.lookup] at e7
  clear hf;obtain ⟨k0,k1,k2,k3,k4,k5⟩:=cs6 ((hW.block _ (lt_of_some Bx.out)).trans Bx.out);go_simp;refine hK _ _ (Below.refl _ _) ?_;with_reducible rfl
 refine' Grow.stepC _ rfl ?_ ?_;rotate_left 1
 ·refine Obl.plain rfl ?_;intro ac wg K hsz hW hf hK;clear hsz;have e2:=hf 2 (by decide)
  simp [slotFact,List.lookup] at e2
  clear hf;obtain ⟨k0,k1,k2,k3,k4,k5⟩:=cs6 ((hW.block _ (lt_of_some Bk.out)).trans Bk.out);go_simp;refine hK _ _ (Below.refl _ _) ?_;with_reducible rfl
 refine Grow.step (DropClaimClV c) rfl (DropClaimClV.mono c) ?_ ?_
 ·refine Obl.plain rfl ?_;intro ac wg K hsz hW hf hK;clear hsz;have e35:=hf 35 (by decide)
  simp [slotFact,List.lookup] at e35
  clear hf;go_simp;refine (toCluster_any d c _ (HR.out.below (HB.out.trans (hW.mono HB.out.size))) HF.out).mono ?_;rintro e w6 ⟨d3,rfl,ho,hb6⟩;exact hK _ _ hb6 ⟨d3,rfl,ho.row⟩
 refine' Grow.stepC (.bool true) rfl ?_ ?_
 ·refine Obl.plain rfl ?_;intro ac wg K hsz hW hf hK;clear hsz;have e34:=hf 34 (by decide)
  simp [slotFact,List.lookup] at e34
  have e36:=hf 36 (by decide)
  simp [slotFact,List.lookup] at e36
  obtain ⟨d3,e36,hrow⟩:=e36;clear hf;go_simp;refine (eqCluster_any d2 d3 c _ (HO2.out.row.below hW) hrow).mono ?_;rintro e w6 ⟨rfl,hb6⟩;exact hK _ _ hb6 rfl
 refine' Grow.stepC _ rfl ?_ ?_;rotate_left 1
 ·refine Obl.plain rfl ?_;intro ac wg K hsz hW hf hK;clear hsz;have e37:=hf 37 (by decide)
  simp [slotFact,List.lookup] at e37
  clear hf;go_simp;refine hK _ _ (Below.refl _ _) ?_;with_reducible rfl
 refine Grow.done ?_;intro q wz hW hf;simp only [List.forall_mem_cons] at hf;obtain ⟨h38,-⟩:=hf;have hb:=hW;refine hK0 _ _ ?_;simp only [putsAll,List.foldr,Act.put,List.setIfInBounds_toArray,List.set_cons_zero,List.set_cons_succ,h38];clear hK0;replace Bk:=upK Bk hb;replace Ba:=upK Ba hb;replace Bx:=upK Bx hb;replace Bg:=upK Bg hb;replace HY:=hidK (HY.out.below hb);replace HO2:=hidK (HO2.out.below hb);replace HO1:=hidK (HO1.out.below hb);replace HB:=upB HB hb;clear hb;clear hW;obtain ⟨rk,hrk⟩ : ∃ r : Int,r = mkCn 1 c.raw:=⟨_,rfl⟩
 have hrk0 : decide (rk < 0) = false:=by rw [decide_eq_false_iff_not,hrk];have:=mkCn_ge 1 c.raw;omega
 obtain ⟨k0,k1,k2,k3,k4,k5⟩:=cs6 Bk.out;have ltk_7:=lt_of_some Bk.out;obtain ⟨a0,a1,a2,a3,a4,a5,a6,a7⟩:=cs8 Ba.out;have lta_7:=lt_of_some Ba.out;obtain ⟨x0,x1,x2,x3,x4,x5⟩:=cs6 Bx.out;have ltx_7:=lt_of_some Bx.out;obtain ⟨g0,g1,g2,g3,g4,g5,g6,g7⟩:=cs8 Bg.out;have ltg_7:=lt_of_some Bg.out;go_wp2_with fail;refine (markCluster_any d2 c 1 _ wz HO2.out (fun k s => by have s2:=s.2;have q9:=HY.out.le;have q8:=lt_of_some Bx.out;have q3:=HQ3.out;have q4:=HQ4.out;have q5:=HQ5.out;omega) (by decide) HF.out.marks).mono ?_;rintro e w8 ⟨rfl,ho,hk⟩;clear k0 k1 k2 k3 k4 k5 ltk_7 a0 a1 a2 a3 a4 a5 a6 a7 lta_7 x0 x1 x2 x3 x4 x5 ltx_7 g0 g1 g2 g3 g4 g5 g6 g7 ltg_7;have Ck:=hidK ((hk.block (w.heap.size) (lt_of_some Bk.out) (fun s => by have s1:=s.1;have s2:=s.2;have q3:=HQ3.out;have q4:=HQ4.out;have q5:=HQ5.out;omega)).trans Bk.out);have Ca:=hidK ((hk.block (w3.heap.size) (lt_of_some Ba.out) (fun s => by have s1:=s.1;have s2:=s.2;have q3:=HQ3.out;have q4:=HQ4.out;have q5:=HQ5.out;omega)).trans Ba.out);have Cx:=hidK ((hk.block (w4.heap.size) (lt_of_some Bx.out) (fun s => by have s1:=s.1;have s2:=s.2;have q3:=HQ3.out;have q4:=HQ4.out;have q5:=HQ5.out;omega)).trans Bx.out);have Cg:=hidK ((hk.block (w5.heap.size) (lt_of_some Bg.out) (fun s => by have s1:=s.1;have s2:=s.2;have q3:=HQ3.out;have q4:=HQ4.out;have q5:=HQ5.out;omega)).trans Bg.out);have HB8:=hidK (HB.out.trans (hk.low (X:=w.heap.size) HB.out.size (fun k s => by have s1:=s.1;have q3:=HQ3.out;have q4:=HQ4.out;have q5:=HQ5.out;omega)));have CHY:=hidK (HY.out.kept hk (fun k s => by have s1:=s.1;have q3:=HQ3.out;have q4:=HQ4.out;have q5:=HQ5.out;omega));have CHO1:=hidK (HO1.out.kept hk (fun k s s' => by have s1:=s.1;have s2:=s.2;have t1:=s'.1;have t2:=s'.2;have q3:=HQ3.out;have q4:=HQ4.out;have q5:=HQ5.out;omega))
 clear HB HY hk HO2 HO1 Bk Ba Bx Bg;have HB:=HB8;clear HB8;have HY:=CHY;clear CHY;have HO1:=CHO1;clear CHO1;have Bk:=Ck;clear Ck;have Ba:=Ca;clear Ca;have Bx:=Cx;clear Cx;have Bg:=Cg;clear Cg;clear ho;rw [← hrk];clear hrk;obtain ⟨k0,k1,k2,k3,k4,k5⟩:=cs6 Bk.out;have ltk_8:=lt_of_some Bk.out;obtain ⟨a0,a1,a2,a3,a4,a5,a6,a7⟩:=cs8 Ba.out;have lta_8:=lt_of_some Ba.out;obtain ⟨x0,x1,x2,x3,x4,x5⟩:=cs6 Bx.out;have ltx_8:=lt_of_some Bx.out;obtain ⟨g0,g1,g2,g3,g4,g5,g6,g7⟩:=cs8 Bg.out;have ltg_8:=lt_of_some Bg.out;go_wp2_with fail;refine (eqCout_any dg1 dg0 o _ (HO1.out.row) (R0.out.below HY.out.out)).mono ?_;rintro e w9 ⟨rfl,hb⟩;clear k0 k1 k2 k3 k4 k5 ltk_8 a0 a1 a2 a3 a4 a5 a6 a7 lta_8 x0 x1 x2 x3 x4 x5 ltx_8 g0 g1 g2 g3 g4 g5 g6 g7 ltg_8;replace Bk:=upK Bk hb;replace Ba:=upK Ba hb;replace Bx:=upK Bx hb;replace Bg:=upK Bg hb;replace HY:=hidK (HY.out.below hb);replace HO1:=hidK (HO1.out.below hb);replace HB:=upB HB hb;clear hb;clear hrk0;obtain ⟨k0,k1,k2,k3,k4,k5⟩:=cs6 Bk.out;have ltk_9:=lt_of_some Bk.out;obtain ⟨a0,a1,a2,a3,a4,a5,a6,a7⟩:=cs8 Ba.out;have lta_9:=lt_of_some Ba.out;obtain ⟨x0,x1,x2,x3,x4,x5⟩:=cs6 Bx.out;have ltx_9:=lt_of_some Bx.out;obtain ⟨g0,g1,g2,g3,g4,g5,g6,g7⟩:=cs8 Bg.out;have ltg_9:=lt_of_some Bg.out;go_wp2_with fail;refine (markCout_any dg1 o 1 _ _ HO1.out (fun k s => by have s2:=s.2;have q9:=HB.out.size;have q8:=HY.out.le;have q7:=lt_of_some Bg.out;have q3:=HQ3.out;have q4:=HQ4.out;have q5:=HQ5.out; omega) (by decide) hlz).mono ?_;rintro e w10 ⟨rfl,ho,hk⟩;clear k0 k1 k2 k3 k4 k5 ltk_9 a0 a1 a2 a3 a4 a5 a6 a7 lta_9 x0 x1 x2 x3 x4 x5 ltx_9 g0 g1 g2 g3 g4 g5 g6 g7 ltg_9;have Ck:=hidK ((hk.block (w.heap.size) (lt_of_some Bk.out) (fun s => by have s1:=s.1;have s2:=s.2;have q3:=HQ3.out;have q4:=HQ4.out;have q5:=HQ5.out;omega)).trans Bk.out)
 have Ca:=hidK ((hk.block (w3.heap.size) (lt_of_some Ba.out) (fun s => by have s1:=s.1;have s2:=s.2;have q3:=HQ3.out;have q4:=HQ4.out;have q5:=HQ5.out;omega)).trans Ba.out);have Cx:=hidK ((hk.block (w4.heap.size) (lt_of_some Bx.out) (fun s => by have s1:=s.1;have s2:=s.2;have q3:=HQ3.out;have q4:=HQ4.out;have q5:=HQ5.out;omega)).trans Bx.out);have Cg:=hidK ((hk.block (w5.heap.size) (lt_of_some Bg.out) (fun s => by have s1:=s.1;have s2:=s.2;have q3:=HQ3.out;have q4:=HQ4.out;have q5:=HQ5.out;omega)).trans Bg.out);have HB10:=hidK (HB.out.trans (hk.low (X:=w.heap.size) HB.out.size (fun k s => by have s1:=s.1;have q3:=HQ3.out;have q4:=HQ4.out;have q5:=HQ5.out;omega)));have CHY:=hidK (HY.out.kept hk (fun k s => by have s1:=s.1;have q3:=HQ3.out;have q4:=HQ4.out;have q5:=HQ5.out;omega));clear HB HY hk HO1 Bk Ba Bx Bg;have HB:=HB10;clear HB10;have HY:=CHY;clear CHY;have Bk:=Ck;clear Ck;have Ba:=Ca;clear Ca;have Bx:=Cx;clear Cx;have Bg:=Cg;clear Cg;have HM1:=hidK ho;clear ho;rw [← HMM.out];obtain ⟨k0,k1,k2,k3,k4,k5⟩:=cs6 Bk.out;have ltk_10:=lt_of_some Bk.out;obtain ⟨a0,a1,a2,a3,a4,a5,a6,a7⟩:=cs8 Ba.out;have lta_10:=lt_of_some Ba.out;obtain ⟨x0,x1,x2,x3,x4,x5⟩:=cs6 Bx.out;have ltx_10:=lt_of_some Bx.out;obtain ⟨g0,g1,g2,g3,g4,g5,g6,g7⟩:=cs8 Bg.out;have ltg_10:=lt_of_some Bg.out;go_wp2_with fail;refine (HH.out _ HM1.out.row).mono ?_;rintro e w11 ⟨rfl,hb⟩;clear k0 k1 k2 k3 k4 k5 ltk_10 a0 a1 a2 a3 a4 a5 a6 a7 lta_10 x0 x1 x2 x3 x4 x5 ltx_10 g0 g1 g2 g3 g4 g5 g6 g7 ltg_10;replace Bk:=upK Bk hb;replace Ba:=upK Ba hb;replace Bx:=upK Bx hb;replace Bg:=upK Bg hb;replace HY:=hidK (HY.out.below hb);replace HM1:=hidK (HM1.out.below hb);replace HB:=upB HB hb;clear hb;obtain ⟨k0,k1,k2,k3,k4,k5⟩:=cs6 Bk.out;have ltk_11:=lt_of_some Bk.out;go_wp2_with fail
 refine (toCluster_any d c _ (HR.out.below HB.out) HF.out).mono ?_;rintro e w12 ⟨d4,rfl,ho,hb⟩;clear k0 k1 k2 k3 k4 k5 ltk_11;replace Bk:=upK Bk hb;replace Ba:=upK Ba hb;replace Bx:=upK Bx hb;replace Bg:=upK Bg hb;replace HY:=hidK (HY.out.below hb);replace HM1:=hidK (HM1.out.below hb);replace HB:=upB HB hb;clear hb;have HO:=hidK ho.row;clear ho;go_wp2_with fail;refine (idropX_any d4 c t E _ HO.out (HE.out.below HB.out) (by omega)).mono ?_;rintro e w13 ⟨dg2,o2,rfl,hI,ho,hb⟩;obtain rfl:=HIS.out.same hI;clear hI HO;have HR2:=hidK ho.row;clear ho;replace Bk:=upK Bk hb;replace Ba:=upK Ba hb;replace Bx:=upK Bx hb;replace Bg:=upK Bg hb;replace HY:=hidK (HY.out.below hb);replace HM1:=hidK (HM1.out.below hb);replace HB:=upB HB hb;clear hb;obtain ⟨k0,k1,k2,k3,k4,k5⟩:=cs6 Bk.out;have ltk_13:=lt_of_some Bk.out;obtain ⟨a0,a1,a2,a3,a4,a5,a6,a7⟩:=cs8 Ba.out;have lta_13:=lt_of_some Ba.out;obtain ⟨x0,x1,x2,x3,x4,x5⟩:=cs6 Bx.out;have ltx_13:=lt_of_some Bx.out;obtain ⟨g0,g1,g2,g3,g4,g5,g6,g7⟩:=cs8 Bg.out;have ltg_13:=lt_of_some Bg.out;go_wp2_with fail;refine (eqCout_any dg2 dg0 o _ (HR2.out.below (below1 _ _)) (R0.out.below (HY.out.below (below1 _ _)).out)).mono ?_;rintro e w14 ⟨rfl,hb⟩;clear k0 k1 k2 k3 k4 k5 ltk_13 a0 a1 a2 a3 a4 a5 a6 a7 lta_13 x0 x1 x2 x3 x4 x5 ltx_13 g0 g1 g2 g3 g4 g5 g6 g7 ltg_13;obtain ⟨HA0,hbx⟩:=slots1 hb;replace Bk:=upK Bk hbx;replace Ba:=upK Ba hbx;replace Bx:=upK Bx hbx;replace Bg:=upK Bg hbx;have Bh:=hidK HA0;replace HY:=hidK (HY.out.below hbx);replace HM1:=hidK (HM1.out.below hbx);replace HB:=upB HB hbx;clear hb hbx HA0;obtain ⟨k0,k1,k2,k3,k4,k5⟩:=cs6 Bk.out;have ltk_14:=lt_of_some Bk.out;obtain ⟨g0,g1,g2,g3,g4,g5,g6,g7⟩:=cs8 Bg.out;have ltg_14:=lt_of_some Bg.out;go_wp2_with fail;refine (HH.out _ HM1.out.row).mono ?_;rintro e w15 ⟨rfl,hb⟩
 clear k0 k1 k2 k3 k4 k5 ltk_14 g0 g1 g2 g3 g4 g5 g6 g7 ltg_14;replace Bk:=upK Bk hb;replace Ba:=upK Ba hb;replace Bx:=upK Bx hb;replace Bg:=upK Bg hb;replace Bh:=upK Bh hb;replace HY:=hidK (HY.out.below hb);replace HM1:=hidK (HM1.out.below hb);replace HB:=upB HB hb;clear hb;go_wp2_with fail;go_ret;exact ⟨rfl,HB.out⟩

set_option linter.unusedVariables false in
theorem fnExactDropClaim_walk (a1 : Option Addr) (l1 y1 : Nat) (ns : List Nd) (a2 : Option Addr) (l2 y2 : Nat) (ks : List Kd) (a3 : Option Addr) (l3 y3 : Nat) (vs : List Vd) (a4 : Option Addr) (l4 y4 : Nat) (xs : List Xd) (a5 : Option Addr) (l5 y5 : Nat) (ps : List Pd) (now : Int) (t : ByteArray) (w : World)
  (h1 : RRow w a1 l1 y1 7 (ns.map ndF)) (h2 : RRow w a2 l2 y2 4 (ks.map kdF)) (h3 : RRow w a3 l3 y3 8 (vs.map vdF)) (h4 : RRow w a4 l4 y4 5 (xs.map xdF)) (h5 : RRow w a5 l5 y5 6 (ps.map pdF)) (_ : (Lit.int .i64 now).wf = true) (ht : t.size ≤ maxLen) (hG : ∃ E,Ers w E) :
  Calls Tryz.prog 3 #[.agg #[.slice a1 l1 y1,.slice a2 l2 y2,.slice a3 l3 y3,.slice a4 l4 y4,.slice a5 l5 y5,.int .i64 now],.string t] w fun e w' => e = .returned (.bool true) ∧ Below w.heap.size w w' :=
 by obtain ⟨E,hG⟩:=hG;exact dropClaim_walk ⟨a1,l1,y1,a2,l2,y2,a3,l3,y3,a4,l4,y4,a5,l5,y5⟩ ⟨ns,ks,vs,xs,ps,now⟩ t E w ⟨h1,h2,h3,h4,h5⟩ ht hG

end Go.Proofs.YtkecljccapjkpaaGreatDoor

namespace Go.Proofs.YtkecljccapjkpaaGreatDoor
open Go.RowKit
namespace Rc

theorem wordStar : "*" ++ "errors.errorString" = "*errors.errorString":=by decide
theorem wordRow (u : TypeId) (h : Tryz.prog.typeName? 3 u = some "*errors.errorString") : u = 190 :=
 typeName_ptr_named (nm:= "errors.errorString") (by rw [wordStar];kernel_rfl) (by kernel_rfl) (by decide) u (by rw [wordStar];exact h)

theorem laid_words {P : Program} {W : World} {nm : String} {ti tp te ts : TypeId} {ms : Array (String × TypeId)} {f : Field} (hi : P.underlying ti = some (.interface ms)) (hrow : ∀ u,P.typeName? 3 u = some nm → u = tp)
  (hp : P.underlying tp = some (.pointer te)) (he : P.underlying te = some (.struct #[f])) (hft : f.type = ts) (hfo : f.offset = 0) (hs : P.underlying ts = some .string) (hc : P.cellsOf te = 1) (hcs : P.cellsOf ts = 1) :
  ∀ (l : List (String × List UInt8)) (ps : List MemPlace),(∀ x ∈ l,∃ g,P.globalNamed x.1 = some g ∧ (P.globals[g]?).map (·.type) = some ti) →
   DataW.LaidVars P W (l.map fun x => (x.1,.iface nm (.ptr (.agg [.lit (.string x.2)])))) ps → ps.Nodup →
   (∀ b off,MemPlace.cell b off ∈ ps → (∃ c t,W.heap[b]? = some (.cells c t (0,0))) ∧ ∀ u v,W.cell? ⟨b,off,none⟩ = some (.iface u v) → Value.okWide P W .any 0 u v) →
   ∃ E : Nat → Addr,(∀ (i : Nat) x,l[i]? = some x → W.var? P x.1 = some #[.iface tp (.pointer (some (E i)))] ∧ MemPlace.cell (E i).block (E i).off ∈ ps) ∧ ∀ i j,i < l.length → j < l.length → E i = E j → i = j
 | [],ps,_,_,_,_ => ⟨fun _ => ⟨0,0,none⟩,fun i x h => by simp at h,fun i j h => by simp at h⟩
 | x :: l,ps,hT,hv,hnd,hrows => by
  obtain ⟨g,t,cs,fuel,p,q,hg,ht,hvar,hd,hq,rfl⟩:=hv;obtain ⟨g',hg',ht'⟩:=hT x (by simp);obtain rfl:=Option.some.inj (hg.symm.trans hg');obtain rfl:=Option.some.inj (ht.symm.trans ht');have hsub : ∀ {y},y ∈ q → y ∈ MemPlace.row ⟨g,0,none⟩ cs.size ++ p ++ q:=fun h => List.mem_append_right _ h;obtain ⟨E,hE1,hE2⟩:=laid_words hi hrow hp he hft hfo hs hc hcs l q (fun y hy => hT y (by simp [hy])) hq (List.Nodup.sublist (List.sublist_append_right _ _) hnd) (fun b off hm => hrows b off (hsub hm));obtain ⟨l0⟩:=cs
  have ok0 : ∀ u v,l0 = [.iface u v] → Value.okWide P W .any 0 u v:=fun u v e => by
   subst e;exact (hrows g 0 (by simp [MemPlace.row])).2 u v (by simpa using World.var?_cell hg hvar 0)
  obtain ⟨a0,s0,rfl,hc0,hs0,hz0,rfl⟩:=errorString_of_trod hi hrow hp he hft hfo hs hc hcs hd ok0
  have ha : MemPlace.cell a0.block a0.off ∈ MemPlace.row a0 1:=by simp [MemPlace.row]
  have hdis : ∀ i,i < l.length → ¬ E i = a0:=fun i hi' e => by
   have h1:=(hE1 i _ (List.getElem?_eq_getElem hi')).2;rw [e] at h1;have h2:=(List.nodup_append.1 hnd).2.2 _ (List.mem_append_right _ ha) _ h1;exact h2 rfl
  refine ⟨fun i => match i with | 0 => a0 | i + 1 => E i,fun i y hy => ?_,fun i j hi' hj' e => ?_⟩
  ·cases i with
   | zero =>
    obtain rfl : x = y:=by simpa using hy
    exact ⟨hvar,List.mem_append_left _ (List.mem_append_right _ ha)⟩
   | succ i =>
    obtain ⟨h1,h2⟩:=hE1 i y (by simpa using hy);exact ⟨h1,hsub h2⟩
  ·cases i with
   | zero => cases j with
    | zero => rfl
    | succ j => exact absurd e.symm (hdis j (by simpa using hj'))
   | succ i => cases j with
    | zero => exact absurd e (hdis i (by simpa using hi'))
    | succ j => rw [hE2 i j (by simpa using hi') (by simpa using hj') e]

theorem vars_length {H : Type} {enc : TypeId × Value → H} {P : Program} {w : World} {sp : Nat → Bool} : ∀ (ns : List String) (gs : List (DataW H)) (ps : List MemPlace),DataW.TrodVars enc P w sp ns gs ps → gs.length = ns.length
 | [],[],_,_ => rfl
 | [],_ :: _,_,h => h.elim
 | _ :: _,[],_,h => h.elim
 | _ :: ns,_ :: gs,_,h => by
  obtain ⟨_,_,_,_,_,q,_,_,_,_,h1,_⟩:=h
  simp [vars_length ns gs q h1]
theorem len10 {α : Type} : ∀ {l : List α},l.length = 10 → ∃ a b c d e f g h i j,l = [a,b,c,d,e,f,g,h,i,j]
 | [a,b,c,d,e,f,g,h,i,j],_ => ⟨a,b,c,d,e,f,g,h,i,j,rfl⟩

end Rc
end Go.Proofs.YtkecljccapjkpaaGreatDoor

namespace Go.Proofs.YtkecljccapjkpaaGreatDoor
open Go.RowKit Go.ChangeShapes Go.WideShapes Go.Deep

theorem list6 {α : Type} {l : List α} (h : l.length = 6) : ∃ x0 x1 x2 x3 x4 x5,l = [x0,x1,x2,x3,x4,x5]:=by
 match l,h with
 | [x0,x1,x2,x3,x4,x5],_ => exact ⟨_,_,_,_,_,_,rfl⟩
section
variable {H : Type} {enc : TypeId × Value → H} {P : Program} {w : World} {base : Nat} {spare : Nat → Bool} {held : Bool}

theorem open_aggN {r : Reach} {b0 : Nat} {t : TypeId} {fs : Array Field} {v : Value} {d : DataW H} {p : List MemPlace} (hs : P.underlying t = some (.struct fs)) (hone : oneCellFields P fs = true) (hC : P.cellsOf t = fs.size)
  (hv : Value.okWide P w r b0 t v) (h : DataW.Trod enc P w base spare held t v d p) :
  ∃ (cs : List Value) (n : Nat),v = .agg cs.toArray ∧ cs.length = fs.size ∧ ∀ (i : Nat) (f : Field),fs[i]? = some f → ∃ c y,cs[i]? = some c ∧ DataW.trod enc P w base spare held n f.type [c] = some y:=by
 obtain ⟨cs,rfl,hsz⟩:=okWide_struct hs hv;obtain ⟨fuel,hf⟩:=h;obtain ⟨xs,n,_,hx,hl,hlen,hf'⟩:=DataW.trod_struct hs hf;refine ⟨cs.toList,n,rfl,by rw [Array.length_toList];exact hsz.trans hC,fun i f hi => ?_⟩;obtain ⟨o,k⟩:=hone_of hone i f hi;have hlt : i < fs.size:=(Array.getElem?_eq_some_iff.1 hi).1
 have hlc : i < cs.toList.length:=by rw [Array.length_toList,hsz,hC];exact hlt
 have g:=hf' i f hi;rw [o,k] at g
 have e : ((Value.agg cs).cells.toList.drop i).take 1 = [cs.toList[i]'hlc]:=by
  show (cs.toList.drop i).take 1 = _
  rw [List.drop_eq_getElem_cons hlc]
  rfl
 rw [e] at g;exact ⟨_,xs[i]'(by omega),List.getElem?_eq_getElem hlc,by rw [g,List.getElem?_eq_getElem]⟩

theorem row_of_trod {t e : TypeId} {n : Nat} {c : Value} {y : DataW H × List MemPlace} (ht : P.underlying t = some (.slice e)) (he : P.underlying e = some .string) (hc : P.cellsOf e = 1)
  (h : DataW.trod enc P w base spare held n t [c] = some y) : ∃ a len cap zs,c = .slice a len cap ∧ TxRow w a len cap zs:=by
 rcases open_strs ht he hc h with ⟨hcs,_⟩ | ⟨a,len,cap,m,Sx,hcs,hb,hl,hm,hmm,_,hx⟩
 ·exact ⟨none,0,0,[],by simpa using hcs,rfl,Nat.le_refl _,by omega,fun j x hx => by simp at hx,Or.inl rfl⟩
 ·have hlm : len ≤ m:=by rw [hmm];split <;> omega
  have hm' : cap ≤ 9223372036854775807:=by unfold maxLen at hm;omega
  refine ⟨some a,len,cap,(List.range len).map Sx,by simpa using hcs,by simp,hl,hm',fun j x hj => ?_,?_⟩
  ·rw [List.getElem?_map] at hj
   by_cases hjl : j < len
   ·rw [List.getElem?_range hjl] at hj;obtain rfl:=Option.some.inj hj;have:=(hx j (by omega)).2;unfold maxLen at this
    omega
   ·rw [List.getElem?_eq_none (by simp;omega)] at hj
    cases hj
  ·by_cases h0 : len = 0
   ·subst h0;exact Or.inl rfl
   right
   obtain ⟨b,o,spot⟩:=a;have h0':=(hx 0 (by omega)).1
   have hspot : spot = none:=by simpa [Addr.add] using World.cell?_spot h0'
   subst hspot;refine ⟨b,o,rfl,?_,fun j x hj => ?_⟩
   ·rw [Addr.add_lit] at h0'
    rcases Nat.lt_or_ge b w.heap.size with h1 | h1
    ·exact h1
    ·simp [World.cell?,Array.getElem?_eq_none h1] at h0'
   ·rw [List.getElem?_map] at hj
    by_cases hjl : j < len
    ·rw [List.getElem?_range hjl] at hj;obtain rfl:=Option.some.inj hj;have:=(hx j (by omega)).1;rw [Addr.add_lit] at this;exact this
    ·rw [List.getElem?_eq_none (by simp;omega)] at hj
     cases hj
end

section
variable {H : Type} {enc : TypeId × Value → H} {w : World} {base : Nat} {spare : Nat → Bool} {held : Bool}

theorem open_aggC {P : Program} {n : Nat} {t : TypeId} {fs : Array Field} {cs : List Value} {x : DataW H × List MemPlace} (hs : P.underlying t = some (.struct fs)) (hone : oneCellFields P fs = true) (hC : P.cellsOf t = fs.size)
  (h : DataW.trod enc P w base spare held n t cs = some x) :
  ∃ (n : Nat),cs.length = fs.size ∧ ∀ (i : Nat) (f : Field),fs[i]? = some f → ∃ c y,cs[i]? = some c ∧ DataW.trod enc P w base spare held n f.type [c] = some y:=by
 obtain ⟨xs,n,_,hx,hl,hlen,hf'⟩:=DataW.trod_struct hs h;refine ⟨n,hl.trans hC,fun i f hi => ?_⟩;obtain ⟨o,k⟩:=hone_of hone i f hi;have hlt : i < fs.size:=(Array.getElem?_eq_some_iff.1 hi).1
 have hlc : i < cs.length:=by rw [hl,hC];exact hlt
 have g:=hf' i f hi;rw [o,k] at g
 have e : (cs.drop i).take 1 = [cs[i]'hlc]:=by
  rw [List.drop_eq_getElem_cons hlc]
  rfl
 rw [e] at g;exact ⟨_,xs[i]'(by omega),List.getElem?_eq_getElem hlc,by rw [g,List.getElem?_eq_getElem]⟩

end

end Go.Proofs.YtkecljccapjkpaaGreatDoor

namespace Go.Proofs.YtkecljccapjkpaaGreatDoor
open Go.RowKit Go.ChangeShapes Go.WideShapes Go.Deep
namespace Rc

section
variable {H : Type} {enc : TypeId × Value → H} {w : World} {base : Nat} {spare : Nat → Bool} {held : Bool}

theorem nd_of_trod {b o n : Nat} {cs : List Value} {x : DataW H × List MemPlace} (hc : ∀ i,i < 7 → w.cell? ⟨b,o + i,none⟩ = cs[i]?) (h : DataW.trod enc Tryz.prog w base spare held n 96 cs = some x) : ∃ v : Nd,RAt w b o (ndF v):=by
 obtain ⟨m,hl,hf⟩:=open_aggC Tryz.underlying96 (by kernel_rfl) (by kernel_rfl) h;obtain ⟨c0,y0,e0,t0⟩:=hf 0 _ rfl;obtain ⟨b0,q0,-,s0⟩:=DataW.trod_string Tryz.underlying9 t0
 obtain rfl : c0 = .string b0:=by simpa using q0
 obtain ⟨c1,y1,e1,t1⟩:=hf 1 _ rfl;obtain ⟨b1,q1,-,s1⟩:=DataW.trod_string Tryz.underlying9 t1
 obtain rfl : c1 = .string b1:=by simpa using q1
 obtain ⟨c2,y2,e2,t2⟩:=hf 2 _ rfl;obtain ⟨b2,q2,-,s2⟩:=DataW.trod_int Tryz.underlying2 t2
 obtain rfl : c2 = .int .i64 b2:=by simpa using q2
 obtain ⟨c3,y3,e3,t3⟩:=hf 3 _ rfl;obtain ⟨b3,q3,-,s3⟩:=DataW.trod_int Tryz.underlying2 t3
 obtain rfl : c3 = .int .i64 b3:=by simpa using q3
 obtain ⟨c4,y4,e4,t4⟩:=hf 4 _ rfl;obtain ⟨b4,q4,-,s4⟩:=DataW.trod_int Tryz.underlying2 t4
 obtain rfl : c4 = .int .i64 b4:=by simpa using q4
 obtain ⟨c5,y5,e5,t5⟩:=hf 5 _ rfl;obtain ⟨b5,q5,-⟩:=DataW.trod_bool Tryz.underlying4 t5
 obtain rfl : c5 = .bool b5:=by simpa using q5
 obtain ⟨c6,y6,e6,t6⟩:=hf 6 _ rfl;obtain ⟨b6,l6,p6,zz,rfl,r6⟩:=row_of_trod Tryz.underlying56 Tryz.underlying9 (by kernel_rfl) t6;unfold maxLen at s0 s1;refine ⟨⟨b0,b1,b2,b3,b4,b5,zz⟩,fun i f hi => ?_⟩
 rcases i with _ | _ | _ | _ | _ | _ | _ | i
 ·cases hi
  exact ⟨_,(hc 0 (by omega)).trans e0,rfl,show b0.size ≤ _ by omega⟩
 ·cases hi
  exact ⟨_,(hc 1 (by omega)).trans e1,rfl,show b1.size ≤ _ by omega⟩
 ·cases hi
  exact ⟨_,(hc 2 (by omega)).trans e2,rfl⟩
 ·cases hi
  exact ⟨_,(hc 3 (by omega)).trans e3,rfl⟩
 ·cases hi
  exact ⟨_,(hc 4 (by omega)).trans e4,rfl⟩
 ·cases hi
  exact ⟨_,(hc 5 (by omega)).trans e5,rfl⟩
 ·cases hi
  exact ⟨_,(hc 6 (by omega)).trans e6,b6,l6,p6,rfl,r6⟩
 ·first | (cases hi;done) | (simp [ndF] at hi;done)

theorem ndrow_of_trod {n : Nat} {c : Value} {y : DataW H × List MemPlace} (h : DataW.trod enc Tryz.prog w base spare held n 22 [c] = some y) : ∃ a len cap,∃ xs : List Nd,c = .slice a len cap ∧ RRow w a len cap 7 (xs.map ndF):=by
 rcases open_slice Tryz.underlying22 h with ⟨hcs,_⟩ | ⟨a,len,cap,m,n',D,Pl,hcs,hb,hl,hm,hmm,_,hx⟩
 ·exact ⟨none,0,0,[],by simpa using hcs,rfl,Nat.le_refl _,by omega,.inl rfl⟩
 have hlm : len ≤ m:=by rw [hmm];split <;> omega
 have hm' : cap ≤ 9223372036854775807:=by unfold maxLen at hm;omega
 have hce : Tryz.prog.cellsOf 96 = 7:=by kernel_rfl
 rw [hce] at hx
 by_cases h0 : len = 0
 ·subst h0;exact ⟨some a,0,cap,[],by simpa using hcs,rfl,hl,hm',.inl rfl⟩
 obtain ⟨b,o,spot⟩:=a;obtain ⟨cs0,k1,k2⟩:=hx 0 (by omega)
 have hspot : spot = none:=by
  obtain ⟨_,hl0,hc0⟩:=World.cells?_some k1;have:=hc0 0 (by omega);rw [List.getElem?_eq_getElem (by omega)] at this
  simpa [Addr.add] using World.cell?_spot this
 subst hspot
 have hblt : b < w.heap.size:=by
  obtain ⟨_,hl0,hc0⟩:=World.cells?_some k1;have:=hc0 0 (by omega);rw [List.getElem?_eq_getElem (by omega)] at this
  rcases Nat.lt_or_ge b w.heap.size with h1 | h1
  ·exact h1
  ·simp [Addr.add,World.cell?,Array.getElem?_eq_none h1] at this
 have each : ∀ i,i < len → ∃ v : Nd,RAt w b (o + i * 7) (ndF v):=fun i hi => by
  obtain ⟨cs,k1,k2⟩:=hx i (by omega);obtain ⟨_,hl0,hc0⟩:=World.cells?_some k1;refine nd_of_trod (fun j hj => ?_) k2;have:=hc0 j hj;rw [add_add,Addr.add_lit] at this;rw [Nat.add_assoc];exact this
 have hin : Inhabited Nd:=⟨⟨⟨#[]⟩,⟨#[]⟩,0,0,0,false,[]⟩⟩;obtain ⟨f,hf⟩:=choose_lt each;refine ⟨some ⟨b,o,none⟩,len,cap,(List.range len).map f,by simpa using hcs,by simp,hl,hm',.inr ⟨b,o,rfl,hblt,fun j r hj => ?_⟩⟩;rw [List.getElem?_map,List.getElem?_map] at hj
 by_cases hjl : j < len
 ·rw [List.getElem?_range hjl] at hj;obtain rfl:=Option.some.inj hj;exact hf j hjl
 ·rw [List.getElem?_eq_none (by simp;omega)] at hj
  cases hj

theorem kd_of_trod {b o n : Nat} {cs : List Value} {x : DataW H × List MemPlace} (hc : ∀ i,i < 4 → w.cell? ⟨b,o + i,none⟩ = cs[i]?) (h : DataW.trod enc Tryz.prog w base spare held n 98 cs = some x) : ∃ v : Kd,RAt w b o (kdF v):=by
 obtain ⟨m,hl,hf⟩:=open_aggC Tryz.underlying98 (by kernel_rfl) (by kernel_rfl) h;obtain ⟨c0,y0,e0,t0⟩:=hf 0 _ rfl;obtain ⟨b0,q0,-,s0⟩:=DataW.trod_string Tryz.underlying9 t0
 obtain rfl : c0 = .string b0:=by simpa using q0
 obtain ⟨c1,y1,e1,t1⟩:=hf 1 _ rfl;obtain ⟨b1,q1,-⟩:=DataW.trod_bool Tryz.underlying4 t1
 obtain rfl : c1 = .bool b1:=by simpa using q1
 obtain ⟨c2,y2,e2,t2⟩:=hf 2 _ rfl;obtain ⟨b2,q2,-⟩:=DataW.trod_bool Tryz.underlying4 t2
 obtain rfl : c2 = .bool b2:=by simpa using q2
 obtain ⟨c3,y3,e3,t3⟩:=hf 3 _ rfl;obtain ⟨b3,q3,-,s3⟩:=DataW.trod_string Tryz.underlying9 t3
 obtain rfl : c3 = .string b3:=by simpa using q3
 unfold maxLen at s0 s3;refine ⟨⟨b0,b1,b2,b3⟩,fun i f hi => ?_⟩
 rcases i with _ | _ | _ | _ | i
 ·cases hi
  exact ⟨_,(hc 0 (by omega)).trans e0,rfl,show b0.size ≤ _ by omega⟩
 ·cases hi
  exact ⟨_,(hc 1 (by omega)).trans e1,rfl⟩
 ·cases hi
  exact ⟨_,(hc 2 (by omega)).trans e2,rfl⟩
 ·cases hi
  exact ⟨_,(hc 3 (by omega)).trans e3,rfl,show b3.size ≤ _ by omega⟩
 ·first | (cases hi;done) | (simp [kdF] at hi;done)

theorem kdrow_of_trod {n : Nat} {c : Value} {y : DataW H × List MemPlace} (h : DataW.trod enc Tryz.prog w base spare held n 23 [c] = some y) : ∃ a len cap,∃ xs : List Kd,c = .slice a len cap ∧ RRow w a len cap 4 (xs.map kdF):=by
 rcases open_slice Tryz.underlying23 h with ⟨hcs,_⟩ | ⟨a,len,cap,m,n',D,Pl,hcs,hb,hl,hm,hmm,_,hx⟩
 ·exact ⟨none,0,0,[],by simpa using hcs,rfl,Nat.le_refl _,by omega,.inl rfl⟩
 have hlm : len ≤ m:=by rw [hmm];split <;> omega
 have hm' : cap ≤ 9223372036854775807:=by unfold maxLen at hm;omega
 have hce : Tryz.prog.cellsOf 98 = 4:=by kernel_rfl
 rw [hce] at hx
 by_cases h0 : len = 0
 ·subst h0;exact ⟨some a,0,cap,[],by simpa using hcs,rfl,hl,hm',.inl rfl⟩
 obtain ⟨b,o,spot⟩:=a;obtain ⟨cs0,k1,k2⟩:=hx 0 (by omega)
 have hspot : spot = none:=by
  obtain ⟨_,hl0,hc0⟩:=World.cells?_some k1;have:=hc0 0 (by omega);rw [List.getElem?_eq_getElem (by omega)] at this
  simpa [Addr.add] using World.cell?_spot this
 subst hspot
 have hblt : b < w.heap.size:=by
  obtain ⟨_,hl0,hc0⟩:=World.cells?_some k1;have:=hc0 0 (by omega);rw [List.getElem?_eq_getElem (by omega)] at this
  rcases Nat.lt_or_ge b w.heap.size with h1 | h1
  ·exact h1
  ·simp [Addr.add,World.cell?,Array.getElem?_eq_none h1] at this
 have each : ∀ i,i < len → ∃ v : Kd,RAt w b (o + i * 4) (kdF v):=fun i hi => by
  obtain ⟨cs,k1,k2⟩:=hx i (by omega);obtain ⟨_,hl0,hc0⟩:=World.cells?_some k1;refine kd_of_trod (fun j hj => ?_) k2;have:=hc0 j hj;rw [add_add,Addr.add_lit] at this;rw [Nat.add_assoc];exact this
 have hin : Inhabited Kd:=⟨⟨⟨#[]⟩,false,false,⟨#[]⟩⟩⟩;obtain ⟨f,hf⟩:=choose_lt each;refine ⟨some ⟨b,o,none⟩,len,cap,(List.range len).map f,by simpa using hcs,by simp,hl,hm',.inr ⟨b,o,rfl,hblt,fun j r hj => ?_⟩⟩;rw [List.getElem?_map,List.getElem?_map] at hj
 by_cases hjl : j < len
 ·rw [List.getElem?_range hjl] at hj;obtain rfl:=Option.some.inj hj;exact hf j hjl
 ·rw [List.getElem?_eq_none (by simp;omega)] at hj
  cases hj

theorem vd_of_trod {b o n : Nat} {cs : List Value} {x : DataW H × List MemPlace} (hc : ∀ i,i < 8 → w.cell? ⟨b,o + i,none⟩ = cs[i]?) (h : DataW.trod enc Tryz.prog w base spare held n 100 cs = some x) : ∃ v : Vd,RAt w b o (vdF v):=by
 obtain ⟨m,hl,hf⟩:=open_aggC Tryz.underlying100 (by kernel_rfl) (by kernel_rfl) h;obtain ⟨c0,y0,e0,t0⟩:=hf 0 _ rfl;obtain ⟨b0,q0,-,s0⟩:=DataW.trod_string Tryz.underlying9 t0
 obtain rfl : c0 = .string b0:=by simpa using q0
 obtain ⟨c1,y1,e1,t1⟩:=hf 1 _ rfl;obtain ⟨b1,q1,-,s1⟩:=DataW.trod_int Tryz.underlying2 t1
 obtain rfl : c1 = .int .i64 b1:=by simpa using q1
 obtain ⟨c2,y2,e2,t2⟩:=hf 2 _ rfl;obtain ⟨b2,q2,-,s2⟩:=DataW.trod_string Tryz.underlying9 t2
 obtain rfl : c2 = .string b2:=by simpa using q2
 obtain ⟨c3,y3,e3,t3⟩:=hf 3 _ rfl;obtain ⟨b3,q3,-,s3⟩:=DataW.trod_string Tryz.underlying9 t3
 obtain rfl : c3 = .string b3:=by simpa using q3
 obtain ⟨c4,y4,e4,t4⟩:=hf 4 _ rfl;obtain ⟨b4,q4,-⟩:=DataW.trod_bool Tryz.underlying4 t4
 obtain rfl : c4 = .bool b4:=by simpa using q4
 obtain ⟨c5,y5,e5,t5⟩:=hf 5 _ rfl;obtain ⟨b5,q5,-,s5⟩:=DataW.trod_string Tryz.underlying9 t5
 obtain rfl : c5 = .string b5:=by simpa using q5
 obtain ⟨c6,y6,e6,t6⟩:=hf 6 _ rfl;obtain ⟨b6,q6,-⟩:=DataW.trod_bool Tryz.underlying4 t6
 obtain rfl : c6 = .bool b6:=by simpa using q6
 obtain ⟨c7,y7,e7,t7⟩:=hf 7 _ rfl;obtain ⟨b7,l7,p7,zz,rfl,r7⟩:=row_of_trod Tryz.underlying56 Tryz.underlying9 (by kernel_rfl) t7;unfold maxLen at s0 s2 s3 s5;refine ⟨⟨b0,b1,b2,b3,b4,b5,b6,zz⟩,fun i f hi => ?_⟩
 rcases i with _ | _ | _ | _ | _ | _ | _ | _ | i
 ·cases hi
  exact ⟨_,(hc 0 (by omega)).trans e0,rfl,show b0.size ≤ _ by omega⟩
 ·cases hi
  exact ⟨_,(hc 1 (by omega)).trans e1,rfl⟩
 ·cases hi
  exact ⟨_,(hc 2 (by omega)).trans e2,rfl,show b2.size ≤ _ by omega⟩
 ·cases hi
  exact ⟨_,(hc 3 (by omega)).trans e3,rfl,show b3.size ≤ _ by omega⟩
 ·cases hi
  exact ⟨_,(hc 4 (by omega)).trans e4,rfl⟩
 ·cases hi
  exact ⟨_,(hc 5 (by omega)).trans e5,rfl,show b5.size ≤ _ by omega⟩
 ·cases hi
  exact ⟨_,(hc 6 (by omega)).trans e6,rfl⟩
 ·cases hi
  exact ⟨_,(hc 7 (by omega)).trans e7,b7,l7,p7,rfl,r7⟩
 ·first | (cases hi;done) | (simp [vdF] at hi;done)

theorem vdrow_of_trod {n : Nat} {c : Value} {y : DataW H × List MemPlace} (h : DataW.trod enc Tryz.prog w base spare held n 24 [c] = some y) : ∃ a len cap,∃ xs : List Vd,c = .slice a len cap ∧ RRow w a len cap 8 (xs.map vdF):=by
 rcases open_slice Tryz.underlying24 h with ⟨hcs,_⟩ | ⟨a,len,cap,m,n',D,Pl,hcs,hb,hl,hm,hmm,_,hx⟩
 ·exact ⟨none,0,0,[],by simpa using hcs,rfl,Nat.le_refl _,by omega,.inl rfl⟩
 have hlm : len ≤ m:=by rw [hmm];split <;> omega
 have hm' : cap ≤ 9223372036854775807:=by unfold maxLen at hm;omega
 have hce : Tryz.prog.cellsOf 100 = 8:=by kernel_rfl
 rw [hce] at hx
 by_cases h0 : len = 0
 ·subst h0;exact ⟨some a,0,cap,[],by simpa using hcs,rfl,hl,hm',.inl rfl⟩
 obtain ⟨b,o,spot⟩:=a;obtain ⟨cs0,k1,k2⟩:=hx 0 (by omega)
 have hspot : spot = none:=by
  obtain ⟨_,hl0,hc0⟩:=World.cells?_some k1;have:=hc0 0 (by omega);rw [List.getElem?_eq_getElem (by omega)] at this
  simpa [Addr.add] using World.cell?_spot this
 subst hspot
 have hblt : b < w.heap.size:=by
  obtain ⟨_,hl0,hc0⟩:=World.cells?_some k1;have:=hc0 0 (by omega);rw [List.getElem?_eq_getElem (by omega)] at this
  rcases Nat.lt_or_ge b w.heap.size with h1 | h1
  ·exact h1
  ·simp [Addr.add,World.cell?,Array.getElem?_eq_none h1] at this
 have each : ∀ i,i < len → ∃ v : Vd,RAt w b (o + i * 8) (vdF v):=fun i hi => by
  obtain ⟨cs,k1,k2⟩:=hx i (by omega);obtain ⟨_,hl0,hc0⟩:=World.cells?_some k1;refine vd_of_trod (fun j hj => ?_) k2;have:=hc0 j hj;rw [add_add,Addr.add_lit] at this;rw [Nat.add_assoc];exact this
 have hin : Inhabited Vd:=⟨⟨⟨#[]⟩,0,⟨#[]⟩,⟨#[]⟩,false,⟨#[]⟩,false,[]⟩⟩;obtain ⟨f,hf⟩:=choose_lt each;refine ⟨some ⟨b,o,none⟩,len,cap,(List.range len).map f,by simpa using hcs,by simp,hl,hm',.inr ⟨b,o,rfl,hblt,fun j r hj => ?_⟩⟩;rw [List.getElem?_map,List.getElem?_map] at hj
 by_cases hjl : j < len
 ·rw [List.getElem?_range hjl] at hj;obtain rfl:=Option.some.inj hj;exact hf j hjl
 ·rw [List.getElem?_eq_none (by simp;omega)] at hj
  cases hj

theorem xd_of_trod {b o n : Nat} {cs : List Value} {x : DataW H × List MemPlace} (hc : ∀ i,i < 5 → w.cell? ⟨b,o + i,none⟩ = cs[i]?) (h : DataW.trod enc Tryz.prog w base spare held n 102 cs = some x) : ∃ v : Xd,RAt w b o (xdF v):=by
 obtain ⟨m,hl,hf⟩:=open_aggC Tryz.underlying102 (by kernel_rfl) (by kernel_rfl) h;obtain ⟨c0,y0,e0,t0⟩:=hf 0 _ rfl;obtain ⟨b0,q0,-,s0⟩:=DataW.trod_string Tryz.underlying9 t0
 obtain rfl : c0 = .string b0:=by simpa using q0
 obtain ⟨c1,y1,e1,t1⟩:=hf 1 _ rfl;obtain ⟨b1,q1,-,s1⟩:=DataW.trod_int Tryz.underlying2 t1
 obtain rfl : c1 = .int .i64 b1:=by simpa using q1
 obtain ⟨c2,y2,e2,t2⟩:=hf 2 _ rfl;obtain ⟨b2,q2,-,s2⟩:=DataW.trod_string Tryz.underlying9 t2
 obtain rfl : c2 = .string b2:=by simpa using q2
 obtain ⟨c3,y3,e3,t3⟩:=hf 3 _ rfl;obtain ⟨b3,q3,-⟩:=DataW.trod_bool Tryz.underlying4 t3
 obtain rfl : c3 = .bool b3:=by simpa using q3
 obtain ⟨c4,y4,e4,t4⟩:=hf 4 _ rfl;obtain ⟨b4,q4,-,s4⟩:=DataW.trod_string Tryz.underlying9 t4
 obtain rfl : c4 = .string b4:=by simpa using q4
 unfold maxLen at s0 s2 s4;refine ⟨⟨b0,b1,b2,b3,b4⟩,fun i f hi => ?_⟩
 rcases i with _ | _ | _ | _ | _ | i
 ·cases hi
  exact ⟨_,(hc 0 (by omega)).trans e0,rfl,show b0.size ≤ _ by omega⟩
 ·cases hi
  exact ⟨_,(hc 1 (by omega)).trans e1,rfl⟩
 ·cases hi
  exact ⟨_,(hc 2 (by omega)).trans e2,rfl,show b2.size ≤ _ by omega⟩
 ·cases hi
  exact ⟨_,(hc 3 (by omega)).trans e3,rfl⟩
 ·cases hi
  exact ⟨_,(hc 4 (by omega)).trans e4,rfl,show b4.size ≤ _ by omega⟩
 ·first | (cases hi;done) | (simp [xdF] at hi;done)

theorem xdrow_of_trod {n : Nat} {c : Value} {y : DataW H × List MemPlace} (h : DataW.trod enc Tryz.prog w base spare held n 25 [c] = some y) : ∃ a len cap,∃ xs : List Xd,c = .slice a len cap ∧ RRow w a len cap 5 (xs.map xdF):=by
 rcases open_slice Tryz.underlying25 h with ⟨hcs,_⟩ | ⟨a,len,cap,m,n',D,Pl,hcs,hb,hl,hm,hmm,_,hx⟩
 ·exact ⟨none,0,0,[],by simpa using hcs,rfl,Nat.le_refl _,by omega,.inl rfl⟩
 have hlm : len ≤ m:=by rw [hmm];split <;> omega
 have hm' : cap ≤ 9223372036854775807:=by unfold maxLen at hm;omega
 have hce : Tryz.prog.cellsOf 102 = 5:=by kernel_rfl
 rw [hce] at hx
 by_cases h0 : len = 0
 ·subst h0;exact ⟨some a,0,cap,[],by simpa using hcs,rfl,hl,hm',.inl rfl⟩
 obtain ⟨b,o,spot⟩:=a;obtain ⟨cs0,k1,k2⟩:=hx 0 (by omega)
 have hspot : spot = none:=by
  obtain ⟨_,hl0,hc0⟩:=World.cells?_some k1;have:=hc0 0 (by omega);rw [List.getElem?_eq_getElem (by omega)] at this
  simpa [Addr.add] using World.cell?_spot this
 subst hspot
 have hblt : b < w.heap.size:=by
  obtain ⟨_,hl0,hc0⟩:=World.cells?_some k1;have:=hc0 0 (by omega);rw [List.getElem?_eq_getElem (by omega)] at this
  rcases Nat.lt_or_ge b w.heap.size with h1 | h1
  ·exact h1
  ·simp [Addr.add,World.cell?,Array.getElem?_eq_none h1] at this
 have each : ∀ i,i < len → ∃ v : Xd,RAt w b (o + i * 5) (xdF v):=fun i hi => by
  obtain ⟨cs,k1,k2⟩:=hx i (by omega);obtain ⟨_,hl0,hc0⟩:=World.cells?_some k1;refine xd_of_trod (fun j hj => ?_) k2;have:=hc0 j hj;rw [add_add,Addr.add_lit] at this;rw [Nat.add_assoc];exact this
 have hin : Inhabited Xd:=⟨⟨⟨#[]⟩,0,⟨#[]⟩,false,⟨#[]⟩⟩⟩;obtain ⟨f,hf⟩:=choose_lt each;refine ⟨some ⟨b,o,none⟩,len,cap,(List.range len).map f,by simpa using hcs,by simp,hl,hm',.inr ⟨b,o,rfl,hblt,fun j r hj => ?_⟩⟩;rw [List.getElem?_map,List.getElem?_map] at hj
 by_cases hjl : j < len
 ·rw [List.getElem?_range hjl] at hj;obtain rfl:=Option.some.inj hj;exact hf j hjl
 ·rw [List.getElem?_eq_none (by simp;omega)] at hj
  cases hj

theorem pd_of_trod {b o n : Nat} {cs : List Value} {x : DataW H × List MemPlace} (hc : ∀ i,i < 6 → w.cell? ⟨b,o + i,none⟩ = cs[i]?) (h : DataW.trod enc Tryz.prog w base spare held n 104 cs = some x) : ∃ v : Pd,RAt w b o (pdF v):=by
 obtain ⟨m,hl,hf⟩:=open_aggC Tryz.underlying104 (by kernel_rfl) (by kernel_rfl) h;obtain ⟨c0,y0,e0,t0⟩:=hf 0 _ rfl;obtain ⟨b0,q0,-,s0⟩:=DataW.trod_string Tryz.underlying9 t0
 obtain rfl : c0 = .string b0:=by simpa using q0
 obtain ⟨c1,y1,e1,t1⟩:=hf 1 _ rfl;obtain ⟨b1,q1,-,s1⟩:=DataW.trod_int Tryz.underlying2 t1
 obtain rfl : c1 = .int .i64 b1:=by simpa using q1
 obtain ⟨c2,y2,e2,t2⟩:=hf 2 _ rfl;obtain ⟨b2,q2,-,s2⟩:=DataW.trod_string Tryz.underlying9 t2
 obtain rfl : c2 = .string b2:=by simpa using q2
 obtain ⟨c3,y3,e3,t3⟩:=hf 3 _ rfl;obtain ⟨b3,l3,p3,zz,rfl,r3⟩:=row_of_trod Tryz.underlying56 Tryz.underlying9 (by kernel_rfl) t3;obtain ⟨c4,y4,e4,t4⟩:=hf 4 _ rfl;obtain ⟨b4,q4,-,s4⟩:=DataW.trod_string Tryz.underlying9 t4
 obtain rfl : c4 = .string b4:=by simpa using q4
 obtain ⟨c5,y5,e5,t5⟩:=hf 5 _ rfl;obtain ⟨b5,q5,-,s5⟩:=DataW.trod_int Tryz.underlying2 t5
 obtain rfl : c5 = .int .i64 b5:=by simpa using q5
 unfold maxLen at s0 s2 s4;refine ⟨⟨b0,b1,b2,zz,b4,b5⟩,fun i f hi => ?_⟩
 rcases i with _ | _ | _ | _ | _ | _ | i
 ·cases hi
  exact ⟨_,(hc 0 (by omega)).trans e0,rfl,show b0.size ≤ _ by omega⟩
 ·cases hi
  exact ⟨_,(hc 1 (by omega)).trans e1,rfl⟩
 ·cases hi
  exact ⟨_,(hc 2 (by omega)).trans e2,rfl,show b2.size ≤ _ by omega⟩
 ·cases hi
  exact ⟨_,(hc 3 (by omega)).trans e3,b3,l3,p3,rfl,r3⟩
 ·cases hi
  exact ⟨_,(hc 4 (by omega)).trans e4,rfl,show b4.size ≤ _ by omega⟩
 ·cases hi
  exact ⟨_,(hc 5 (by omega)).trans e5,rfl⟩
 ·first | (cases hi;done) | (simp [pdF] at hi;done)

theorem pdrow_of_trod {n : Nat} {c : Value} {y : DataW H × List MemPlace} (h : DataW.trod enc Tryz.prog w base spare held n 26 [c] = some y) : ∃ a len cap,∃ xs : List Pd,c = .slice a len cap ∧ RRow w a len cap 6 (xs.map pdF):=by
 rcases open_slice Tryz.underlying26 h with ⟨hcs,_⟩ | ⟨a,len,cap,m,n',D,Pl,hcs,hb,hl,hm,hmm,_,hx⟩
 ·exact ⟨none,0,0,[],by simpa using hcs,rfl,Nat.le_refl _,by omega,.inl rfl⟩
 have hlm : len ≤ m:=by rw [hmm];split <;> omega
 have hm' : cap ≤ 9223372036854775807:=by unfold maxLen at hm;omega
 have hce : Tryz.prog.cellsOf 104 = 6:=by kernel_rfl
 rw [hce] at hx
 by_cases h0 : len = 0
 ·subst h0;exact ⟨some a,0,cap,[],by simpa using hcs,rfl,hl,hm',.inl rfl⟩
 obtain ⟨b,o,spot⟩:=a;obtain ⟨cs0,k1,k2⟩:=hx 0 (by omega)
 have hspot : spot = none:=by
  obtain ⟨_,hl0,hc0⟩:=World.cells?_some k1;have:=hc0 0 (by omega);rw [List.getElem?_eq_getElem (by omega)] at this
  simpa [Addr.add] using World.cell?_spot this
 subst hspot
 have hblt : b < w.heap.size:=by
  obtain ⟨_,hl0,hc0⟩:=World.cells?_some k1;have:=hc0 0 (by omega);rw [List.getElem?_eq_getElem (by omega)] at this
  rcases Nat.lt_or_ge b w.heap.size with h1 | h1
  ·exact h1
  ·simp [Addr.add,World.cell?,Array.getElem?_eq_none h1] at this
 have each : ∀ i,i < len → ∃ v : Pd,RAt w b (o + i * 6) (pdF v):=fun i hi => by
  obtain ⟨cs,k1,k2⟩:=hx i (by omega);obtain ⟨_,hl0,hc0⟩:=World.cells?_some k1;refine pd_of_trod (fun j hj => ?_) k2;have:=hc0 j hj;rw [add_add,Addr.add_lit] at this;rw [Nat.add_assoc];exact this
 have hin : Inhabited Pd:=⟨⟨⟨#[]⟩,0,⟨#[]⟩,[],⟨#[]⟩,0⟩⟩;obtain ⟨f,hf⟩:=choose_lt each;refine ⟨some ⟨b,o,none⟩,len,cap,(List.range len).map f,by simpa using hcs,by simp,hl,hm',.inr ⟨b,o,rfl,hblt,fun j r hj => ?_⟩⟩;rw [List.getElem?_map,List.getElem?_map] at hj
 by_cases hjl : j < len
 ·rw [List.getElem?_range hjl] at hj;obtain rfl:=Option.some.inj hj;exact hf j hjl
 ·rw [List.getElem?_eq_none (by simp;omega)] at hj
  cases hj

end

end Rc
end Go.Proofs.YtkecljccapjkpaaGreatDoor
