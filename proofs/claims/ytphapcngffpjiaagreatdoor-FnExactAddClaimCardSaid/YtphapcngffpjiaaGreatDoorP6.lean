import Derived.Test.YtphapcngffpjiaaGreatDoorP5
import Derived.Stop.LaidErr
import Derived.ChangeVars
import Derived.Deep.Strs
import Derived.Deep.Fields
import Derived.WideShapes
import Derived.ChangeArms
/-
  A copy of a cluster, as the specification makes it.
-/
namespace Go.Proofs.YtphapcngffpjiaaGreatDoor
open Go.RowKit
namespace Rc
open Mk

theorem slots2n {w w' : World} {o p : Obj} (h : Below (w.heap.size + 1 + 1) ((w.alloc o).alloc p) w') : w'.heap[w.heap.size]? = some o ∧ w'.heap[w.heap.size + 1]? = some p ∧ Below w.heap.size w w' := slots2 (by rw [size1, size1]; exact h)
theorem news_alloc_at (w : World) (n : Nat) (hn : w.heap.size = n) (vs : List Value) (T : TypeId) : ∀ (j : Nat) u, vs[j]? = some u → (w.alloc (.cells vs.toArray T)).cell? ((⟨n, 0, none⟩ : Addr).add j) = some u := by
  subst hn
  exact news_alloc w vs T
theorem put6 {w : World} {b : Nat} {T : TypeId} {u0 u1 u2 u3 u4 u5 v0 v1 v2 v3 v4 v5 : Value} (h : w.heap[b]? = some (.cells #[u0, u1, u2, u3, u4, u5] T (0, 0))) :
    ((((((w.setCell ⟨b, 0, none⟩ v0).setCell ⟨b, 1, none⟩ v1).setCell ⟨b, 2, none⟩ v2).setCell ⟨b, 3, none⟩ v3).setCell ⟨b, 4, none⟩ v4).setCell ⟨b, 5, none⟩ v5).heap[b]? = some (.cells #[v0, v1, v2, v3, v4, v5] T (0, 0)) :=
  block_set (block_set (block_set (block_set (block_set (block_set h v0) v1) v2) v3) v4) v5
theorem put6_ne {w : World} {b k : Nat} {v0 v1 v2 v3 v4 v5 : Value} (hk : ¬ k = b) :
    ((((((w.setCell ⟨b, 0, none⟩ v0).setCell ⟨b, 1, none⟩ v1).setCell ⟨b, 2, none⟩ v2).setCell ⟨b, 3, none⟩ v3).setCell ⟨b, 4, none⟩ v4).setCell ⟨b, 5, none⟩ v5).heap[k]? = w.heap[k]? := by
  rw [Below.heap_setCell _ _ _ _ hk, Below.heap_setCell _ _ _ _ hk, Below.heap_setCell _ _ _ _ hk, Below.heap_setCell _ _ _ _ hk, Below.heap_setCell _ _ _ _ hk, Below.heap_setCell _ _ _ _ hk]
theorem ROwn.away {w : World} {a : Option Addr} {len cap m : Nat} {T T' : TypeId} {rs : List (List Fv)} {S : Nat → Prop} (h : ROwn w a len cap m T rs S) {b : Nat} {cs : Array Value} (hb : w.heap[b]? = some (.cells cs T' (0, 0))) (h1 : ¬ T' = T) (h2 : ¬ T' = 9) : ROwn w a len cap m T rs (fun k => S k ∧ ¬ k = b) := by
  obtain ⟨a1, a2, a3, a4⟩ := h
  refine ⟨a1, a2, a3, a4.imp id ?_⟩
  rintro ⟨g, cur, H, e, h5⟩
  refine ⟨g, cur, H, e, h5.blk, ⟨h5.inS, fun q => ?_⟩, h5.len, fun j r hj i f hi => ?_, h5.inj⟩
  · subst q
    have := h5.blk
    rw [hb] at this
    cases this
    exact h1 rfl
  · obtain ⟨v, q1, q2⟩ := h5.cell j r hj i f hi
    refine ⟨v, q1, ?_⟩
    cases f with
    | l zs =>
      obtain ⟨a', l', c', k1, k2, k3, k4, k5, k6⟩ := q2
      refine ⟨a', l', c', k1, k2, k3, k4, k5, k6.imp id ?_⟩
      rintro ⟨z1, z2, z3, cu, z4, z5⟩
      refine ⟨z1, ⟨z2, fun q => ?_⟩, z3, cu, z4, z5⟩
      rw [q] at z4
      rw [hb] at z4
      cases z4
      exact h2 rfl
    | _ => exact q2
theorem owns_set {w : World} {base n m : Nat} {T T' : TypeId} {v u : Value} {xs : List Value} {b i : Nat} {cs : Array Value} (h : w.ownsRow base T m v n xs) (hb : w.heap[b]? = some (.cells cs T' (0, 0))) (hT : ¬ T' = T) : (w.setCell ⟨b, i, none⟩ u).ownsRow base T m v n xs := by
  refine ⟨h.1, h.2.imp id ?_⟩
  rintro ⟨g, cap, cur, h1, h2, h3, h4⟩
  refine ⟨g, cap, cur, h1, h2, (Below.heap_setCell _ _ _ _ (fun e => ?_)).trans h3, h4⟩
  subst e
  rw [hb] at h3
  cases h3
  exact hT rfl
theorem VRecs.set {w : World} {S : Nat → Prop} {m : Nat} {rs : List (List Fv)} {vss : List (List Value)} {H : Nat → Nat → Nat} (h : VRecs w S m rs vss H) {b i : Nat} {cs : Array Value} {T' : TypeId} {u : Value} (hb : w.heap[b]? = some (.cells cs T' (0, 0))) (hT : ¬ T' = 9) : VRecs (w.setCell ⟨b, i, none⟩ u) S m rs vss H :=
  h.keep (fun k cu _ q => Below.heap_setCell _ _ _ _ (fun e => by subst e; rw [hb] at q; cases q; exact hT rfl)) (fun _ _ s => s)
theorem KeptS.of_grown {S : Nat → Prop} {W w : World} {vb : Option Nat} (hg : W.grownBy w vb) (h : ∀ g, vb = some g → S g) : KeptS S W w := ⟨hg.os, hg.tape, hg.output, hg.size, fun k hk hn => hg.block k hk (fun e => hn (h k e.symm))⟩
theorem owns_slice {w : World} {base n m : Nat} {T : TypeId} {v : Value} {xs : List Value} (h : w.ownsRow base T m v n xs) : ∃ a l c, v = .slice a l c := by
  rcases h.2 with ⟨rfl, _⟩ | ⟨g, cap, cur, rfl, _⟩
  · exact ⟨_, _, _, rfl⟩
  · exact ⟨_, _, _, rfl⟩
abbrev Cps (b : Nat) (X : World) : Nat → Prop := fun k => k = b ∨ X.heap.size ≤ k
theorem cp_blk {X wr W w5 : World} {b3 k m : Nat} {T TC : TypeId} {v : Value} {xs : List Value} {cs : Array Value} (hO : wr.ownsRow X.heap.size T m v k xs) (hBo : wr.heap[b3]? = some (.cells cs TC (0, 0))) (hb3 : b3 < X.heap.size) (hb : Below wr.heap.size wr W) (hg : W.grownBy w5 v.ownBlock) : w5.heap[b3]? = some (.cells cs TC (0, 0)) :=
  (hg.block b3 (Nat.lt_of_lt_of_le (lt_of_some hBo) hb.size) (fun e => by have := (hO.lt b3 e.symm).1; omega)).trans ((hb.block _ (lt_of_some hBo)).trans hBo)
theorem cp_step {X wr W w5 : World} {b3 k m f : Nat} {T TC : TypeId} {v v' : Value} {rs : List (List Fv)} {vss : List (List Value)} {H : Nat → Nat → Nat} {cs : Array Value} {r : List Fv} {vs : List Value} {hh : Nat} (hK : KeptS (Cps b3 X) X wr) (hO : wr.ownsRow X.heap.size T m v k vss.flatten) (hV : VRecs wr (fun k => X.heap.size ≤ k) m rs vss H) (hBo : wr.heap[b3]? = some (.cells cs TC (0, 0))) (hb3 : b3 < X.heap.size)
    (hb : Below wr.heap.size wr W) (hown : w5.ownsRow X.heap.size T m v' (k + 1) (vss.flatten ++ vs)) (hg : W.grownBy w5 v.ownBlock) (hT : ¬ T = 9) (hTC : ¬ TC = T) (hTS : ¬ TC = 9) (hr : r.length = m) (hvs : vs.length = m) (hc : ∀ (i : Nat) f, r[i]? = some f → ∃ v, vs[i]? = some v ∧ f.Fr W hh (fun k => X.heap.size ≤ k) v) (hfr : ∀ (i : Nat) zs, r[i]? = some (.l zs) → zs ≠ [] → wr.heap.size ≤ hh)
    (h1 : ∀ (i i' : Nat) zs zs', r[i]? = some (.l zs) → zs ≠ [] → r[i']? = some (.l zs') → zs' ≠ [] → i = i') :
    KeptS (Cps b3 X) X (w5.setCell ⟨b3, f, none⟩ v') ∧ (w5.setCell ⟨b3, f, none⟩ v').ownsRow X.heap.size T m v' (k + 1) (vss ++ [vs]).flatten ∧ (∃ H', VRecs (w5.setCell ⟨b3, f, none⟩ v') (fun k => X.heap.size ≤ k) m (rs ++ [r]) (vss ++ [vs]) H') ∧ (w5.setCell ⟨b3, f, none⟩ v').heap[b3]? = some (.cells (cs.setIfInBounds f v') TC (0, 0)) := by
  have hb5 := cp_blk hO hBo hb3 hb hg
  refine ⟨?_, ?_, ⟨_, (hV.app hb (owns_below hO hb) hT hg hr hvs hc hfr h1).set hb5 hTS⟩, block_set hb5 v'⟩
  · exact ((hK.trans (KeptS.of_below hb)).trans (KeptS.of_grown hg (fun g e => .inr (hO.lt g e).1))).set (.inl rfl)
  · rw [List.flatten_append]
    refine owns_set ?_ hb5 hTC
    simpa using hown
structure ClFr (w : World) (d : Ad) (c : Cr) (S : Nat → Prop) : Prop where
  n : ROwn w d.a1 d.l1 d.c1 7 107 c.n S
  k : ROwn w d.a2 d.l2 d.c2 4 44 c.k S
  v : ROwn w d.a3 d.l3 d.c3 8 108 c.v S
  x : ROwn w d.a4 d.l4 d.c4 5 55 c.x S
  p : ROwn w d.a5 d.l5 d.c5 6 110 c.p S
theorem ClFr.row {w : World} {d : Ad} {c : Cr} {S : Nat → Prop} (h : ClFr w d c S) : ClRow w d c := ⟨h.n.row, h.k.row, h.v.row, h.x.row, h.p.row⟩
def EmF (B : Nat) (T : TypeId) : Fact := fun v w => ∃ b, v = .slice (some ⟨b, 0, none⟩) 0 0 ∧ B ≤ b ∧ w.heap[b]? = some (.cells #[] T (0, 0))
theorem EmF.mono (B : Nat) (T : TypeId) : Fact.Mono (EmF B T) := by
  rintro v w w' ⟨b, h1, h2, h3⟩ hb
  exact ⟨b, h1, h2, (hb.block _ (lt_of_some h3)).trans h3⟩
def RwF (B len m : Nat) (T : TypeId) (rs : List (List Fv)) : Fact := fun v w => ∃ a c, v = .slice a len c ∧ ROwn w a len c m T rs (fun k => B ≤ k)
theorem RwF.mono (B len m : Nat) (T : TypeId) (rs : List (List Fv)) : Fact.Mono (RwF B len m T rs) := by
  rintro v w w' ⟨a, c, h1, h2⟩ hb
  exact ⟨a, c, h1, h2.below hb⟩
def CpF (B l2 l4 : Nat) (c : Cl) : Fact := fun v w => ∃ a2 c2 a4 c4, v = .agg #[.slice none 0 0, .slice a2 l2 c2, .slice none 0 0, .slice a4 l4 c4, .slice none 0 0, .int .i64 c.now] ∧ ROwn w a2 l2 c2 4 44 (c.ks.map kdF) (fun k => B ≤ k) ∧ ROwn w a4 l4 c4 5 55 (c.xs.map xdF) (fun k => B ≤ k)
theorem CpF.mono (B l2 l4 : Nat) (c : Cl) : Fact.Mono (CpF B l2 l4 c) := by
  rintro v w w' ⟨a2, c2, a4, c4, h1, h2, h3⟩ hb
  exact ⟨a2, c2, a4, c4, h1, h2.below hb, h3.below hb⟩
def FrF (B : Nat) : Fact := fun v w => ∃ b, v = .pointer (some ⟨b, 0, none⟩) ∧ B ≤ b ∧ w.heap[b]? = some (.cells #[.slice none 0 0, .slice none 0 0, .slice none 0 0, .slice none 0 0, .slice none 0 0, .int .i64 0] 39 (0, 0))
theorem FrF.mono (B : Nat) : Fact.Mono (FrF B) := by
  rintro v w w' ⟨b, h1, h2, h3⟩ hb
  exact ⟨b, h1, h2, (hb.block _ (lt_of_some h3)).trans h3⟩

def Rv (vb : Option Nat) (sp : Tmp) : Gi.Rs := fun s w w' => match s with
  | none => w.grownBy w' vb
  | some t => if t = sp then w.grownBy w' vb else Below w.heap.size w w'
theorem grown_of_below {w w' : World} (vb : Option Nat) (h : Below w.heap.size w w') : w.grownBy w' vb := ⟨h.os, h.tape, h.output, h.size, fun k hk _ => h.block k hk⟩
theorem Rv.below {vb : Option Nat} {sp : Tmp} {s : Option Tmp} {w w' : World} (h : Rv vb sp s w w') (h1 : ¬ s = none) (h2 : ¬ s = some sp) : Below w.heap.size w w' := by
  cases s with
  | none => exact absurd rfl h1
  | some t =>
    simp only [Rv] at h
    rw [if_neg (fun e => h2 (by rw [e]))] at h
    exact h
theorem Rv.rel (vb : Option Nat) (sp : Tmp) : Gi.Rel (Rv vb sp) sp := by
  refine ⟨fun w => grown_of_below vb (Below.refl _ _), fun {a b c} h k => ?_, fun h => World.grownBy.size h, fun w => grown_of_below vb (Below.refl _ _).drew, fun s {a b} h => ?_, fun s {a b} h1 h2 h => Rv.below h h1 h2⟩
  · have h : World.grownBy a b vb := h
    have k : World.grownBy b c vb := k
    exact ⟨k.os.trans h.os, k.tape.trans h.tape, k.output.trans h.output, Nat.le_trans h.size k.size, fun i hi hn => (k.block i (Nat.lt_of_lt_of_le hi h.size) hn).trans (h.block i hi hn)⟩
  · cases s with
    | none => exact h
    | some t =>
      show World.grownBy a b vb
      simp only [Rv] at h
      split at h
      · exact h
      · exact grown_of_below vb h
theorem Rv.other {vb : Option Nat} {sp t : Tmp} {w w' : World} (ht : ¬ t = sp) (h : Below w.heap.size w w') : Rv vb sp (some t) w w' := by
  show (if t = sp then w.grownBy w' vb else Below w.heap.size w w')
  rw [if_neg ht]
  exact h
theorem Rv.this {vb : Option Nat} {sp : Tmp} {w w' : World} (h : w.grownBy w' vb) : Rv vb sp (some sp) w w' := by
  show (if sp = sp then w.grownBy w' vb else Below w.heap.size w w')
  rw [if_pos rfl]
  exact h
theorem Rv.any {vb : Option Nat} {sp : Tmp} {s : Option Tmp} {w w' : World} (h : Rv vb sp s w w') : w.grownBy w' vb := (Rv.rel vb sp).sub s h

theorem news_blk {w : World} {b : Nat} {vs : List Value} {T : TypeId} (h : w.heap[b]? = some (.cells vs.toArray T (0, 0))) : ∀ (j : Nat) u, vs[j]? = some u → w.cell? ((⟨b, 0, none⟩ : Addr).add j) = some u := by
  intro j u hu
  rw [Addr.add_lit, cellK h, Nat.zero_add]
  simpa using hu
def TvF (B : Nat) (x : Vd) : Gi.Fact := fun u w _ _ => ∃ a l c, u = .agg #[.string x.n, .int .i64 x.c, .string x.z, .string x.k, .bool x.x, .string x.m, .bool x.y, .slice a l c] ∧ TOwn w a l c x.zs (fun k => B ≤ k)
def BsF (B : Nat) (x : Vd) : Gi.Fact := fun u w _ _ => ∃ b a l c, u = .slice (some ⟨b, 0, none⟩) 1 1 ∧ B ≤ b ∧ w.heap[b]? = some (.cells #[.string x.n, .int .i64 x.c, .string x.z, .string x.k, .bool x.x, .string x.m, .bool x.y, .slice a l c] 108 (0, 0)) ∧ TOwn w a l c x.zs (fun k => B ≤ k)
def ApF (B k : Nat) (rs : List (List Fv)) (vss : List (List Value)) : Gi.Fact := fun u w _ _ => ∃ H' vs, w.ownsRow B 108 8 u (k + 1) (vss ++ [vs]).flatten ∧ VRecs w (fun k => B ≤ k) 8 rs (vss ++ [vs]) H'
theorem TvF.mono {vb : Option Nat} {sp : Tmp} {ex : Gi.Ex} {d : Option Tmp} {B : Nat} {x : Vd} (hv : ∀ g, vb = some g → g < B) : Gi.Fact.Mono (Rv vb sp) ex d (TvF B x) := by
  rintro s _ _ _ v w w' l h ⟨a, l, c, h1, h2⟩ hb
  have hb : w.grownBy w' vb := (Rv.rel vb sp).sub s hb
  exact ⟨a, l, c, h1, h2.keep (fun k hk s => hb.block k hk (fun e => by have s1 : B ≤ k := s; have := hv k e.symm; omega)) (fun _ _ s => s)⟩
theorem BsF.mono {vb : Option Nat} {sp : Tmp} {ex : Gi.Ex} {d : Option Tmp} {B : Nat} {x : Vd} (hv : ∀ g, vb = some g → g < B) : Gi.Fact.Mono (Rv vb sp) ex d (BsF B x) := by
  rintro s _ _ _ v w w' l h ⟨b, a, l, c, h1, h2, h3, h4⟩ hb
  have hb : w.grownBy w' vb := (Rv.rel vb sp).sub s hb
  exact ⟨b, a, l, c, h1, h2, (hb.block _ (lt_of_some h3) (fun e => by have := hv b e.symm; omega)).trans h3, h4.keep (fun k hk s => hb.block k hk (fun e => by have s1 : B ≤ k := s; have := hv k e.symm; omega)) (fun _ _ s => s)⟩
theorem ApF.mono {vb : Option Nat} {sp : Tmp} {ex : Gi.Ex} {B k : Nat} {rs : List (List Fv)} {vss : List (List Value)} : Gi.Fact.Mono (Rv vb sp) ex (some sp) (ApF B k rs vss) := by
  rintro s h1 h2 _ v w w' l h ⟨H', vs, h3, h4⟩ hb
  have hb := Rv.below hb h1 h2
  exact ⟨H', vs, owns_below h3 hb, h4.below hb⟩

set_option maxRecDepth 100000 in
set_option maxHeartbeats 12800000 in
theorem scopyC_any (d : Ad) (c : Cl) (w : World) (hr : ClRow w d c.raw) (hs : Sm c) :
    Calls Tryz.prog 30 #[.agg #[.slice d.a1 d.l1 d.c1, .slice d.a2 d.l2 d.c2, .slice d.a3 d.l3 d.c3, .slice d.a4 d.l4 d.c4, .slice d.a5 d.l5 d.c5, .int .i64 c.now]] w fun e w' => ∃ d', e = .returned (.agg #[.slice d'.a1 d'.l1 d'.c1, .slice d'.a2 d'.l2 d'.c2, .slice d'.a3 d'.l3 d'.c3, .slice d'.a4 d'.l4 d'.c4, .slice d'.a5 d'.l5 d'.c5, .int .i64 c.now]) ∧ ClFr w' d' c.raw (fun k => w.heap.size ≤ k) ∧ Below w.heap.size w w' := by
  obtain ⟨a1, l1, y1, a2, l2, y2, a3, l3, y3, a4, l4, y4, a5, l5, y5⟩ := d
  dsimp only
  have HR := hidK hr
  have hl1 : c.ns.length = l1 := by simpa using (show (c.ns.map ndF).length = l1 from hr.n.1)
  have hm1 : l1 ≤ 9223372036854775807 := Nat.le_trans hr.n.2.1 hr.n.2.2.1
  have hl2 : c.ks.length = l2 := by simpa using (show (c.ks.map kdF).length = l2 from hr.k.1)
  have hm2 : l2 ≤ 9223372036854775807 := Nat.le_trans hr.k.2.1 hr.k.2.2.1
  have hl3 : c.vs.length = l3 := by simpa using (show (c.vs.map vdF).length = l3 from hr.v.1)
  have hm3 : l3 ≤ 9223372036854775807 := Nat.le_trans hr.v.2.1 hr.v.2.2.1
  have hl4 : c.xs.length = l4 := by simpa using (show (c.xs.map xdF).length = l4 from hr.x.1)
  have hm4 : l4 ≤ 9223372036854775807 := Nat.le_trans hr.x.2.1 hr.x.2.2.1
  have hl5 : c.ps.length = l5 := by simpa using (show (c.ps.map pdF).length = l5 from hr.p.1)
  have hm5 : l5 ≤ 9223372036854775807 := Nat.le_trans hr.p.2.1 hr.p.2.2.1
  clear hr
  have HS := hidK hs
  clear hs
  obtain ⟨i2, hi2⟩ := Option.map_eq_some_iff.1 infokd
  obtain ⟨i4, hi4⟩ := Option.map_eq_some_iff.1 infoxd
  obtain ⟨i1, hi1⟩ := Option.map_eq_some_iff.1 infond
  obtain ⟨i3, hi3⟩ := Option.map_eq_some_iff.1 infovd
  obtain ⟨i5, hi5⟩ := Option.map_eq_some_iff.1 infopd
  have HI1 := hidK hi1
  have HI2 := hidK hi2
  have HI3 := hidK hi3
  have HI4 := hidK hi4
  have HI5 := hidK hi5
  clear hi1 hi2 hi3 hi4 hi5
  obtain ⟨W, hW0⟩ : ∃ W, W = (w.alloc (.cells #[.slice a1 l1 y1, .slice a2 l2 y2, .slice a3 l3 y3, .slice a4 l4 y4, .slice a5 l5 y5, .int .i64 c.now] 39)).alloc (.cells #[.slice none 0 0, .slice none 0 0, .slice none 0 0, .slice none 0 0, .slice none 0 0, .int .i64 0] 39) := ⟨_, rfl⟩
  have HB : Hid (Below w.heap.size w W) := by rw [hW0]; exact below2 _ _ _
  have Bk : Hid (W.heap[w.heap.size]? = some (.cells #[.slice a1 l1 y1, .slice a2 l2 y2, .slice a3 l3 y3, .slice a4 l4 y4, .slice a5 l5 y5, .int .i64 c.now] 39 (0, 0))) := by rw [hW0]; exact heap2_0 _ _ _
  have Br : Hid (W.heap[w.heap.size + 1]? = some (.cells #[.slice none 0 0, .slice none 0 0, .slice none 0 0, .slice none 0 0, .slice none 0 0, .int .i64 0] 39 (0, 0))) := by rw [hW0]; exact heap2_1 _ _ _
  have hWs : W.heap.size = w.heap.size + 1 + 1 := by rw [hW0]; simp
  go_enter Tryz.func30, Tryz.ntmps30
  go_wp2_with fail
  rw [← hW0]
  clear hW0
  rename_i K0 hK0
  refine wp_region_grow_last (by kernel_rfl) rfl rfl (by kernel_rfl) ?_
  refine Grow.step (EmF W.heap.size 44) rfl (EmF.mono _ _) ?_ ?_
  · refine Obl.plain rfl ?_
    intro ac wg K hsz hW hf hK; clear hsz
    clear hf
    go_simp
    exact hK _ _ (below1 _ _) ⟨_, rfl, hW.size, Array.getElem?_push_size⟩
  refine' Grow.stepC _ rfl ?_ ?_
  rotate_left 1
  · refine Obl.plain rfl ?_
    intro ac wg K hsz hW hf hK; clear hsz
    have e1 := hf 1 (by decide)
    simp [slotFact, List.lookup] at e1
    clear hf
    go_simp
    refine hK _ _ (Below.refl _ _) ?_
    with_reducible rfl
  refine' Grow.stepC _ rfl ?_ ?_
  rotate_left 1
  · refine Obl.plain rfl ?_
    intro ac wg K hsz hW hf hK; clear hsz
    have e10 := hf 10 (by decide)
    simp [slotFact, List.lookup] at e10
    clear hf
    obtain ⟨k0, k1, k2, k3, k4, k5⟩ := cs6 ((hW.block _ (lt_of_some Bk.out)).trans Bk.out)
    go_simp
    refine hK _ _ (Below.refl _ _) ?_
    with_reducible rfl
  refine Grow.step (RwF W.heap.size l2 4 44 (c.ks.map kdF)) rfl (RwF.mono _ _ _ _ _) ?_ ?_
  · refine Obl.plain rfl ?_
    intro ac wg K hsz hW hf hK; clear hsz
    have e9 := hf 9 (by decide)
    simp [slotFact, List.lookup] at e9
    have e11 := hf 11 (by decide)
    simp [slotFact, List.lookup] at e11
    clear hf
    obtain ⟨b0, e9, hB0, hg0⟩ := e9
    have hz : i2.zero = some (.agg #[.string ⟨#[]⟩, .bool false, .bool false, .string ⟨#[]⟩]) ∧ i2.size = 4 ∧ i2.bytes = 40 := by have := HI2.out.2; simp only [Prod.mk.injEq] at this; exact this
    refine wp_copy0 (.tmp 9) (.tmp 11) 34 44 rfl i2 (.agg #[.string ⟨#[]⟩, .bool false, .bool false, .string ⟨#[]⟩]) Tryz.underlying34 HI2.out.1 hz.1 hz.2.1 hz.2.2 rfl (by decide) (by decide) (by simpa [Act.eval] using e9) hg0 (by simpa [Act.eval] using e11) (HR.out.k.below (HB.out.trans (hW.mono HB.out.size))) (map_flat kd_flat _) (show l2 ≤ 8 by have := HS.out.k; omega) (by decide) ?_
    intro a' c' w' hR hb6
    have hsw := hW.size
    exact hK _ _ hb6 ⟨a', c', rfl, hR.into (fun k _ s => by show W.heap.size ≤ k; rcases s with rfl | s <;> omega)⟩
  refine Grow.step (EmF W.heap.size 55) rfl (EmF.mono _ _) ?_ ?_
  · refine Obl.plain rfl ?_
    intro ac wg K hsz hW hf hK; clear hsz
    clear hf
    go_simp
    exact hK _ _ (below1 _ _) ⟨_, rfl, hW.size, Array.getElem?_push_size⟩
  refine' Grow.stepC _ rfl ?_ ?_
  rotate_left 1
  · refine Obl.plain rfl ?_
    intro ac wg K hsz hW hf hK; clear hsz
    have e1 := hf 1 (by decide)
    simp [slotFact, List.lookup] at e1
    clear hf
    go_simp
    refine hK _ _ (Below.refl _ _) ?_
    with_reducible rfl
  refine' Grow.stepC _ rfl ?_ ?_
  rotate_left 1
  · refine Obl.plain rfl ?_
    intro ac wg K hsz hW hf hK; clear hsz
    have e14 := hf 14 (by decide)
    simp [slotFact, List.lookup] at e14
    clear hf
    obtain ⟨k0, k1, k2, k3, k4, k5⟩ := cs6 ((hW.block _ (lt_of_some Bk.out)).trans Bk.out)
    go_simp
    refine hK _ _ (Below.refl _ _) ?_
    with_reducible rfl
  refine Grow.step (RwF W.heap.size l4 5 55 (c.xs.map xdF)) rfl (RwF.mono _ _ _ _ _) ?_ ?_
  · refine Obl.plain rfl ?_
    intro ac wg K hsz hW hf hK; clear hsz
    have e13 := hf 13 (by decide)
    simp [slotFact, List.lookup] at e13
    have e15 := hf 15 (by decide)
    simp [slotFact, List.lookup] at e15
    clear hf
    obtain ⟨b0, e13, hB0, hg0⟩ := e13
    have hz : i4.zero = some (.agg #[.string ⟨#[]⟩, .int .i64 0, .string ⟨#[]⟩, .bool false, .string ⟨#[]⟩]) ∧ i4.size = 5 ∧ i4.bytes = 64 := by have := HI4.out.2; simp only [Prod.mk.injEq] at this; exact this
    refine wp_copy0 (.tmp 13) (.tmp 15) 36 55 rfl i4 (.agg #[.string ⟨#[]⟩, .int .i64 0, .string ⟨#[]⟩, .bool false, .string ⟨#[]⟩]) Tryz.underlying36 HI4.out.1 hz.1 hz.2.1 hz.2.2 rfl (by decide) (by decide) (by simpa [Act.eval] using e13) hg0 (by simpa [Act.eval] using e15) (HR.out.x.below (HB.out.trans (hW.mono HB.out.size))) (map_flat xd_flat _) (show l4 ≤ 8 by have := HS.out.x; omega) (by decide) ?_
    intro a' c' w' hR hb6
    have hsw := hW.size
    exact hK _ _ hb6 ⟨a', c', rfl, hR.into (fun k _ s => by show W.heap.size ≤ k; rcases s with rfl | s <;> omega)⟩
  refine' Grow.stepC _ rfl ?_ ?_
  rotate_left 1
  · refine Obl.plain rfl ?_
    intro ac wg K hsz hW hf hK; clear hsz
    have e1 := hf 1 (by decide)
    simp [slotFact, List.lookup] at e1
    clear hf
    go_simp
    refine hK _ _ (Below.refl _ _) ?_
    with_reducible rfl
  refine' Grow.stepC _ rfl ?_ ?_
  rotate_left 1
  · refine Obl.plain rfl ?_
    intro ac wg K hsz hW hf hK; clear hsz
    have e17 := hf 17 (by decide)
    simp [slotFact, List.lookup] at e17
    clear hf
    obtain ⟨k0, k1, k2, k3, k4, k5⟩ := cs6 ((hW.block _ (lt_of_some Bk.out)).trans Bk.out)
    go_simp
    refine hK _ _ (Below.refl _ _) ?_
    with_reducible rfl
  refine Grow.step (CpF W.heap.size l2 l4 c) rfl (CpF.mono _ _ _ _) ?_ ?_
  · refine Obl.plain rfl ?_
    intro ac wg K hsz hW hf hK; clear hsz
    have e12 := hf 12 (by decide)
    simp [slotFact, List.lookup] at e12
    have e16 := hf 16 (by decide)
    simp [slotFact, List.lookup] at e16
    have e18 := hf 18 (by decide)
    simp [slotFact, List.lookup] at e18
    clear hf
    obtain ⟨p2, q2, e12, h12⟩ := e12
    obtain ⟨p4, q4, e16, h16⟩ := e16
    have H12 := hidK h12
    have H16 := hidK h16
    clear h12 h16
    go_simp
    exact hK _ _ (Below.refl _ _) ⟨p2, q2, p4, q4, rfl, H12.out, H16.out⟩
  refine Grow.step (FrF W.heap.size) rfl (FrF.mono _) ?_ ?_
  · refine Obl.plain rfl ?_
    intro ac wg K hsz hW hf hK; clear hsz
    clear hf
    go_simp
    exact hK _ _ (below1 _ _) ⟨_, rfl, hW.size, Array.getElem?_push_size⟩
  refine Grow.done ?_
  intro q wz hW hf
  simp only [List.forall_mem_cons] at hf
  obtain ⟨⟨b3, h3, hb3, hg3⟩, ⟨p2, q2, p4, q4, h19, hR2, hR4⟩, -⟩ := hf
  obtain ⟨t0, t1, t2, t3, t4, t5⟩ := cs6 hg3
  have f0 := froK hg3 0
  have f1 := froK hg3 1
  have f2 := froK hg3 2
  have f3 := froK hg3 3
  have f4 := froK hg3 4
  have f5 := froK hg3 5
  have BoX := hidK (put6 (v0 := .slice none 0 0) (v1 := .slice p2 l2 q2) (v2 := .slice none 0 0) (v3 := .slice p4 l4 q4) (v4 := .slice none 0 0) (v5 := .int .i64 c.now) hg3)
  have HWX : Hid (Below W.heap.size W ((((((wz.setCell ⟨b3, 0, none⟩ (.slice none 0 0)).setCell ⟨b3, 1, none⟩ (.slice p2 l2 q2)).setCell ⟨b3, 2, none⟩ (.slice none 0 0)).setCell ⟨b3, 3, none⟩ (.slice p4 l4 q4)).setCell ⟨b3, 4, none⟩ (.slice none 0 0)).setCell ⟨b3, 5, none⟩ (.int .i64 c.now))) := set_below hb3 (set_below hb3 (set_below hb3 (set_below hb3 (set_below hb3 (set_below hb3 hW)))))
  have R2 : Hid (ROwn ((((((wz.setCell ⟨b3, 0, none⟩ (.slice none 0 0)).setCell ⟨b3, 1, none⟩ (.slice p2 l2 q2)).setCell ⟨b3, 2, none⟩ (.slice none 0 0)).setCell ⟨b3, 3, none⟩ (.slice p4 l4 q4)).setCell ⟨b3, 4, none⟩ (.slice none 0 0)).setCell ⟨b3, 5, none⟩ (.int .i64 c.now)) p2 l2 q2 4 44 (c.ks.map kdF) (fun k => W.heap.size ≤ k ∧ ¬ k = b3)) := (hR2.away hg3 (by decide) (by decide)).keep (fun k hk s => put6_ne s.2) (fun k _ s => s)
  have R4 : Hid (ROwn ((((((wz.setCell ⟨b3, 0, none⟩ (.slice none 0 0)).setCell ⟨b3, 1, none⟩ (.slice p2 l2 q2)).setCell ⟨b3, 2, none⟩ (.slice none 0 0)).setCell ⟨b3, 3, none⟩ (.slice p4 l4 q4)).setCell ⟨b3, 4, none⟩ (.slice none 0 0)).setCell ⟨b3, 5, none⟩ (.int .i64 c.now)) p4 l4 q4 5 55 (c.xs.map xdF) (fun k => W.heap.size ≤ k ∧ ¬ k = b3)) := (hR4.away hg3 (by decide) (by decide)).keep (fun k hk s => put6_ne s.2) (fun k _ s => s)
  clear hg3 hR2 hR4 hW
  intro K hK
  rw [if_pos (by rfl)]
  simp only [putsAll, List.foldr, Act.put, List.setIfInBounds_toArray, List.set_cons_zero, List.set_cons_succ, h3, h19]
  simp only [List.getLast]
  go_simp
  refine hK _ _ ?_
  refine hK0 _ _ ?_
  clear hK hK0 K K0
  generalize ((((((wz.setCell ⟨b3, 0, none⟩ (.slice none 0 0)).setCell ⟨b3, 1, none⟩ (.slice p2 l2 q2)).setCell ⟨b3, 2, none⟩ (.slice none 0 0)).setCell ⟨b3, 3, none⟩ (.slice p4 l4 q4)).setCell ⟨b3, 4, none⟩ (.slice none 0 0)).setCell ⟨b3, 5, none⟩ (.int .i64 c.now)) = X at BoX HWX R2 R4 ⊢
  clear t0 t1 t2 t3 t4 t5 f0 f1 f2 f3 f4 f5
  have HBX := hidK (HB.out.trans (HWX.out.mono HB.out.size))
  replace Bk := hidK ((HWX.out.block _ (lt_of_some Bk.out)).trans Bk.out)
  replace Br := hidK ((HWX.out.block _ (lt_of_some Br.out)).trans Br.out)
  have hb3X : b3 < X.heap.size := lt_of_some BoX.out
  clear HB
  go_wp2
  go_loopw [4] (fun vi wr => ∃ (k : Nat) (vss : List (List Value)) (H : Nat → Nat → Nat) (v : Value), k ≤ l1 ∧ vi = .int .i64 k ∧ Hid (KeptS (Cps b3 X) X wr) ∧ Hid (wr.ownsRow X.heap.size 107 7 v k vss.flatten) ∧ Hid (VRecs wr (fun k => X.heap.size ≤ k) 7 ((c.ns.take k).map ndF) vss H) ∧ Hid (wr.heap[b3]? = some (.cells #[v, .slice p2 l2 q2, .slice none 0 0, .slice p4 l4 q4, .slice none 0 0, .int .i64 c.now] 39 (0, 0)))) (fun vi _ => l1 - (intOf vi).toNat)
  case atStart => exact ⟨0, [], fun _ _ => 0, .slice none 0 0, by omega, rfl, KeptS.refl _ _, World.ownsRow_nil _ _ _ _, VRecs.nil _ _ _ _, BoX⟩
  case round =>
    obtain ⟨k, vss, H, v, hk, rfl, HK, HO, HV, Bo⟩ := hrel
    have hXs := HBX.out.size
    have HBW := hidK (HBX.out.trans (HK.out.low (X := w.heap.size) hXs (fun k s => by rcases s with rfl | s <;> omega)))
    have BkR := hidK ((HK.out.block w.heap.size (by omega) (fun s => by rcases s with s | s <;> omega)).trans Bk.out)
    have hKs := HK.out.size
    by_cases hlt : k < l1
    · obtain ⟨b, o, x, rfl, hb0, hx, hat⟩ := nd_at HR.out.n hlt
      obtain ⟨va, vl, vc, hvr, z0, z1, c0, c1, c2, c3, c4, c5, c6⟩ := nd_cells hat
      have hz8 : vl ≤ 8001 := by have h1 := hvr.1; have h2 := HS.out.ns k x hx; omega
      have HX := hidK hx
      have HT := hidK hvr
      have HZz0 := hidK z0
      have HZz1 := hidK z1
      clear hat hx hvr z0 z1
      replace c0 := (cell_below HBW.out hb0).trans c0
      replace c1 := (cell_below HBW.out hb0).trans c1
      replace c2 := (cell_below HBW.out hb0).trans c2
      replace c3 := (cell_below HBW.out hb0).trans c3
      replace c4 := (cell_below HBW.out hb0).trans c4
      replace c5 := (cell_below HBW.out hb0).trans c5
      replace c6 := (cell_below HBW.out hb0).trans c6
      have hbr : b < wr.heap.size := Nat.lt_of_lt_of_le hb0 HBW.out.size
      have hkr := lt_of_some BkR.out
      have hor := lt_of_some Bo.out
      have hz : i1.zero = some (.agg #[.string ⟨#[]⟩, .string ⟨#[]⟩, .int .i64 0, .int .i64 0, .int .i64 0, .bool false, .slice none 0 0]) ∧ i1.size = 7 ∧ i1.bytes = 88 := by have := HI1.out.2; simp only [Prod.mk.injEq] at this; exact this
      obtain ⟨k0, k1, k2, k3, k4, k5⟩ := cs6 BkR.out
      go_wp2_with (first | (at_builtin; refine wpList_texts rfl _ _ rfl (wr.heap.size + 1) rfl (heap2_1 _ _ _) va vl vc rfl x.zs (HT.out.below (HBW.out.trans ((below2 _ _ _).mono HBW.out.size))) hz8 ?_))
      intro a' l' c' w2 hT2 hb2
      obtain ⟨hn2, -, hbx⟩ := slots2n hb2
      obtain ⟨g, hg⟩ := hT2.fr
      have hs2 : wr.heap.size + 1 < w2.heap.size := by have := hb2.size; simp at this; omega
      have hsl : ∀ k, (k = wr.heap.size + 1 ∨ wr.heap.size + 1 + 1 ≤ k) → wr.heap.size + 1 ≤ k := fun k s => by omega
      have hb4 : Below wr.heap.size wr ((w2.setCell ⟨wr.heap.size, 6, none⟩ (.slice a' l' c')).alloc (.cells #[.string x.n, .string x.z, .int .i64 x.c, .int .i64 x.s, .int .i64 x.u, .bool x.d, .slice a' l' c'] 107)) := (set_below (Nat.le_refl _) hbx).alloc (by simp [World.setCell]; omega) _
      have HF4 : Hid (LFr ((w2.setCell ⟨wr.heap.size, 6, none⟩ (.slice a' l' c')).alloc (.cells #[.string x.n, .string x.z, .int .i64 x.c, .int .i64 x.s, .int .i64 x.u, .bool x.d, .slice a' l' c'] 107)) g (fun k => X.heap.size ≤ k) x.zs (.slice a' l' c')) := hg.keep (fun cu _ q => (Below.heap_alloc _ _ _ (by simp [World.setCell]; exact lt_of_some q)).trans (Below.heap_setCell _ _ _ _ (fun e => by subst e; rw [hn2] at q; cases q))) (fun _ s => by have := hsl _ s; show X.heap.size ≤ g; omega)
      have HG : Hid (∀ zs : List ByteArray, x.zs = zs → zs ≠ [] → wr.heap.size ≤ g) := fun zs e hz => by subst e; have := hsl _ (hg.lt hz).1; omega
      have HB4 := hidK hb4
      have HO4 := hidK (owns_below HO.out hb4)
      obtain ⟨n0, n1, n2, n3, n4, n5, n6⟩ := cs7 hn2
      have fn0 := froK hn2 0
      have fn1 := froK hn2 1
      have fn2 := froK hn2 2
      have fn3 := froK hn2 3
      have fn4 := froK hn2 4
      have fn5 := froK hn2 5
      have fn6 := froK hn2 6
      have bo2 := (hbx.block _ hor).trans Bo.out
      obtain ⟨o0, o1, o2, o3, o4, o5⟩ := cs6 bo2
      have hor2 : b3 < w2.heap.size := lt_of_some bo2
      have hne3 : ¬ b3 = wr.heap.size := by omega
      clear hn2 hbx hT2 hg hb2 hsl hb4 bo2 k0 k1 k2 k3 k4 k5 c0 c1 c2 c3 c4 c5 c6
      go_wp2_with (first | (at_builtin; refine wpList_append_own _ rfl _ _ 33 rfl X.heap.size 107 i1 (.agg #[.string ⟨#[]⟩, .string ⟨#[]⟩, .int .i64 0, .int .i64 0, .int .i64 0, .bool false, .slice none 0 0]) 7 88 Tryz.underlying33 HI1.out.1 hz.1 hz.2.1 hz.2.2 rfl (by decide) _ _ _ rfl HO4.out ⟨w2.heap.size, 0, none⟩ 1 1 [.string x.n, .string x.z, .int .i64 x.c, .int .i64 x.s, .int .i64 x.u, .bool x.d, .slice a' l' c'] rfl rfl ?c1 ?c2 ?c3 ?c4 ?c5 ?_))
      case c1 => exact news_alloc_at _ _ (by simp [World.setCell]) _ _
      case c2 => intro u hu; simp only [List.mem_cons, List.not_mem_nil, or_false] at hu; rcases hu with rfl | rfl | rfl | rfl | rfl | rfl | rfl <;> rfl
      case c3 => unfold maxLen; have := HS.out.n; omega
      case c4 => have := HS.out.n; omega
      case c5 => simp [World.setCell]; omega
      rintro v' w5 hown5 hgrow -
      obtain ⟨v1', v2', v3', rfl⟩ := owns_slice hown5
      clear n0 fn0 n1 fn1 n2 fn2 n3 fn3 n4 fn4 n5 fn5 n6 fn6 o0 o1 o2 o3 o4 o5
      have bo5 := cp_blk HO.out Bo.out hb3X HB4.out hgrow
      obtain ⟨hs1, hs2', ⟨H', hs3⟩, hs4⟩ := cp_step (f := 0) (r := ndF x) (vs := [.string x.n, .string x.z, .int .i64 x.c, .int .i64 x.s, .int .i64 x.u, .bool x.d, .slice a' l' c']) (hh := g) HK.out HO.out HV.out Bo.out hb3X HB4.out hown5 hgrow (by decide) (by decide) (by decide) rfl rfl (nd_fr HZz0.out HZz1.out HF4.out) (fun i zs hi hz => HG.out zs (nd_l hi).2.symm hz) (fun i i' zs zs' h1 _ h2 _ => (nd_l h1).1.trans (nd_l h2).1.symm)
      have e1 : (c.ns.take (k + 1)).map ndF = (c.ns.take k).map ndF ++ [ndF x] := by rw [List.take_add_one, HX.out]; simp
      rw [← e1] at hs3
      have HS1 := hidK hs1
      have HS2 := hidK hs2'
      have HS3 := hidK hs3
      have HS4 := hidK hs4
      obtain ⟨o0, o1, o2, o3, o4, o5⟩ := cs6 bo5
      have fo0 := froK bo5 0
      have fo1 := froK bo5 1
      have fo2 := froK bo5 2
      have fo3 := froK bo5 3
      have fo4 := froK bo5 4
      have fo5 := froK bo5 5
      clear hs1 hs2' hs3 hs4 bo5 hown5 hgrow e1
      go_wp2
      exact ⟨⟨k + 1, _, H', _, by omega, by go_num, HS1, HS2, HS3, HS4⟩, by simp [intOf]; omega⟩
    · have hkl : k = l1 := by omega
      have h5 := HV.out
      rw [List.take_of_length_le (by omega)] at h5
      obtain ⟨p1, q1, hv, hR⟩ := h5.own HO.out (by simp; omega) (by decide) (fun g hg => (HO.out.lt g hg).1)
      have hl5 : (c.ns.map ndF).length = l1 := by simpa using hl1
      rw [hl5] at hv hR
      subst hv
      have R1 := hidK (hR.away Bo.out (by decide) (by decide))
      replace R2 := hidK (R2.out.keep (fun k hk s => HK.out.block k hk (fun q9 => by rcases q9 with q9 | q9; exact s.2 q9; omega)) (fun _ _ s => s))
      replace R4 := hidK (R4.out.keep (fun k hk s => HK.out.block k hk (fun q9 => by rcases q9 with q9 | q9; exact s.2 q9; omega)) (fun _ _ s => s))
      replace Br := hidK ((HK.out.block (w.heap.size + 1) (by omega) (fun s => by rcases s with s | s <;> omega)).trans Br.out)
      replace Bk := BkR
      replace BoX := Bo
      replace HBX := HBW
      have hb3X1 : b3 < wr.heap.size := lt_of_some BoX.out
      clear BkR Bo HBW h5 hR HV HO HK hl5 hkl hk hKs hXs
      generalize wr = X1 at *
      obtain ⟨k0, k1, k2, k3, k4, k5⟩ := cs6 Bk.out
      go_wp2
      clear k0 k1 k2 k3 k4 k5 hlt
      go_loopw [6] (fun vi wr => ∃ (k : Nat) (vss : List (List Value)) (H : Nat → Nat → Nat) (v : Value), k ≤ l3 ∧ vi = .int .i64 k ∧ Hid (KeptS (Cps b3 X1) X1 wr) ∧ Hid (wr.ownsRow X1.heap.size 108 8 v k vss.flatten) ∧ Hid (VRecs wr (fun k => X1.heap.size ≤ k) 8 ((c.vs.take k).map vdF) vss H) ∧ Hid (wr.heap[b3]? = some (.cells #[.slice p1 l1 q1, .slice p2 l2 q2, v, .slice p4 l4 q4, .slice none 0 0, .int .i64 c.now] 39 (0, 0)))) (fun vi _ => l3 - (intOf vi).toNat)
      case atStart => exact ⟨0, [], fun _ _ => 0, .slice none 0 0, by omega, rfl, KeptS.refl _ _, World.ownsRow_nil _ _ _ _, VRecs.nil _ _ _ _, BoX⟩
      case round =>
        obtain ⟨k, vss, H, v, hk, rfl, HK, HO, HV, Bo⟩ := hrel
        have hXs := HBX.out.size
        have HBW := hidK (HBX.out.trans (HK.out.low (X := w.heap.size) hXs (fun k s => by rcases s with rfl | s <;> omega)))
        have BkR := hidK ((HK.out.block w.heap.size (by omega) (fun s => by rcases s with s | s <;> omega)).trans Bk.out)
        have hKs := HK.out.size
        by_cases hlt : k < l3
        · obtain ⟨b, o, x, rfl, hb0, hx, hat⟩ := vd_at HR.out.v hlt
          obtain ⟨va, vl, vc, hvr, z0, z2, z3, z5, c0, c1, c2, c3, c4, c5, c6, c7⟩ := vd_cells hat
          have hz8 : vl ≤ 8001 := by have h1 := hvr.1; have h2 := HS.out.vs k x hx; omega
          have HX := hidK hx
          have HT := hidK hvr
          have HZz0 := hidK z0
          have HZz2 := hidK z2
          have HZz3 := hidK z3
          have HZz5 := hidK z5
          clear hat hx hvr z0 z2 z3 z5
          replace c0 := (cell_below HBW.out hb0).trans c0
          replace c1 := (cell_below HBW.out hb0).trans c1
          replace c2 := (cell_below HBW.out hb0).trans c2
          replace c3 := (cell_below HBW.out hb0).trans c3
          replace c4 := (cell_below HBW.out hb0).trans c4
          replace c5 := (cell_below HBW.out hb0).trans c5
          replace c6 := (cell_below HBW.out hb0).trans c6
          replace c7 := (cell_below HBW.out hb0).trans c7
          have hbr : b < wr.heap.size := Nat.lt_of_lt_of_le hb0 HBW.out.size
          have hkr := lt_of_some BkR.out
          have hor := lt_of_some Bo.out
          have hz : i3.zero = some (.agg #[.string ⟨#[]⟩, .int .i64 0, .string ⟨#[]⟩, .string ⟨#[]⟩, .bool false, .string ⟨#[]⟩, .bool false, .slice none 0 0]) ∧ i3.size = 8 ∧ i3.bytes = 112 := by have := HI3.out.2; simp only [Prod.mk.injEq] at this; exact this
          obtain ⟨k0, k1, k2, k3, k4, k5⟩ := cs6 BkR.out
          have hvb : ∀ g, v.ownBlock = some g → g < wr.heap.size := fun g hg => (HO.out.lt g hg).2
          have hb0w : b < w.heap.size := hb0
          go_wp2_with fail
          clear k0 k1 k2 k3 k4 k5
          rename_i K0 hK0
          refine Gi.wp_region_grow_last (R := Rv v.ownBlock 59) (ex := fun _ => none) (Rv.rel _ _) (by kernel_rfl) rfl rfl (by kernel_rfl) (by kernel_rfl) ?_
          refine' Gi.Grow.stepC _ rfl ?_ ?_
          rotate_left 1
          · refine Gi.Obl.plain rfl ?_
            intro ac wg K lo hi hsz hW hpr hf hap hK; clear hsz hap hpr
            have hW : wr.grownBy wg v.ownBlock := hW
            have e3 := hf 3 (by decide)
            simp [Gi.slotFact, List.lookup] at e3
            clear hf
            go_simp
            refine hK _ _ (Rv.other (by decide) (Below.refl _ _)) ?_
            with_reducible rfl
          refine' Gi.Grow.stepC _ rfl ?_ ?_
          rotate_left 1
          · refine Gi.Obl.plain rfl ?_
            intro ac wg K lo hi hsz hW hpr hf hap hK; clear hsz hap hpr
            have hW : wr.grownBy wg v.ownBlock := hW
            have e50 := hf 50 (by decide)
            simp [Gi.slotFact, List.lookup] at e50
            clear hf
            obtain ⟨o0, o1, o2, o3, o4, o5⟩ := cs6 ((hW.block b3 hor (fun e => by have := (HO.out.lt _ e.symm).1; omega)).trans Bo.out)
            go_simp
            refine hK _ _ (Rv.other (by decide) (Below.refl _ _)) ?_
            with_reducible rfl
          refine' Gi.Grow.stepC _ rfl ?_ ?_
          rotate_left 1
          · refine Gi.Obl.plain rfl ?_
            intro ac wg K lo hi hsz hW hpr hf hap hK; clear hsz hap hpr
            have hW : wr.grownBy wg v.ownBlock := hW
            have e1 := hf 1 (by decide)
            simp [Gi.slotFact, List.lookup] at e1
            clear hf
            go_simp
            refine hK _ _ (Rv.other (by decide) (Below.refl _ _)) ?_
            with_reducible rfl
          refine' Gi.Grow.stepC _ rfl ?_ ?_
          rotate_left 1
          · refine Gi.Obl.plain rfl ?_
            intro ac wg K lo hi hsz hW hpr hf hap hK; clear hsz hap hpr
            have hW : wr.grownBy wg v.ownBlock := hW
            have e52 := hf 52 (by decide)
            simp [Gi.slotFact, List.lookup] at e52
            clear hf
            obtain ⟨k0, k1, k2, k3, k4, k5⟩ := cs6 ((hW.block w.heap.size hkr (fun e => by have := (HO.out.lt _ e.symm).1; omega)).trans BkR.out)
            go_simp
            refine hK _ _ (Rv.other (by decide) (Below.refl _ _)) ?_
            with_reducible rfl
          refine' Gi.Grow.stepC _ rfl ?_ ?_
          rotate_left 1
          · refine Gi.Obl.plain rfl ?_
            intro ac wg K lo hi hsz hW hpr hf hap hK; clear hsz hap hpr
            have hW : wr.grownBy wg v.ownBlock := hW
            have e6 := hf 6 (by decide)
            simp [Gi.slotFact, List.lookup] at e6
            clear hf
            go_simp
            refine hK _ _ (Rv.other (by decide) (Below.refl _ _)) ?_
            with_reducible rfl
          refine' Gi.Grow.stepC _ rfl ?_ ?_
          rotate_left 1
          · refine Gi.Obl.plain rfl ?_
            intro ac wg K lo hi hsz hW hpr hf hap hK; clear hsz hap hpr
            have hW : wr.grownBy wg v.ownBlock := hW
            have e53 := hf 53 (by decide)
            simp [Gi.slotFact, List.lookup] at e53
            have e54 := hf 54 (by decide)
            simp [Gi.slotFact, List.lookup] at e54
            clear hf
            go_simp
            refine hK _ _ (Rv.other (by decide) (Below.refl _ _)) ?_
            with_reducible rfl
          refine' Gi.Grow.stepC _ rfl ?_ ?_
          rotate_left 1
          · refine Gi.Obl.plain rfl ?_
            intro ac wg K lo hi hsz hW hpr hf hap hK; clear hsz hap hpr
            have hW : wr.grownBy wg v.ownBlock := hW
            have e55 := hf 55 (by decide)
            simp [Gi.slotFact, List.lookup] at e55
            clear hf
            have c0g := (World.cell?_of_block (hW.block b hbr (fun e => by have := (HO.out.lt _ e.symm).1; omega))).trans c0
            have c1g := (World.cell?_of_block (hW.block b hbr (fun e => by have := (HO.out.lt _ e.symm).1; omega))).trans c1
            have c2g := (World.cell?_of_block (hW.block b hbr (fun e => by have := (HO.out.lt _ e.symm).1; omega))).trans c2
            have c3g := (World.cell?_of_block (hW.block b hbr (fun e => by have := (HO.out.lt _ e.symm).1; omega))).trans c3
            have c4g := (World.cell?_of_block (hW.block b hbr (fun e => by have := (HO.out.lt _ e.symm).1; omega))).trans c4
            have c5g := (World.cell?_of_block (hW.block b hbr (fun e => by have := (HO.out.lt _ e.symm).1; omega))).trans c5
            have c6g := (World.cell?_of_block (hW.block b hbr (fun e => by have := (HO.out.lt _ e.symm).1; omega))).trans c6
            have c7g := (World.cell?_of_block (hW.block b hbr (fun e => by have := (HO.out.lt _ e.symm).1; omega))).trans c7
            go_simp
            refine hK _ _ (Rv.other (by decide) (Below.refl _ _)) ?_
            with_reducible rfl
          refine Gi.Grow.step (TvF wr.heap.size x) rfl (TvF.mono hvb) ?_ ?_
          · refine Gi.Obl.plain rfl ?_
            intro ac wg K lo hi hsz hW hpr hf hap hK; clear hsz hap hpr
            have hW : wr.grownBy wg v.ownBlock := hW
            have e56 := hf 56 (by decide)
            simp [Gi.slotFact, List.lookup] at e56
            clear hf
            have hBg := HBW.out.grown hW HBW.out.size (fun g hg => by have := (HO.out.lt g hg).1; omega)
            go_simp
            refine (Ap.scopy_any x.n x.c x.z x.k x.x x.m x.y va vl vc x.zs _ (HT.out.below hBg) hz8).mono ?_
            rintro e w6 ⟨a', l', c', rfl, ho1, ho2, hb6⟩
            have hws := hW.size
            exact hK _ _ (Rv.other (by decide) hb6) ⟨a', l', c', rfl, TOwn.into ⟨ho1, ho2⟩ (fun k _ s => Nat.le_trans hws s)⟩
          refine Gi.Grow.step (BsF wr.heap.size x) rfl (BsF.mono hvb) ?_ ?_
          · refine Gi.Obl.plain rfl ?_
            intro ac wg K lo hi hsz hW hpr hf hap hK; clear hsz hap hpr
            have hW : wr.grownBy wg v.ownBlock := hW
            have e57 := hf 57 (by decide)
            simp [Gi.slotFact, List.lookup] at e57
            clear hf
            obtain ⟨a', l', c', e57, ho⟩ := e57
            have HO7 := hidK ho
            clear ho
            go_simp
            exact hK _ _ (Rv.other (by decide) (below1 _ _)) ⟨_, a', l', c', rfl, hW.size, Array.getElem?_push_size, HO7.out.below (below1 _ _)⟩
          refine Gi.Grow.step (ApF X1.heap.size k ((c.vs.take (k + 1)).map vdF) vss) rfl (ApF.mono) ?_ ?_
          · refine Gi.Obl.plain rfl ?_
            intro ac wg K lo hi hsz hW hpr hf hap hK; clear hsz hap
            have hW : wr.grownBy wg v.ownBlock := hW
            have e51 := hf 51 (by decide)
            simp [Gi.slotFact, List.lookup] at e51
            have e58 := hf 58 (by decide)
            simp [Gi.slotFact, List.lookup] at e58
            clear hf
            have hbW : Below wr.heap.size wr wg := hpr rfl
            clear hpr
            obtain ⟨b5, a', l', c', e58, hb5, hg5, ho5⟩ := e58
            obtain ⟨g, hg⟩ := ho5.fr
            have hws := hW.size
            refine wp_append_own wg (.tmp 51) (.tmp 58) 35 rfl X1.heap.size 108 i3 (.agg #[.string ⟨#[]⟩, .int .i64 0, .string ⟨#[]⟩, .string ⟨#[]⟩, .bool false, .string ⟨#[]⟩, .bool false, .slice none 0 0]) 8 112 Tryz.underlying35 HI3.out.1 hz.1 hz.2.1 hz.2.2 rfl (by decide) v k vss.flatten (by simpa [Act.eval] using e51) (owns_below HO.out hbW) ⟨b5, 0, none⟩ 1 1 [.string x.n, .int .i64 x.c, .string x.z, .string x.k, .bool x.x, .string x.m, .bool x.y, .slice a' l' c'] (by simpa [Act.eval] using e58) rfl (news_blk hg5) (by intro u hu; simp only [List.mem_cons, List.not_mem_nil, or_false] at hu; rcases hu with rfl | rfl | rfl | rfl | rfl | rfl | rfl | rfl <;> rfl) (by unfold maxLen; have := HS.out.v; omega) (by have := HS.out.v; omega) (by omega) ?_
            intro v' w' hown hgr _
            have hV := HV.out.app (r := vdF x) (vs := [.string x.n, .int .i64 x.c, .string x.z, .string x.k, .bool x.x, .string x.m, .bool x.y, .slice a' l' c']) (hh := g) hbW (owns_below HO.out hbW) (by decide) hgr rfl rfl (vd_fr HZz0.out HZz2.out HZz3.out HZz5.out (hg.keep (S' := fun k => X1.heap.size ≤ k) (fun cu _ q => rfl) (fun _ s => by have s1 : wr.heap.size ≤ g := s; show X1.heap.size ≤ g; omega))) (fun i zs hi hz => by obtain ⟨_, rfl⟩ := vd_l hi; exact (hg.lt hz).1) (fun i i' zs zs' h1 _ h2 _ => (vd_l h1).1.trans (vd_l h2).1.symm)
            have e1 : (c.vs.take (k + 1)).map vdF = (c.vs.take k).map vdF ++ [vdF x] := by rw [List.take_add_one, HX.out]; simp
            rw [← e1] at hV
            exact hK _ _ (Rv.this hgr) ⟨_, [.string x.n, .int .i64 x.c, .string x.z, .string x.k, .bool x.x, .string x.m, .bool x.y, .slice a' l' c'], by rw [List.flatten_append]; simpa using hown, hV⟩
          refine' Gi.Grow.stepC _ rfl ?_ ?_
          rotate_left 1
          · refine Gi.Obl.plain rfl ?_
            intro ac wg K lo hi hsz hW hpr hf hap hK; clear hsz hap hpr
            have hW : wr.grownBy wg v.ownBlock := hW
            have e3 := hf 3 (by decide)
            simp [Gi.slotFact, List.lookup] at e3
            clear hf
            go_simp
            refine hK _ _ (Rv.other (by decide) (Below.refl _ _)) ?_
            with_reducible rfl
          refine Gi.Grow.done ?_
          intro q wz lo hi hW hf hap
          clear hap
          have hW : wr.grownBy wz v.ownBlock := hW
          simp only [List.forall_mem_cons] at hf
          obtain ⟨h60, h59, -⟩ := hf
          have h60 := h60 (by first | trivial | rfl)
          obtain ⟨H', vs', hs2, hs3⟩ := h59 (by first | trivial | rfl)
          obtain ⟨v', hv'⟩ : ∃ v', q 59 = v' := ⟨_, rfl⟩
          rw [hv'] at hs2
          obtain ⟨v1', v2', v3', rfl⟩ := owns_slice hs2
          have bo5 := (hW.block b3 hor (fun e => by have := (HO.out.lt _ e.symm).1; omega)).trans Bo.out
          have HS1 := hidK (((HK.out.trans (KeptS.of_grown hW (fun g e => .inr (HO.out.lt g e).1))).set (i := 2) (v := .slice v1' v2' v3') (.inl rfl)))
          have HS2 := hidK (owns_set (i := 2) (u := .slice v1' v2' v3') hs2 bo5 (by decide))
          have HS3 := hidK (hs3.set (i := 2) (u := .slice v1' v2' v3') bo5 (by decide))
          have HS4 := hidK (block_set (i := 2) bo5 (.slice v1' v2' v3'))
          obtain ⟨o0, o1, o2, o3, o4, o5⟩ := cs6 bo5
          have fo0 := froK bo5 0
          have fo1 := froK bo5 1
          have fo2 := froK bo5 2
          have fo3 := froK bo5 3
          have fo4 := froK bo5 4
          have fo5 := froK bo5 5
          clear bo5 hs2 hs3 hW c0 c1 c2 c3 c4 c5 c6 c7
          intro K hK
          rw [if_pos (by rfl)]
          simp only [Gi.putsAll, List.foldr, Act.put, List.setIfInBounds_toArray, List.set_cons_zero, List.set_cons_succ, h60, hv']
          simp only [List.getLast]
          go_simp
          refine hK _ _ ?_
          refine hK0 _ _ ?_
          clear hK hK0 K K0
          go_wp2
          exact ⟨⟨k + 1, _, H', _, by omega, by go_num, HS1, HS2, HS3, HS4⟩, by simp [intOf]; omega⟩
        · have hkl : k = l3 := by omega
          have h5 := HV.out
          rw [List.take_of_length_le (by omega)] at h5
          obtain ⟨p3, q3, hv, hR⟩ := h5.own HO.out (by simp; omega) (by decide) (fun g hg => (HO.out.lt g hg).1)
          have hl5 : (c.vs.map vdF).length = l3 := by simpa using hl3
          rw [hl5] at hv hR
          subst hv
          have R3 := hidK (hR.away Bo.out (by decide) (by decide))
          replace R2 := hidK (R2.out.keep (fun k hk s => HK.out.block k hk (fun q9 => by rcases q9 with q9 | q9; exact s.2 q9; omega)) (fun _ _ s => s))
          replace R4 := hidK (R4.out.keep (fun k hk s => HK.out.block k hk (fun q9 => by rcases q9 with q9 | q9; exact s.2 q9; omega)) (fun _ _ s => s))
          replace R1 := hidK (R1.out.keep (fun k hk s => HK.out.block k hk (fun q9 => by rcases q9 with q9 | q9; exact s.2 q9; omega)) (fun _ _ s => s))
          replace Br := hidK ((HK.out.block (w.heap.size + 1) (by omega) (fun s => by rcases s with s | s <;> omega)).trans Br.out)
          replace Bk := BkR
          replace BoX := Bo
          replace HBX := HBW
          have hb3X2 : b3 < wr.heap.size := lt_of_some BoX.out
          clear BkR Bo HBW h5 hR HV HO HK hl5 hkl hk hKs hXs
          generalize wr = X2 at *
          obtain ⟨k0, k1, k2, k3, k4, k5⟩ := cs6 Bk.out
          go_wp2
          clear k0 k1 k2 k3 k4 k5 hlt
          go_loopw [7] (fun vi wr => ∃ (k : Nat) (vss : List (List Value)) (H : Nat → Nat → Nat) (v : Value), k ≤ l5 ∧ vi = .int .i64 k ∧ Hid (KeptS (Cps b3 X2) X2 wr) ∧ Hid (wr.ownsRow X2.heap.size 110 6 v k vss.flatten) ∧ Hid (VRecs wr (fun k => X2.heap.size ≤ k) 6 ((c.ps.take k).map pdF) vss H) ∧ Hid (wr.heap[b3]? = some (.cells #[.slice p1 l1 q1, .slice p2 l2 q2, .slice p3 l3 q3, .slice p4 l4 q4, v, .int .i64 c.now] 39 (0, 0)))) (fun vi _ => l5 - (intOf vi).toNat)
          case atStart => exact ⟨0, [], fun _ _ => 0, .slice none 0 0, by omega, rfl, KeptS.refl _ _, World.ownsRow_nil _ _ _ _, VRecs.nil _ _ _ _, BoX⟩
          case round =>
            obtain ⟨k, vss, H, v, hk, rfl, HK, HO, HV, Bo⟩ := hrel
            have hXs := HBX.out.size
            have HBW := hidK (HBX.out.trans (HK.out.low (X := w.heap.size) hXs (fun k s => by rcases s with rfl | s <;> omega)))
            have BkR := hidK ((HK.out.block w.heap.size (by omega) (fun s => by rcases s with s | s <;> omega)).trans Bk.out)
            have hKs := HK.out.size
            by_cases hlt : k < l5
            · obtain ⟨b, o, x, rfl, hb0, hx, hat⟩ := pd_at HR.out.p hlt
              obtain ⟨va, vl, vc, hvr, z0, z2, z4, c0, c1, c2, c3, c4, c5⟩ := pd_cells hat
              have hz8 : vl ≤ 8001 := by have h1 := hvr.1; have h2 := HS.out.ps k x hx; omega
              have HX := hidK hx
              have HT := hidK hvr
              have HZz0 := hidK z0
              have HZz2 := hidK z2
              have HZz4 := hidK z4
              clear hat hx hvr z0 z2 z4
              replace c0 := (cell_below HBW.out hb0).trans c0
              replace c1 := (cell_below HBW.out hb0).trans c1
              replace c2 := (cell_below HBW.out hb0).trans c2
              replace c3 := (cell_below HBW.out hb0).trans c3
              replace c4 := (cell_below HBW.out hb0).trans c4
              replace c5 := (cell_below HBW.out hb0).trans c5
              have hbr : b < wr.heap.size := Nat.lt_of_lt_of_le hb0 HBW.out.size
              have hkr := lt_of_some BkR.out
              have hor := lt_of_some Bo.out
              have hz : i5.zero = some (.agg #[.string ⟨#[]⟩, .int .i64 0, .string ⟨#[]⟩, .slice none 0 0, .string ⟨#[]⟩, .int .i64 0]) ∧ i5.size = 6 ∧ i5.bytes = 88 := by have := HI5.out.2; simp only [Prod.mk.injEq] at this; exact this
              obtain ⟨k0, k1, k2, k3, k4, k5⟩ := cs6 BkR.out
              go_wp2_with (first | (at_builtin; refine wpList_texts rfl _ _ rfl (wr.heap.size + 1) rfl (heap2_1 _ _ _) va vl vc rfl x.zs (HT.out.below (HBW.out.trans ((below2 _ _ _).mono HBW.out.size))) hz8 ?_))
              intro a' l' c' w2 hT2 hb2
              obtain ⟨hn2, -, hbx⟩ := slots2n hb2
              obtain ⟨g, hg⟩ := hT2.fr
              have hs2 : wr.heap.size + 1 < w2.heap.size := by have := hb2.size; simp at this; omega
              have hsl : ∀ k, (k = wr.heap.size + 1 ∨ wr.heap.size + 1 + 1 ≤ k) → wr.heap.size + 1 ≤ k := fun k s => by omega
              have hb4 : Below wr.heap.size wr ((w2.setCell ⟨wr.heap.size, 3, none⟩ (.slice a' l' c')).alloc (.cells #[.string x.n, .int .i64 x.c, .string x.z, .slice a' l' c', .string x.d, .int .i64 x.p] 110)) := (set_below (Nat.le_refl _) hbx).alloc (by simp [World.setCell]; omega) _
              have HF4 : Hid (LFr ((w2.setCell ⟨wr.heap.size, 3, none⟩ (.slice a' l' c')).alloc (.cells #[.string x.n, .int .i64 x.c, .string x.z, .slice a' l' c', .string x.d, .int .i64 x.p] 110)) g (fun k => X2.heap.size ≤ k) x.zs (.slice a' l' c')) := hg.keep (fun cu _ q => (Below.heap_alloc _ _ _ (by simp [World.setCell]; exact lt_of_some q)).trans (Below.heap_setCell _ _ _ _ (fun e => by subst e; rw [hn2] at q; cases q))) (fun _ s => by have := hsl _ s; show X2.heap.size ≤ g; omega)
              have HG : Hid (∀ zs : List ByteArray, x.zs = zs → zs ≠ [] → wr.heap.size ≤ g) := fun zs e hz => by subst e; have := hsl _ (hg.lt hz).1; omega
              have HB4 := hidK hb4
              have HO4 := hidK (owns_below HO.out hb4)
              obtain ⟨n0, n1, n2, n3, n4, n5⟩ := cs6 hn2
              have fn0 := froK hn2 0
              have fn1 := froK hn2 1
              have fn2 := froK hn2 2
              have fn3 := froK hn2 3
              have fn4 := froK hn2 4
              have fn5 := froK hn2 5
              have bo2 := (hbx.block _ hor).trans Bo.out
              obtain ⟨o0, o1, o2, o3, o4, o5⟩ := cs6 bo2
              have hor2 : b3 < w2.heap.size := lt_of_some bo2
              have hne3 : ¬ b3 = wr.heap.size := by omega
              clear hn2 hbx hT2 hg hb2 hsl hb4 bo2 k0 k1 k2 k3 k4 k5 c0 c1 c2 c3 c4 c5
              go_wp2_with (first | (at_builtin; refine wpList_append_own _ rfl _ _ 37 rfl X2.heap.size 110 i5 (.agg #[.string ⟨#[]⟩, .int .i64 0, .string ⟨#[]⟩, .slice none 0 0, .string ⟨#[]⟩, .int .i64 0]) 6 88 Tryz.underlying37 HI5.out.1 hz.1 hz.2.1 hz.2.2 rfl (by decide) _ _ _ rfl HO4.out ⟨w2.heap.size, 0, none⟩ 1 1 [.string x.n, .int .i64 x.c, .string x.z, .slice a' l' c', .string x.d, .int .i64 x.p] rfl rfl ?c1 ?c2 ?c3 ?c4 ?c5 ?_))
              case c1 => exact news_alloc_at _ _ (by simp [World.setCell]) _ _
              case c2 => intro u hu; simp only [List.mem_cons, List.not_mem_nil, or_false] at hu; rcases hu with rfl | rfl | rfl | rfl | rfl | rfl <;> rfl
              case c3 => unfold maxLen; have := HS.out.p; omega
              case c4 => have := HS.out.p; omega
              case c5 => simp [World.setCell]; omega
              rintro v' w5 hown5 hgrow -
              obtain ⟨v1', v2', v3', rfl⟩ := owns_slice hown5
              clear n0 fn0 n1 fn1 n2 fn2 n3 fn3 n4 fn4 n5 fn5 o0 o1 o2 o3 o4 o5
              have bo5 := cp_blk HO.out Bo.out hb3X2 HB4.out hgrow
              obtain ⟨hs1, hs2', ⟨H', hs3⟩, hs4⟩ := cp_step (f := 4) (r := pdF x) (vs := [.string x.n, .int .i64 x.c, .string x.z, .slice a' l' c', .string x.d, .int .i64 x.p]) (hh := g) HK.out HO.out HV.out Bo.out hb3X2 HB4.out hown5 hgrow (by decide) (by decide) (by decide) rfl rfl (pd_fr HZz0.out HZz2.out HZz4.out HF4.out) (fun i zs hi hz => HG.out zs (pd_l hi).2.symm hz) (fun i i' zs zs' h1 _ h2 _ => (pd_l h1).1.trans (pd_l h2).1.symm)
              have e1 : (c.ps.take (k + 1)).map pdF = (c.ps.take k).map pdF ++ [pdF x] := by rw [List.take_add_one, HX.out]; simp
              rw [← e1] at hs3
              have HS1 := hidK hs1
              have HS2 := hidK hs2'
              have HS3 := hidK hs3
              have HS4 := hidK hs4
              obtain ⟨o0, o1, o2, o3, o4, o5⟩ := cs6 bo5
              have fo0 := froK bo5 0
              have fo1 := froK bo5 1
              have fo2 := froK bo5 2
              have fo3 := froK bo5 3
              have fo4 := froK bo5 4
              have fo5 := froK bo5 5
              clear hs1 hs2' hs3 hs4 bo5 hown5 hgrow e1
              go_wp2
              exact ⟨⟨k + 1, _, H', _, by omega, by go_num, HS1, HS2, HS3, HS4⟩, by simp [intOf]; omega⟩
            · have hkl : k = l5 := by omega
              have h5 := HV.out
              rw [List.take_of_length_le (by omega)] at h5
              obtain ⟨p5, q5, hv, hR⟩ := h5.own HO.out (by simp; omega) (by decide) (fun g hg => (HO.out.lt g hg).1)
              have hl5 : (c.ps.map pdF).length = l5 := by simpa using hl5
              rw [hl5] at hv hR
              subst hv
              have R5 := hidK (hR.away Bo.out (by decide) (by decide))
              replace R2 := hidK (R2.out.keep (fun k hk s => HK.out.block k hk (fun q9 => by rcases q9 with q9 | q9; exact s.2 q9; omega)) (fun _ _ s => s))
              replace R4 := hidK (R4.out.keep (fun k hk s => HK.out.block k hk (fun q9 => by rcases q9 with q9 | q9; exact s.2 q9; omega)) (fun _ _ s => s))
              replace R1 := hidK (R1.out.keep (fun k hk s => HK.out.block k hk (fun q9 => by rcases q9 with q9 | q9; exact s.2 q9; omega)) (fun _ _ s => s))
              replace R3 := hidK (R3.out.keep (fun k hk s => HK.out.block k hk (fun q9 => by rcases q9 with q9 | q9; exact s.2 q9; omega)) (fun _ _ s => s))
              replace Br := hidK ((HK.out.block (w.heap.size + 1) (by omega) (fun s => by rcases s with s | s <;> omega)).trans Br.out)
              replace Bk := BkR
              replace BoX := Bo
              replace HBX := HBW
              have hb3X3 : b3 < wr.heap.size := lt_of_some BoX.out
              clear BkR Bo HBW h5 hR HV HO HK hl5 hkl hk hKs hXs
              generalize wr = X3 at *
              obtain ⟨k0, k1, k2, k3, k4, k5⟩ := cs6 Bk.out
              obtain ⟨o0, o1, o2, o3, o4, o5⟩ := cs6 BoX.out
              obtain ⟨r0, r1, r2, r3, r4, r5⟩ := cs6 Br.out
              have hXs := HBX.out.size
              have fr0 := froK Br.out 0
              have fr1 := froK Br.out 1
              have fr2 := froK Br.out 2
              have fr3 := froK Br.out 3
              have fr4 := froK Br.out 4
              have fr5 := froK Br.out 5
              go_wp2
              refine bodyPost_ret (v := .agg #[.slice p1 l1 q1, .slice p2 l2 q2, .slice p3 l3 q3, .slice p4 l4 q4, .slice p5 l5 q5, .int .i64 c.now]) (by simp [results, Tryz.results30, go_sem, *]) rfl ⟨⟨p1, l1, q1, p2, l2, q2, p3, l3, q3, p4, l4, q4, p5, l5, q5⟩, rfl, ⟨?_, ?_, ?_, ?_, ?_⟩, set_below (show w.heap.size ≤ w.heap.size + 1 by omega) (set_below (show w.heap.size ≤ w.heap.size + 1 by omega) (set_below (show w.heap.size ≤ w.heap.size + 1 by omega) (set_below (show w.heap.size ≤ w.heap.size + 1 by omega) (set_below (show w.heap.size ≤ w.heap.size + 1 by omega) (set_below (show w.heap.size ≤ w.heap.size + 1 by omega) (HBX.out))))))⟩
              · exact (R1.out.keep (S' := fun k => w.heap.size ≤ k) (fun k hk s => put6_ne (by have s1 : X.heap.size ≤ k := s.1; omega)) (fun k _ s => by have s1 : X.heap.size ≤ k := s.1; show w.heap.size ≤ k; omega))
              · exact (R2.out.keep (S' := fun k => w.heap.size ≤ k) (fun k hk s => put6_ne (by have s1 : W.heap.size ≤ k := s.1; omega)) (fun k _ s => by have s1 : W.heap.size ≤ k := s.1; show w.heap.size ≤ k; omega))
              · exact (R3.out.keep (S' := fun k => w.heap.size ≤ k) (fun k hk s => put6_ne (by have s1 : X1.heap.size ≤ k := s.1; omega)) (fun k _ s => by have s1 : X1.heap.size ≤ k := s.1; show w.heap.size ≤ k; omega))
              · exact (R4.out.keep (S' := fun k => w.heap.size ≤ k) (fun k hk s => put6_ne (by have s1 : W.heap.size ≤ k := s.1; omega)) (fun k _ s => by have s1 : W.heap.size ≤ k := s.1; show w.heap.size ≤ k; omega))
              · exact (R5.out.keep (S' := fun k => w.heap.size ≤ k) (fun k hk s => put6_ne (by have s1 : X2.heap.size ≤ k := s.1; omega)) (fun k _ s => by have s1 : X2.heap.size ≤ k := s.1; show w.heap.size ≤ k; omega))

theorem take_flat {m : Nat} {vss : List (List Value)} (hl : ∀ (j : Nat) vs, vss[j]? = some vs → vs.length = m) {k : Nat} (hk : k ≤ vss.length) : (vss.take k).flatten.length = k * m := by
  rw [flat_len (m := m) (fun j vs h => ?_), List.length_take, Nat.min_eq_left hk]
  rw [List.getElem?_take] at h
  split at h
  · exact hl j vs h
  · cases h
theorem drop_flat {m : Nat} {vss : List (List Value)} (hl : ∀ (j : Nat) vs, vss[j]? = some vs → vs.length = m) {k : Nat} : (vss.drop k).flatten.length = (vss.length - k) * m := by
  rw [flat_len (m := m) (fun j vs h => ?_), List.length_drop]
  rw [List.getElem?_drop] at h
  exact hl _ vs h
theorem take_at {vss : List (List Value)} {k i : Nat} {u : Value} (h : (vss.take k).flatten[i]? = some u) : vss.flatten[i]? = some u := by
  have h1 : vss.flatten = (vss.take k).flatten ++ (vss.drop k).flatten := by rw [← List.flatten_append, List.take_append_drop]
  rw [h1, List.getElem?_append_left (List.getElem?_eq_some_iff.1 h).1]
  exact h
theorem drop_at {m : Nat} {vss : List (List Value)} (hl : ∀ (j : Nat) vs, vss[j]? = some vs → vs.length = m) {k i : Nat} {u : Value} (hk : k ≤ vss.length) (h : (vss.drop k).flatten[i]? = some u) : vss.flatten[k * m + i]? = some u := by
  have h1 : vss.flatten = (vss.take k).flatten ++ (vss.drop k).flatten := by rw [← List.flatten_append, List.take_append_drop]
  rw [h1, List.getElem?_append_right (by rw [take_flat hl hk]; omega), take_flat hl hk, Nat.add_sub_cancel_left]
  exact h
theorem mem_take_one {P : Value → Prop} {vss : List (List Value)} (h : ∀ u ∈ vss.flatten, P u) (k : Nat) : (∀ u ∈ (vss.take k).flatten, P u) ∧ ∀ u ∈ (vss.drop k).flatten, P u := by
  have h1 : vss.flatten = (vss.take k).flatten ++ (vss.drop k).flatten := by rw [← List.flatten_append, List.take_append_drop]
  exact ⟨fun u hu => h u (by rw [h1]; exact List.mem_append_left _ hu), fun u hu => h u (by rw [h1]; exact List.mem_append_right _ hu)⟩

set_option maxRecDepth 100000 in
set_option maxHeartbeats 3200000 in
theorem sill_any (p : Int) (w : World) :
    Calls Tryz.prog 27 #[.int .i64 p] w fun e w' => e = .returned (.agg #[.slice none 0 0, .slice none 0 0, .slice none 0 0, .slice none 0 0, .slice none 0 0, .int .i64 0, .string ⟨#[]⟩, .int .i64 p]) ∧ Below w.heap.size w w' := by
  go_enter Tryz.func27, Tryz.ntmps27
  go_wp2
  exact bodyPost_ret (v := .agg #[.slice none 0 0, .slice none 0 0, .slice none 0 0, .slice none 0 0, .slice none 0 0, .int .i64 0, .string ⟨#[]⟩, .int .i64 p]) (by simp [results, Tryz.results27, go_sem]) rfl ⟨rfl, below1 _ _⟩

theorem run_append_empty {w : World} {base : Nat} {t ty e : TypeId} {i : TypeInfo} {size : Nat} (ht : Tryz.prog.underlying t = some (.slice e)) (hi : Tryz.prog.info? e = some i) {v : Value} {n : Nat} {xs : List Value} (hown : w.ownsRow base e size v n xs) (ax : Option Addr) (cx : Nat) :
    (Builtin.append_ #[t, t] ty #[v, .slice ax 0 cx]).run Tryz.prog w = .ok v w := by
  rcases hown.2 with ⟨rfl, rfl⟩ | ⟨g, cap, cur, rfl, _, _, hnc, _⟩
  · cases ax <;> simp [Builtin.append_, run_underlying ht, sizeOf, typeInfo, hi, Builtin.lenOf, Builtin.firstCells, loadCells, loadCellsFrom]
  · cases ax <;> simp [Builtin.append_, run_underlying ht, sizeOf, typeInfo, hi, Builtin.lenOf, Builtin.firstCells, hnc, storeCells, loadCells, loadCellsFrom]
theorem wpList_append_any {w : World} {ops : Array Oper} {rest : List Oper} {o : Oper} {a : Act} {Q : Exit → Act → World → Prop} (hgd : o.guard = none) (s x : Operand) (t : TypeId)
    (ho : o.op = .call { callee := .builtin .append, args := #[s, x], argTypes := #[t, t] })
    (base : Nat) (e : TypeId) (i : TypeInfo) (z : Value) (size bytes : Nat) (ht : Tryz.prog.underlying t = some (.slice e)) (hi : Tryz.prog.info? e = some i) (hz : i.zero = some z)
    (hsize : i.size = size) (hby : i.bytes = bytes) (hzs : z.cells.size = size) (hsz : 0 < size)
    (v : Value) (n : Nat) (xs : List Value) (hs : a.eval s = v) (hown : w.ownsRow base e size v n xs)
    (ax : Option Addr) (l c : Nat) (news : List Value) (hx : a.eval x = .slice ax l c) (hl : news.length = l * size) (hnews : ∀ (j : Nat) u, news[j]? = some u → ∃ ad : Addr, ax = some ad ∧ w.cell? (ad.add j) = some u) (h1 : ∀ u ∈ news, u.oneCell' = true)
    (h63 : n + l ≤ maxLen) (hbytes : (n + l) * bytes ≤ 140737488355328) (hbase : base ≤ w.heap.size)
    (h : ∀ v' w', w'.ownsRow base e size v' (n + l) (xs ++ news) → w.grownBy w' v.ownBlock → wpList Tryz.prog ops Q rest (a.put o.dst v') w') : wpList Tryz.prog ops Q (o :: rest) a w := by
  rcases news with _ | ⟨u, news⟩
  · have hl0 : l = 0 := by
      rcases Nat.eq_zero_or_pos l with e | e
      · exact e
      · have := Nat.mul_pos e hsz
        simp at hl
        omega
    subst hl0
    refine wpList_plain hgd fun K hK => ?_
    have hr := run_append_empty (ty := o.type) ht hi hown ax c
    unfold Oper.wp execOp
    simp only [ho, resolve, invoke, builtin, Sem.run_bind, Sem.run_pure, Result.andThen_ok, List.map_toArray, List.map_cons, List.map_nil, hs, hx, hr]
    exact hK _ _ (h v w (by simpa using hown) (World.grownBy.refl _ _))
  · obtain ⟨ad, rfl, _⟩ := hnews 0 u rfl
    exact wpList_append_two hgd s x t t ho base e e i z size bytes ht ht hi hz hsize hby hzs hsz v n xs hs hown ad l c (u :: news) hx hl (fun j y hy => by
      obtain ⟨ad', e, h2⟩ := hnews j y hy
      cases e
      exact h2) h1 h63 hbytes hbase h

set_option maxHeartbeats 1600000 in
theorem scode_there (many most : Nat) (w : World) : Calls Tryz.prog 28 #[.bool true, .int .i64 many, .int .i64 most] w fun e w' => e = .returned (.int .i64 7) ∧ Below w.heap.size w w' := by
  go_enter Tryz.func28, Tryz.ntmps28
  go_wp2
  go_ret
  exact ⟨rfl, Below.refl _ _⟩

set_option maxHeartbeats 1600000 in
theorem scode_full (many most : Nat) (hm : most ≤ many) (w : World) : Calls Tryz.prog 28 #[.bool false, .int .i64 many, .int .i64 most] w fun e w' => e = .returned (.int .i64 9) ∧ Below w.heap.size w w' := by
  have h1 : ¬ ((many : Int) < (most : Int)) := by omega
  go_enter Tryz.func28, Tryz.ntmps28
  go_wp2
  go_ret
  exact ⟨rfl, Below.refl _ _⟩

set_option maxHeartbeats 1600000 in
theorem scode_ok (many most : Nat) (hm : many < most) (w : World) : Calls Tryz.prog 28 #[.bool false, .int .i64 many, .int .i64 most] w fun e w' => e = .returned (.int .i64 0) ∧ Below w.heap.size w w' := by
  have h1 : (many : Int) < (most : Int) := by omega
  go_enter Tryz.func28, Tryz.ntmps28
  go_wp2
  go_ret
  exact ⟨rfl, Below.refl _ _⟩

theorem put8 {w : World} {b : Nat} {T : TypeId} {u0 u1 u2 u3 u4 u5 u6 u7 v0 v1 v2 v3 v4 v5 v6 v7 : Value} (h : w.heap[b]? = some (.cells #[u0, u1, u2, u3, u4, u5, u6, u7] T (0, 0))) : ((((((((w.setCell ⟨b, 0, none⟩ v0).setCell ⟨b, 1, none⟩ v1).setCell ⟨b, 2, none⟩ v2).setCell ⟨b, 3, none⟩ v3).setCell ⟨b, 4, none⟩ v4).setCell ⟨b, 5, none⟩ v5).setCell ⟨b, 6, none⟩ v6).setCell ⟨b, 7, none⟩ v7).heap[b]? = some (.cells #[v0, v1, v2, v3, v4, v5, v6, v7] T (0, 0)) := by
  have h0 : (w.setCell ⟨b, 0, none⟩ v0).heap[b]? = some (.cells #[v0, u1, u2, u3, u4, u5, u6, u7] T (0, 0)) := block_set h v0
  have h1 : ((w.setCell ⟨b, 0, none⟩ v0).setCell ⟨b, 1, none⟩ v1).heap[b]? = some (.cells #[v0, v1, u2, u3, u4, u5, u6, u7] T (0, 0)) := block_set h0 v1
  have h2 : (((w.setCell ⟨b, 0, none⟩ v0).setCell ⟨b, 1, none⟩ v1).setCell ⟨b, 2, none⟩ v2).heap[b]? = some (.cells #[v0, v1, v2, u3, u4, u5, u6, u7] T (0, 0)) := block_set h1 v2
  have h3 : ((((w.setCell ⟨b, 0, none⟩ v0).setCell ⟨b, 1, none⟩ v1).setCell ⟨b, 2, none⟩ v2).setCell ⟨b, 3, none⟩ v3).heap[b]? = some (.cells #[v0, v1, v2, v3, u4, u5, u6, u7] T (0, 0)) := block_set h2 v3
  have h4 : (((((w.setCell ⟨b, 0, none⟩ v0).setCell ⟨b, 1, none⟩ v1).setCell ⟨b, 2, none⟩ v2).setCell ⟨b, 3, none⟩ v3).setCell ⟨b, 4, none⟩ v4).heap[b]? = some (.cells #[v0, v1, v2, v3, v4, u5, u6, u7] T (0, 0)) := block_set h3 v4
  have h5 : ((((((w.setCell ⟨b, 0, none⟩ v0).setCell ⟨b, 1, none⟩ v1).setCell ⟨b, 2, none⟩ v2).setCell ⟨b, 3, none⟩ v3).setCell ⟨b, 4, none⟩ v4).setCell ⟨b, 5, none⟩ v5).heap[b]? = some (.cells #[v0, v1, v2, v3, v4, v5, u6, u7] T (0, 0)) := block_set h4 v5
  have h6 : (((((((w.setCell ⟨b, 0, none⟩ v0).setCell ⟨b, 1, none⟩ v1).setCell ⟨b, 2, none⟩ v2).setCell ⟨b, 3, none⟩ v3).setCell ⟨b, 4, none⟩ v4).setCell ⟨b, 5, none⟩ v5).setCell ⟨b, 6, none⟩ v6).heap[b]? = some (.cells #[v0, v1, v2, v3, v4, v5, v6, u7] T (0, 0)) := block_set h5 v6
  exact block_set h6 v7
theorem put8_ne {w : World} {b k : Nat} {v0 v1 v2 v3 v4 v5 v6 v7 : Value} (hk : ¬ k = b) : ((((((((w.setCell ⟨b, 0, none⟩ v0).setCell ⟨b, 1, none⟩ v1).setCell ⟨b, 2, none⟩ v2).setCell ⟨b, 3, none⟩ v3).setCell ⟨b, 4, none⟩ v4).setCell ⟨b, 5, none⟩ v5).setCell ⟨b, 6, none⟩ v6).setCell ⟨b, 7, none⟩ v7).heap[k]? = w.heap[k]? := by
  rw [Below.heap_setCell _ _ _ _ hk, Below.heap_setCell _ _ _ _ hk, Below.heap_setCell _ _ _ _ hk, Below.heap_setCell _ _ _ _ hk, Below.heap_setCell _ _ _ _ hk, Below.heap_setCell _ _ _ _ hk, Below.heap_setCell _ _ _ _ hk, Below.heap_setCell _ _ _ _ hk]
def BoxF (B : Nat) : Fact := fun v w => ∃ b, v = .pointer (some ⟨b, 0, none⟩) ∧ B ≤ b ∧ w.heap[b]? = some (.cells #[.slice none 0 0, .slice none 0 0, .slice none 0 0, .slice none 0 0, .slice none 0 0, .int .i64 0, .string ⟨#[]⟩, .int .i64 0] 41 (0, 0))
theorem BoxF.mono (B : Nat) : Fact.Mono (BoxF B) := by
  rintro v w w' ⟨b, h1, h2, h3⟩ hb
  exact ⟨b, h1, h2, (hb.block _ (lt_of_some h3)).trans h3⟩
theorem ClOwn.fr {w : World} {d : Ad} {c : Cr} {S : Nat → Prop} (h : ClOwn w d c S) : ClFr w d c (fun _ => True) := by
  obtain ⟨P, h⟩ := h
  exact ⟨h.n.into (fun _ _ _ => trivial), h.k.into (fun _ _ _ => trivial), h.v.into (fun _ _ _ => trivial), h.x.into (fun _ _ _ => trivial), h.p.into (fun _ _ _ => trivial)⟩
theorem ClFr.below {w w' : World} {d : Ad} {c : Cr} {S : Nat → Prop} (h : ClFr w d c S) (hb : Below w.heap.size w w') : ClFr w' d c S := ⟨h.n.below hb, h.k.below hb, h.v.below hb, h.x.below hb, h.p.below hb⟩
theorem ClFr.past {w w' : World} {d : Ad} {c : Cr} {S : Nat → Prop} (h : ClFr w d c S) {b : Nat} {cs : Array Value} (hb : w.heap[b]? = some (.cells cs 41 (0, 0))) (hk : ∀ k, ¬ k = b → w'.heap[k]? = w.heap[k]?) : ClFr w' d c S :=
  ⟨(h.n.away hb (by decide) (by decide)).keep (fun k _ s => hk k s.2) (fun _ _ s => s.1), (h.k.away hb (by decide) (by decide)).keep (fun k _ s => hk k s.2) (fun _ _ s => s.1), (h.v.away hb (by decide) (by decide)).keep (fun k _ s => hk k s.2) (fun _ _ s => s.1), (h.x.away hb (by decide) (by decide)).keep (fun k _ s => hk k s.2) (fun _ _ s => s.1), (h.p.away hb (by decide) (by decide)).keep (fun k _ s => hk k s.2) (fun _ _ s => s.1)⟩
def OutF (Is : Co → Prop) (w : World) (e : Ending) (w' : World) : Prop := ∃ g o, e = .returned (.agg #[.slice g.a1 g.l1 g.c1, .slice g.a2 g.l2 g.c2, .slice g.a3 g.l3 g.c3, .slice g.a4 g.l4 g.c4, .slice g.a5 g.l5 g.c5, .int .i64 o.c.now, .string o.n, .int .i64 o.p]) ∧ Is o ∧ ClFr w' g o.c.raw (fun _ => True) ∧ Below w.heap.size w w'
def AnsF (Is : Co → Prop) : Fact := fun v w => ∃ g o, v = .agg #[.slice g.a1 g.l1 g.c1, .slice g.a2 g.l2 g.c2, .slice g.a3 g.l3 g.c3, .slice g.a4 g.l4 g.c4, .slice g.a5 g.l5 g.c5, .int .i64 o.c.now, .string o.n, .int .i64 o.p] ∧ Is o ∧ ClFr w g o.c.raw (fun _ => True)
theorem AnsF.mono (Is : Co → Prop) : Fact.Mono (AnsF Is) := by
  rintro v w w' ⟨g, o, h1, h2, h3⟩ hb
  exact ⟨g, o, h1, h2, h3.below hb⟩
def OwF (B : Nat) (Is : Co → Prop) : Fact := fun v w => ∃ g o, v = .agg #[.slice g.a1 g.l1 g.c1, .slice g.a2 g.l2 g.c2, .slice g.a3 g.l3 g.c3, .slice g.a4 g.l4 g.c4, .slice g.a5 g.l5 g.c5, .int .i64 o.c.now, .string o.n, .int .i64 o.p] ∧ Is o ∧ ClOwn w g o.c.raw (fun k => B ≤ k)
theorem OwF.mono (B : Nat) (Is : Co → Prop) : Fact.Mono (OwF B Is) := by
  rintro v w w' ⟨g, o, h1, h2, h3⟩ hb
  exact ⟨g, o, h1, h2, h3.below hb⟩
theorem ClOwn.away {w : World} {d : Ad} {c : Cr} {S : Nat → Prop} (h : ClOwn w d c S) {b : Nat} {cs : Array Value} (hb : w.heap[b]? = some (.cells cs 41 (0, 0))) : ClOwn w d c (fun k => S k ∧ ¬ k = b) := by
  obtain ⟨P, h⟩ := h
  exact ⟨P, (h.n.away hb (by decide) (by decide)).into (fun k _ s => ⟨⟨s.1.1, s.2⟩, s.1.2⟩), (h.k.away hb (by decide) (by decide)).into (fun k _ s => ⟨⟨s.1.1, s.2⟩, s.1.2⟩), (h.v.away hb (by decide) (by decide)).into (fun k _ s => ⟨⟨s.1.1, s.2⟩, s.1.2⟩), (h.x.away hb (by decide) (by decide)).into (fun k _ s => ⟨⟨s.1.1, s.2⟩, s.1.2⟩), (h.p.away hb (by decide) (by decide)).into (fun k _ s => ⟨⟨s.1.1, s.2⟩, s.1.2⟩)⟩

set_option maxRecDepth 100000 in
set_option maxHeartbeats 12800000 in
theorem saddX_any (d : Ad) (c : Cl) (x : Xd) (w : World) (hr : ClRow w d c.raw) (z0 : x.n.size ≤ 9223372036854775807) (z2 : x.k.size ≤ 9223372036854775807) (z4 : x.v.size ≤ 9223372036854775807) :
    Calls Tryz.prog 17 #[.agg #[.slice d.a1 d.l1 d.c1, .slice d.a2 d.l2 d.c2, .slice d.a3 d.l3 d.c3, .slice d.a4 d.l4 d.c4, .slice d.a5 d.l5 d.c5, .int .i64 c.now], .agg #[.string x.n, .int .i64 x.z, .string x.k, .bool x.x, .string x.v]] w (OutF (AddClaimIs c x) w) := by
  obtain ⟨a1, l1, y1, a2, l2, y2, a3, l3, y3, a4, l4, y4, a5, l5, y5⟩ := d
  dsimp only
  have HR := hidK hr
  have hl1 : c.ns.length = l1 := by simpa using (show (c.ns.map ndF).length = l1 from hr.n.1)
  have hm1 : l1 ≤ 9223372036854775807 := Nat.le_trans hr.n.2.1 hr.n.2.2.1
  have hl2 : c.ks.length = l2 := by simpa using (show (c.ks.map kdF).length = l2 from hr.k.1)
  have hm2 : l2 ≤ 9223372036854775807 := Nat.le_trans hr.k.2.1 hr.k.2.2.1
  have hl3 : c.vs.length = l3 := by simpa using (show (c.vs.map vdF).length = l3 from hr.v.1)
  have hm3 : l3 ≤ 9223372036854775807 := Nat.le_trans hr.v.2.1 hr.v.2.2.1
  have hl4 : c.xs.length = l4 := by simpa using (show (c.xs.map xdF).length = l4 from hr.x.1)
  have hm4 : l4 ≤ 9223372036854775807 := Nat.le_trans hr.x.2.1 hr.x.2.2.1
  have hl5 : c.ps.length = l5 := by simpa using (show (c.ps.map pdF).length = l5 from hr.p.1)
  have hm5 : l5 ≤ 9223372036854775807 := Nat.le_trans hr.p.2.1 hr.p.2.2.1
  clear hr
  have HB := hidK (Below.refl w.heap.size w)
  go_enter Tryz.func17, Tryz.ntmps17
  go_wp2_with fail
  refine (sright_any ⟨a1, l1, y1, a2, l2, y2, a3, l3, y3, a4, l4, y4, a5, l5, y5⟩ c _ (HR.out.below (HB.out.trans ((below3 _ _ _ _).mono HB.out.size)))).mono ?_
  rintro e w1 ⟨r, rfl, hi, hb⟩
  obtain ⟨HA0, HA1, HA2, hbx⟩ := slots3 hb
  have Bk := hidK HA0
  have Bx := hidK HA1
  have Br := hidK HA2
  replace HB := hidK (HB.out.trans (hbx.mono HB.out.size))
  clear hb hbx HA0 HA1 HA2
  have HI := hidK hi
  clear hi
  cases r
  · have HV : Hid (AddClaimIs c x (co0 1)) := .inl ⟨1, fun h => (by have := HI.out.2 h.1; cases this), rfl⟩
    obtain ⟨k0, k1, k2, k3, k4, k5⟩ := cs6 Bk.out
    have ltk_1 := lt_of_some Bk.out
    obtain ⟨x0, x1, x2, x3, x4⟩ := cs5 Bx.out
    have ltx_1 := lt_of_some Bx.out
    go_wp2_with fail
    refine (sill_any 1 _).mono ?_
    rintro e w2 ⟨rfl, hb⟩
    clear k0 k1 k2 k3 k4 k5 ltk_1 x0 x1 x2 x3 x4 ltx_1
    replace Bk := hidK ((hb.block _ (lt_of_some Bk.out)).trans Bk.out)
    replace Bx := hidK ((hb.block _ (lt_of_some Bx.out)).trans Bx.out)
    replace Br := hidK ((hb.block _ (lt_of_some Br.out)).trans Br.out)
    replace HB := hidK (HB.out.trans (hb.mono HB.out.size))
    clear hb
    obtain ⟨r0, r1, r2, r3, r4, r5, r6, r7⟩ := cs8 Br.out
    have ltr_2 := lt_of_some Br.out
    have fr0 : w2.frozen? ⟨w.heap.size + 1 + 1, 0, none⟩ = false := froK Br.out 0
    have fr1 : w2.frozen? ⟨w.heap.size + 1 + 1, 1, none⟩ = false := froK Br.out 1
    have fr2 : w2.frozen? ⟨w.heap.size + 1 + 1, 2, none⟩ = false := froK Br.out 2
    have fr3 : w2.frozen? ⟨w.heap.size + 1 + 1, 3, none⟩ = false := froK Br.out 3
    have fr4 : w2.frozen? ⟨w.heap.size + 1 + 1, 4, none⟩ = false := froK Br.out 4
    have fr5 : w2.frozen? ⟨w.heap.size + 1 + 1, 5, none⟩ = false := froK Br.out 5
    have fr6 : w2.frozen? ⟨w.heap.size + 1 + 1, 6, none⟩ = false := froK Br.out 6
    have fr7 : w2.frozen? ⟨w.heap.size + 1 + 1, 7, none⟩ = false := froK Br.out 7
    have hrl : w.heap.size + 1 + 1 < w2.heap.size := lt_of_some Br.out
    go_wp2
    exact bodyPost_ret (v := .agg #[.slice none 0 0, .slice none 0 0, .slice none 0 0, .slice none 0 0, .slice none 0 0, .int .i64 0, .string ⟨#[]⟩, .int .i64 1]) (by simp [results, Tryz.results17, go_sem, *]) rfl ⟨ad0, co0 1, rfl, HV.out, (own0 _ (fun _ => True)).fr, set_below (show w.heap.size ≤ w.heap.size + 1 + 1 by omega) (set_below (show w.heap.size ≤ w.heap.size + 1 + 1 by omega) (set_below (show w.heap.size ≤ w.heap.size + 1 + 1 by omega) (set_below (show w.heap.size ≤ w.heap.size + 1 + 1 by omega) (set_below (show w.heap.size ≤ w.heap.size + 1 + 1 by omega) (set_below (show w.heap.size ≤ w.heap.size + 1 + 1 by omega) (set_below (show w.heap.size ≤ w.heap.size + 1 + 1 by omega) (set_below (show w.heap.size ≤ w.heap.size + 1 + 1 by omega) (HB.out))))))))⟩
  have HT := hidK (HI.out.1 (by first | trivial | rfl))
  clear HI
  obtain ⟨k0, k1, k2, k3, k4, k5⟩ := cs6 Bk.out
  have ltk_1 := lt_of_some Bk.out
  obtain ⟨x0, x1, x2, x3, x4⟩ := cs5 Bx.out
  have ltx_1 := lt_of_some Bx.out
  go_wp2_with fail
  refine (sclaim_any x.n x.z x.k x.x x.v _ z0 z2 z4).mono ?_
  rintro e w2 ⟨r, rfl, hi, hb⟩
  clear k0 k1 k2 k3 k4 k5 ltk_1 x0 x1 x2 x3 x4 ltx_1
  replace Bk := hidK ((hb.block _ (lt_of_some Bk.out)).trans Bk.out)
  replace Bx := hidK ((hb.block _ (lt_of_some Bx.out)).trans Bx.out)
  replace Br := hidK ((hb.block _ (lt_of_some Br.out)).trans Br.out)
  replace HB := hidK (HB.out.trans (hb.mono HB.out.size))
  clear hb
  have HI := hidK hi
  clear hi
  cases r
  · have HV : Hid (AddClaimIs c x (co0 1)) := .inl ⟨1, fun h => (by have := HI.out.2 h.2.1; cases this), rfl⟩
    obtain ⟨k0, k1, k2, k3, k4, k5⟩ := cs6 Bk.out
    have ltk_2 := lt_of_some Bk.out
    obtain ⟨x0, x1, x2, x3, x4⟩ := cs5 Bx.out
    have ltx_2 := lt_of_some Bx.out
    go_wp2_with fail
    refine (sill_any 1 _).mono ?_
    rintro e w3 ⟨rfl, hb⟩
    clear k0 k1 k2 k3 k4 k5 ltk_2 x0 x1 x2 x3 x4 ltx_2
    replace Bk := hidK ((hb.block _ (lt_of_some Bk.out)).trans Bk.out)
    replace Bx := hidK ((hb.block _ (lt_of_some Bx.out)).trans Bx.out)
    replace Br := hidK ((hb.block _ (lt_of_some Br.out)).trans Br.out)
    replace HB := hidK (HB.out.trans (hb.mono HB.out.size))
    clear hb
    obtain ⟨r0, r1, r2, r3, r4, r5, r6, r7⟩ := cs8 Br.out
    have ltr_3 := lt_of_some Br.out
    have fr0 : w3.frozen? ⟨w.heap.size + 1 + 1, 0, none⟩ = false := froK Br.out 0
    have fr1 : w3.frozen? ⟨w.heap.size + 1 + 1, 1, none⟩ = false := froK Br.out 1
    have fr2 : w3.frozen? ⟨w.heap.size + 1 + 1, 2, none⟩ = false := froK Br.out 2
    have fr3 : w3.frozen? ⟨w.heap.size + 1 + 1, 3, none⟩ = false := froK Br.out 3
    have fr4 : w3.frozen? ⟨w.heap.size + 1 + 1, 4, none⟩ = false := froK Br.out 4
    have fr5 : w3.frozen? ⟨w.heap.size + 1 + 1, 5, none⟩ = false := froK Br.out 5
    have fr6 : w3.frozen? ⟨w.heap.size + 1 + 1, 6, none⟩ = false := froK Br.out 6
    have fr7 : w3.frozen? ⟨w.heap.size + 1 + 1, 7, none⟩ = false := froK Br.out 7
    have hrl : w.heap.size + 1 + 1 < w3.heap.size := lt_of_some Br.out
    go_wp2
    exact bodyPost_ret (v := .agg #[.slice none 0 0, .slice none 0 0, .slice none 0 0, .slice none 0 0, .slice none 0 0, .int .i64 0, .string ⟨#[]⟩, .int .i64 1]) (by simp [results, Tryz.results17, go_sem, *]) rfl ⟨ad0, co0 1, rfl, HV.out, (own0 _ (fun _ => True)).fr, set_below (show w.heap.size ≤ w.heap.size + 1 + 1 by omega) (set_below (show w.heap.size ≤ w.heap.size + 1 + 1 by omega) (set_below (show w.heap.size ≤ w.heap.size + 1 + 1 by omega) (set_below (show w.heap.size ≤ w.heap.size + 1 + 1 by omega) (set_below (show w.heap.size ≤ w.heap.size + 1 + 1 by omega) (set_below (show w.heap.size ≤ w.heap.size + 1 + 1 by omega) (set_below (show w.heap.size ≤ w.heap.size + 1 + 1 by omega) (set_below (show w.heap.size ≤ w.heap.size + 1 + 1 by omega) (HB.out))))))))⟩
  have HI2 := hidK (HI.out.1 (by first | trivial | rfl))
  clear HI
  by_cases he : x.v = ⟨#[]⟩
  rotate_left
  · have hq := isE_no he
    have HV : Hid (AddClaimIs c x (co0 1)) := .inl ⟨1, fun h => he h.2.2, rfl⟩
    obtain ⟨k0, k1, k2, k3, k4, k5⟩ := cs6 Bk.out
    have ltk_2 := lt_of_some Bk.out
    obtain ⟨x0, x1, x2, x3, x4⟩ := cs5 Bx.out
    have ltx_2 := lt_of_some Bx.out
    go_wp2_with fail
    refine (sill_any 1 _).mono ?_
    rintro e w3 ⟨rfl, hb⟩
    clear k0 k1 k2 k3 k4 k5 ltk_2 x0 x1 x2 x3 x4 ltx_2
    replace Bk := hidK ((hb.block _ (lt_of_some Bk.out)).trans Bk.out)
    replace Bx := hidK ((hb.block _ (lt_of_some Bx.out)).trans Bx.out)
    replace Br := hidK ((hb.block _ (lt_of_some Br.out)).trans Br.out)
    replace HB := hidK (HB.out.trans (hb.mono HB.out.size))
    clear hb
    obtain ⟨r0, r1, r2, r3, r4, r5, r6, r7⟩ := cs8 Br.out
    have ltr_3 := lt_of_some Br.out
    have fr0 : w3.frozen? ⟨w.heap.size + 1 + 1, 0, none⟩ = false := froK Br.out 0
    have fr1 : w3.frozen? ⟨w.heap.size + 1 + 1, 1, none⟩ = false := froK Br.out 1
    have fr2 : w3.frozen? ⟨w.heap.size + 1 + 1, 2, none⟩ = false := froK Br.out 2
    have fr3 : w3.frozen? ⟨w.heap.size + 1 + 1, 3, none⟩ = false := froK Br.out 3
    have fr4 : w3.frozen? ⟨w.heap.size + 1 + 1, 4, none⟩ = false := froK Br.out 4
    have fr5 : w3.frozen? ⟨w.heap.size + 1 + 1, 5, none⟩ = false := froK Br.out 5
    have fr6 : w3.frozen? ⟨w.heap.size + 1 + 1, 6, none⟩ = false := froK Br.out 6
    have fr7 : w3.frozen? ⟨w.heap.size + 1 + 1, 7, none⟩ = false := froK Br.out 7
    have hrl : w.heap.size + 1 + 1 < w3.heap.size := lt_of_some Br.out
    go_wp2
    exact bodyPost_ret (v := .agg #[.slice none 0 0, .slice none 0 0, .slice none 0 0, .slice none 0 0, .slice none 0 0, .int .i64 0, .string ⟨#[]⟩, .int .i64 1]) (by simp [results, Tryz.results17, go_sem, *]) rfl ⟨ad0, co0 1, rfl, HV.out, (own0 _ (fun _ => True)).fr, set_below (show w.heap.size ≤ w.heap.size + 1 + 1 by omega) (set_below (show w.heap.size ≤ w.heap.size + 1 + 1 by omega) (set_below (show w.heap.size ≤ w.heap.size + 1 + 1 by omega) (set_below (show w.heap.size ≤ w.heap.size + 1 + 1 by omega) (set_below (show w.heap.size ≤ w.heap.size + 1 + 1 by omega) (set_below (show w.heap.size ≤ w.heap.size + 1 + 1 by omega) (set_below (show w.heap.size ≤ w.heap.size + 1 + 1 by omega) (set_below (show w.heap.size ≤ w.heap.size + 1 + 1 by omega) (HB.out))))))))⟩
  have hq := isE_y he
  have HO : Hid (RightI c ∧ xdOk x ∧ x.v = ⟨#[]⟩) := ⟨HT.out, HI2.out, he⟩
  clear HI2 he
  obtain ⟨k0, k1, k2, k3, k4, k5⟩ := cs6 Bk.out
  have ltk_2 := lt_of_some Bk.out
  obtain ⟨x0, x1, x2, x3, x4⟩ := cs5 Bx.out
  have ltx_2 := lt_of_some Bx.out
  go_wp2_with fail
  clear k0 k1 k2 k3 k4 k5 ltk_2 x0 x1 x2 x3 x4 ltx_2
  clear hq
  have hri : RisBy Xd.n c.xs := HT.out.2.1.2.2.2.1.2.2
  have HRI := hidK hri
  clear hri
  have hlen2 : c.xs.length = l4 := hl4
  cases hh : hit Xd.n c.xs x.n
  rotate_left
  · obtain ⟨y, hy, hyn⟩ := hit_yes hh
    have HY := hidK hy
    have HYN := hidK hyn
    have HV : Hid (AddClaimIs c x (co0 7)) := .inl ⟨3, ⟨HO.out, hh⟩, rfl⟩
    clear hy hyn hh
    obtain ⟨j, hj⟩ : ∃ j, j = pl Xd.n c.xs x.n := ⟨_, rfl⟩
    rw [← hj] at HY
    clear hj
    have hj0 : ¬ (j : Int) < 0 := by omega
    have Gk : Hid (w2.heap[w.heap.size]? = some (.cells #[.slice a1 l1 y1, .slice a2 l2 y2, .slice a3 l3 y3, .slice a4 l4 y4, .slice a5 l5 y5, .int .i64 c.now] 39 (0, 0))) := Bk.out
    have Gx : Hid (w2.heap[w.heap.size + 1]? = some (.cells #[.string x.n, .int .i64 x.z, .string x.k, .bool x.x, .string x.v] 55 (0, 0))) := Bx.out
    have Gr : Hid (w2.heap[w.heap.size + 1 + 1]? = some (.cells #[.slice none 0 0, .slice none 0 0, .slice none 0 0, .slice none 0 0, .slice none 0 0, .int .i64 0, .string ⟨#[]⟩, .int .i64 0] 41 (0, 0))) := Br.out
    have HW : Hid (Below w.heap.size w w2) := HB.out
    have k0 : ∀ q : Wd w2, q.w.cell? ⟨w.heap.size, 0, none⟩ = some (.slice a1 l1 y1) := fun q => q.slot Gk.out rfl
    have k1 : ∀ q : Wd w2, q.w.cell? ⟨w.heap.size, 1, none⟩ = some (.slice a2 l2 y2) := fun q => q.slot Gk.out rfl
    have k2 : ∀ q : Wd w2, q.w.cell? ⟨w.heap.size, 2, none⟩ = some (.slice a3 l3 y3) := fun q => q.slot Gk.out rfl
    have k3 : ∀ q : Wd w2, q.w.cell? ⟨w.heap.size, 3, none⟩ = some (.slice a4 l4 y4) := fun q => q.slot Gk.out rfl
    have k4 : ∀ q : Wd w2, q.w.cell? ⟨w.heap.size, 4, none⟩ = some (.slice a5 l5 y5) := fun q => q.slot Gk.out rfl
    have k5 : ∀ q : Wd w2, q.w.cell? ⟨w.heap.size, 5, none⟩ = some (.int .i64 c.now) := fun q => q.slot Gk.out rfl
    have x0 : ∀ q : Wd w2, q.w.cell? ⟨w.heap.size + 1, 0, none⟩ = some (.string x.n) := fun q => q.slot Gx.out rfl
    have x1 : ∀ q : Wd w2, q.w.cell? ⟨w.heap.size + 1, 1, none⟩ = some (.int .i64 x.z) := fun q => q.slot Gx.out rfl
    have x2 : ∀ q : Wd w2, q.w.cell? ⟨w.heap.size + 1, 2, none⟩ = some (.string x.k) := fun q => q.slot Gx.out rfl
    have x3 : ∀ q : Wd w2, q.w.cell? ⟨w.heap.size + 1, 3, none⟩ = some (.bool x.x) := fun q => q.slot Gx.out rfl
    have x4 : ∀ q : Wd w2, q.w.cell? ⟨w.heap.size + 1, 4, none⟩ = some (.string x.v) := fun q => q.slot Gx.out rfl
    have hne0 := Wd.ne w2
    have HC0 := hidK (fun q : Wd w2 => sxxd_hit ⟨a1, l1, y1, a2, l2, y2, a3, l3, y3, a4, l4, y4, a5, l5, y5⟩ c.now c.xs x.n q.w (HR.out.x.below (HW.out.trans (q.b.mono HW.out.size))) HRI.out HY.out HYN.out)
    have HC1 := hidK (fun q : Wd w2 => scode_there l4 8 q.w)
    go_wp2_with fail
    refine wp_region_wide (by kernel_rfl) (by kernel_rfl) ?_
    repeat (go_big_quiet_step (first | (go_at_call 54; exact Calls.wide (HC0.out _)) | (go_at_call 28; exact Calls.wide (HC1.out _)) | fail))
    refine wpQuiet_nil ?_
    rintro _ ⟨q1, rfl⟩
    have HB3 := hidK (HW.out.trans (q1.b.mono HW.out.size))
    have Ck := hidK ((q1.b.block _ (lt_of_some Gk.out)).trans Gk.out)
    have Cx := hidK ((q1.b.block _ (lt_of_some Gx.out)).trans Gx.out)
    have Cr := hidK ((q1.b.block _ (lt_of_some Gr.out)).trans Gr.out)
    clear hne0 HW HB HC0 HC1 k0 k1 k2 k3 k4 k5 x0 x1 x2 x3 x4 Gk Gx Gr Bk Bx Br
    have HB := HB3
    clear HB3
    have Bk := Ck
    clear Ck
    have Bx := Cx
    clear Cx
    have Br := Cr
    clear Cr
    obtain ⟨k0, k1, k2, k3, k4, k5⟩ := cs6 Bk.out
    have ltk_3 := lt_of_some Bk.out
    obtain ⟨x0, x1, x2, x3, x4⟩ := cs5 Bx.out
    have ltx_3 := lt_of_some Bx.out
    go_wp2_with fail
    refine (sill_any 7 _).mono ?_
    rintro e w4 ⟨rfl, hb⟩
    clear k0 k1 k2 k3 k4 k5 ltk_3 x0 x1 x2 x3 x4 ltx_3
    replace Bk := hidK ((hb.block _ (lt_of_some Bk.out)).trans Bk.out)
    replace Bx := hidK ((hb.block _ (lt_of_some Bx.out)).trans Bx.out)
    replace Br := hidK ((hb.block _ (lt_of_some Br.out)).trans Br.out)
    replace HB := hidK (HB.out.trans (hb.mono HB.out.size))
    clear hb
    obtain ⟨r0, r1, r2, r3, r4, r5, r6, r7⟩ := cs8 Br.out
    have ltr_4 := lt_of_some Br.out
    have fr0 : w4.frozen? ⟨w.heap.size + 1 + 1, 0, none⟩ = false := froK Br.out 0
    have fr1 : w4.frozen? ⟨w.heap.size + 1 + 1, 1, none⟩ = false := froK Br.out 1
    have fr2 : w4.frozen? ⟨w.heap.size + 1 + 1, 2, none⟩ = false := froK Br.out 2
    have fr3 : w4.frozen? ⟨w.heap.size + 1 + 1, 3, none⟩ = false := froK Br.out 3
    have fr4 : w4.frozen? ⟨w.heap.size + 1 + 1, 4, none⟩ = false := froK Br.out 4
    have fr5 : w4.frozen? ⟨w.heap.size + 1 + 1, 5, none⟩ = false := froK Br.out 5
    have fr6 : w4.frozen? ⟨w.heap.size + 1 + 1, 6, none⟩ = false := froK Br.out 6
    have fr7 : w4.frozen? ⟨w.heap.size + 1 + 1, 7, none⟩ = false := froK Br.out 7
    have hrl : w.heap.size + 1 + 1 < w4.heap.size := lt_of_some Br.out
    go_wp2
    exact bodyPost_ret (v := .agg #[.slice none 0 0, .slice none 0 0, .slice none 0 0, .slice none 0 0, .slice none 0 0, .int .i64 0, .string ⟨#[]⟩, .int .i64 7]) (by simp [results, Tryz.results17, go_sem, *]) rfl ⟨ad0, co0 7, rfl, HV.out, (own0 _ (fun _ => True)).fr, set_below (show w.heap.size ≤ w.heap.size + 1 + 1 by omega) (set_below (show w.heap.size ≤ w.heap.size + 1 + 1 by omega) (set_below (show w.heap.size ≤ w.heap.size + 1 + 1 by omega) (set_below (show w.heap.size ≤ w.heap.size + 1 + 1 by omega) (set_below (show w.heap.size ≤ w.heap.size + 1 + 1 by omega) (set_below (show w.heap.size ≤ w.heap.size + 1 + 1 by omega) (set_below (show w.heap.size ≤ w.heap.size + 1 + 1 by omega) (set_below (show w.heap.size ≤ w.heap.size + 1 + 1 by omega) (HB.out))))))))⟩
  have HMS : Hid (∀ (j : Nat) y, c.xs[j]? = some y → ¬ y.n = x.n) := fun j y h1 h2 => by rw [(hit_at HRI.out h1 h2).2] at hh; cases hh
  by_cases hfull : 8 ≤ l4
  · have HV : Hid (AddClaimIs c x (co0 9)) := .inl ⟨4, ⟨HO.out, hh, by omega⟩, rfl⟩
    clear hh
    have Gk : Hid (w2.heap[w.heap.size]? = some (.cells #[.slice a1 l1 y1, .slice a2 l2 y2, .slice a3 l3 y3, .slice a4 l4 y4, .slice a5 l5 y5, .int .i64 c.now] 39 (0, 0))) := Bk.out
    have Gx : Hid (w2.heap[w.heap.size + 1]? = some (.cells #[.string x.n, .int .i64 x.z, .string x.k, .bool x.x, .string x.v] 55 (0, 0))) := Bx.out
    have Gr : Hid (w2.heap[w.heap.size + 1 + 1]? = some (.cells #[.slice none 0 0, .slice none 0 0, .slice none 0 0, .slice none 0 0, .slice none 0 0, .int .i64 0, .string ⟨#[]⟩, .int .i64 0] 41 (0, 0))) := Br.out
    have HW : Hid (Below w.heap.size w w2) := HB.out
    have k0 : ∀ q : Wd w2, q.w.cell? ⟨w.heap.size, 0, none⟩ = some (.slice a1 l1 y1) := fun q => q.slot Gk.out rfl
    have k1 : ∀ q : Wd w2, q.w.cell? ⟨w.heap.size, 1, none⟩ = some (.slice a2 l2 y2) := fun q => q.slot Gk.out rfl
    have k2 : ∀ q : Wd w2, q.w.cell? ⟨w.heap.size, 2, none⟩ = some (.slice a3 l3 y3) := fun q => q.slot Gk.out rfl
    have k3 : ∀ q : Wd w2, q.w.cell? ⟨w.heap.size, 3, none⟩ = some (.slice a4 l4 y4) := fun q => q.slot Gk.out rfl
    have k4 : ∀ q : Wd w2, q.w.cell? ⟨w.heap.size, 4, none⟩ = some (.slice a5 l5 y5) := fun q => q.slot Gk.out rfl
    have k5 : ∀ q : Wd w2, q.w.cell? ⟨w.heap.size, 5, none⟩ = some (.int .i64 c.now) := fun q => q.slot Gk.out rfl
    have x0 : ∀ q : Wd w2, q.w.cell? ⟨w.heap.size + 1, 0, none⟩ = some (.string x.n) := fun q => q.slot Gx.out rfl
    have x1 : ∀ q : Wd w2, q.w.cell? ⟨w.heap.size + 1, 1, none⟩ = some (.int .i64 x.z) := fun q => q.slot Gx.out rfl
    have x2 : ∀ q : Wd w2, q.w.cell? ⟨w.heap.size + 1, 2, none⟩ = some (.string x.k) := fun q => q.slot Gx.out rfl
    have x3 : ∀ q : Wd w2, q.w.cell? ⟨w.heap.size + 1, 3, none⟩ = some (.bool x.x) := fun q => q.slot Gx.out rfl
    have x4 : ∀ q : Wd w2, q.w.cell? ⟨w.heap.size + 1, 4, none⟩ = some (.string x.v) := fun q => q.slot Gx.out rfl
    have hne0 := Wd.ne w2
    have HC0 := hidK (fun q : Wd w2 => sxxd_miss ⟨a1, l1, y1, a2, l2, y2, a3, l3, y3, a4, l4, y4, a5, l5, y5⟩ c.now c.xs x.n q.w (HR.out.x.below (HW.out.trans (q.b.mono HW.out.size))) HMS.out)
    have HC1 := hidK (fun q : Wd w2 => scode_full l4 8 hfull q.w)
    go_wp2_with fail
    refine wp_region_wide (by kernel_rfl) (by kernel_rfl) ?_
    repeat (go_big_quiet_step (first | (go_at_call 54; exact Calls.wide (HC0.out _)) | (go_at_call 28; exact Calls.wide (HC1.out _)) | fail))
    refine wpQuiet_nil ?_
    rintro _ ⟨q1, rfl⟩
    have HB3 := hidK (HW.out.trans (q1.b.mono HW.out.size))
    have Ck := hidK ((q1.b.block _ (lt_of_some Gk.out)).trans Gk.out)
    have Cx := hidK ((q1.b.block _ (lt_of_some Gx.out)).trans Gx.out)
    have Cr := hidK ((q1.b.block _ (lt_of_some Gr.out)).trans Gr.out)
    clear hne0 HW HB HC0 HC1 k0 k1 k2 k3 k4 k5 x0 x1 x2 x3 x4 Gk Gx Gr Bk Bx Br
    have HB := HB3
    clear HB3
    have Bk := Ck
    clear Ck
    have Bx := Cx
    clear Cx
    have Br := Cr
    clear Cr
    obtain ⟨k0, k1, k2, k3, k4, k5⟩ := cs6 Bk.out
    have ltk_3 := lt_of_some Bk.out
    obtain ⟨x0, x1, x2, x3, x4⟩ := cs5 Bx.out
    have ltx_3 := lt_of_some Bx.out
    go_wp2_with fail
    refine (sill_any 9 _).mono ?_
    rintro e w4 ⟨rfl, hb⟩
    clear k0 k1 k2 k3 k4 k5 ltk_3 x0 x1 x2 x3 x4 ltx_3
    replace Bk := hidK ((hb.block _ (lt_of_some Bk.out)).trans Bk.out)
    replace Bx := hidK ((hb.block _ (lt_of_some Bx.out)).trans Bx.out)
    replace Br := hidK ((hb.block _ (lt_of_some Br.out)).trans Br.out)
    replace HB := hidK (HB.out.trans (hb.mono HB.out.size))
    clear hb
    obtain ⟨r0, r1, r2, r3, r4, r5, r6, r7⟩ := cs8 Br.out
    have ltr_4 := lt_of_some Br.out
    have fr0 : w4.frozen? ⟨w.heap.size + 1 + 1, 0, none⟩ = false := froK Br.out 0
    have fr1 : w4.frozen? ⟨w.heap.size + 1 + 1, 1, none⟩ = false := froK Br.out 1
    have fr2 : w4.frozen? ⟨w.heap.size + 1 + 1, 2, none⟩ = false := froK Br.out 2
    have fr3 : w4.frozen? ⟨w.heap.size + 1 + 1, 3, none⟩ = false := froK Br.out 3
    have fr4 : w4.frozen? ⟨w.heap.size + 1 + 1, 4, none⟩ = false := froK Br.out 4
    have fr5 : w4.frozen? ⟨w.heap.size + 1 + 1, 5, none⟩ = false := froK Br.out 5
    have fr6 : w4.frozen? ⟨w.heap.size + 1 + 1, 6, none⟩ = false := froK Br.out 6
    have fr7 : w4.frozen? ⟨w.heap.size + 1 + 1, 7, none⟩ = false := froK Br.out 7
    have hrl : w.heap.size + 1 + 1 < w4.heap.size := lt_of_some Br.out
    go_wp2
    exact bodyPost_ret (v := .agg #[.slice none 0 0, .slice none 0 0, .slice none 0 0, .slice none 0 0, .slice none 0 0, .int .i64 0, .string ⟨#[]⟩, .int .i64 9]) (by simp [results, Tryz.results17, go_sem, *]) rfl ⟨ad0, co0 9, rfl, HV.out, (own0 _ (fun _ => True)).fr, set_below (show w.heap.size ≤ w.heap.size + 1 + 1 by omega) (set_below (show w.heap.size ≤ w.heap.size + 1 + 1 by omega) (set_below (show w.heap.size ≤ w.heap.size + 1 + 1 by omega) (set_below (show w.heap.size ≤ w.heap.size + 1 + 1 by omega) (set_below (show w.heap.size ≤ w.heap.size + 1 + 1 by omega) (set_below (show w.heap.size ≤ w.heap.size + 1 + 1 by omega) (set_below (show w.heap.size ≤ w.heap.size + 1 + 1 by omega) (set_below (show w.heap.size ≤ w.heap.size + 1 + 1 by omega) (HB.out))))))))⟩
  have HNO := hidK hh
  have hfull2 : l4 < 8 := by omega
  clear hh hfull
  have Gk : Hid (w2.heap[w.heap.size]? = some (.cells #[.slice a1 l1 y1, .slice a2 l2 y2, .slice a3 l3 y3, .slice a4 l4 y4, .slice a5 l5 y5, .int .i64 c.now] 39 (0, 0))) := Bk.out
  have Gx : Hid (w2.heap[w.heap.size + 1]? = some (.cells #[.string x.n, .int .i64 x.z, .string x.k, .bool x.x, .string x.v] 55 (0, 0))) := Bx.out
  have Gr : Hid (w2.heap[w.heap.size + 1 + 1]? = some (.cells #[.slice none 0 0, .slice none 0 0, .slice none 0 0, .slice none 0 0, .slice none 0 0, .int .i64 0, .string ⟨#[]⟩, .int .i64 0] 41 (0, 0))) := Br.out
  have HW : Hid (Below w.heap.size w w2) := HB.out
  have k0 : ∀ q : Wd w2, q.w.cell? ⟨w.heap.size, 0, none⟩ = some (.slice a1 l1 y1) := fun q => q.slot Gk.out rfl
  have k1 : ∀ q : Wd w2, q.w.cell? ⟨w.heap.size, 1, none⟩ = some (.slice a2 l2 y2) := fun q => q.slot Gk.out rfl
  have k2 : ∀ q : Wd w2, q.w.cell? ⟨w.heap.size, 2, none⟩ = some (.slice a3 l3 y3) := fun q => q.slot Gk.out rfl
  have k3 : ∀ q : Wd w2, q.w.cell? ⟨w.heap.size, 3, none⟩ = some (.slice a4 l4 y4) := fun q => q.slot Gk.out rfl
  have k4 : ∀ q : Wd w2, q.w.cell? ⟨w.heap.size, 4, none⟩ = some (.slice a5 l5 y5) := fun q => q.slot Gk.out rfl
  have k5 : ∀ q : Wd w2, q.w.cell? ⟨w.heap.size, 5, none⟩ = some (.int .i64 c.now) := fun q => q.slot Gk.out rfl
  have x0 : ∀ q : Wd w2, q.w.cell? ⟨w.heap.size + 1, 0, none⟩ = some (.string x.n) := fun q => q.slot Gx.out rfl
  have x1 : ∀ q : Wd w2, q.w.cell? ⟨w.heap.size + 1, 1, none⟩ = some (.int .i64 x.z) := fun q => q.slot Gx.out rfl
  have x2 : ∀ q : Wd w2, q.w.cell? ⟨w.heap.size + 1, 2, none⟩ = some (.string x.k) := fun q => q.slot Gx.out rfl
  have x3 : ∀ q : Wd w2, q.w.cell? ⟨w.heap.size + 1, 3, none⟩ = some (.bool x.x) := fun q => q.slot Gx.out rfl
  have x4 : ∀ q : Wd w2, q.w.cell? ⟨w.heap.size + 1, 4, none⟩ = some (.string x.v) := fun q => q.slot Gx.out rfl
  have hne0 := Wd.ne w2
  have HC0 := hidK (fun q : Wd w2 => sxxd_miss ⟨a1, l1, y1, a2, l2, y2, a3, l3, y3, a4, l4, y4, a5, l5, y5⟩ c.now c.xs x.n q.w (HR.out.x.below (HW.out.trans (q.b.mono HW.out.size))) HMS.out)
  have HC1 := hidK (fun q : Wd w2 => scode_ok l4 8 hfull2 q.w)
  go_wp2_with fail
  refine wp_region_wide (by kernel_rfl) (by kernel_rfl) ?_
  repeat (go_big_quiet_step (first | (go_at_call 54; exact Calls.wide (HC0.out _)) | (go_at_call 28; exact Calls.wide (HC1.out _)) | fail))
  refine wpQuiet_nil ?_
  rintro _ ⟨q1, rfl⟩
  have HB3 := hidK (HW.out.trans (q1.b.mono HW.out.size))
  have Ck := hidK ((q1.b.block _ (lt_of_some Gk.out)).trans Gk.out)
  have Cx := hidK ((q1.b.block _ (lt_of_some Gx.out)).trans Gx.out)
  have Cr := hidK ((q1.b.block _ (lt_of_some Gr.out)).trans Gr.out)
  clear hne0 HW HB HC0 HC1 k0 k1 k2 k3 k4 k5 x0 x1 x2 x3 x4 Gk Gx Gr Bk Bx Br
  have HB := HB3
  clear HB3
  have Bk := Ck
  clear Ck
  have Bx := Cx
  clear Cx
  have Br := Cr
  clear Cr
  obtain ⟨k0, k1, k2, k3, k4, k5⟩ := cs6 Bk.out
  have ltk_3 := lt_of_some Bk.out
  obtain ⟨x0, x1, x2, x3, x4⟩ := cs5 Bx.out
  have ltx_3 := lt_of_some Bx.out
  go_wp2_with fail
  refine (sxkd_any ⟨a1, l1, y1, a2, l2, y2, a3, l3, y3, a4, l4, y4, a5, l5, y5⟩ c.now c.ks x.k _ (HR.out.k.below HB.out)).mono ?_
  rintro e w3 ⟨hb, hf⟩
  clear k0 k1 k2 k3 k4 k5 ltk_3 x0 x1 x2 x3 x4 ltx_3
  replace Bk := hidK ((hb.block _ (lt_of_some Bk.out)).trans Bk.out)
  replace Bx := hidK ((hb.block _ (lt_of_some Bx.out)).trans Bx.out)
  replace Br := hidK ((hb.block _ (lt_of_some Br.out)).trans Br.out)
  replace HB := hidK (HB.out.trans (hb.mono HB.out.size))
  clear hb
  rcases hf with ⟨i, y, hy, hyn, rfl⟩ | ⟨hno, rfl⟩
  rotate_left
  · have HV : Hid (AddClaimIs c x (co0 6)) := .inl ⟨2, ⟨HO.out, HNO.out, by omega, hit_no hno⟩, rfl⟩
    clear hno
    obtain ⟨k0, k1, k2, k3, k4, k5⟩ := cs6 Bk.out
    have ltk_4 := lt_of_some Bk.out
    obtain ⟨x0, x1, x2, x3, x4⟩ := cs5 Bx.out
    have ltx_4 := lt_of_some Bx.out
    go_wp2_with fail
    refine (sill_any 6 _).mono ?_
    rintro e w4 ⟨rfl, hb⟩
    clear k0 k1 k2 k3 k4 k5 ltk_4 x0 x1 x2 x3 x4 ltx_4
    replace Bk := hidK ((hb.block _ (lt_of_some Bk.out)).trans Bk.out)
    replace Bx := hidK ((hb.block _ (lt_of_some Bx.out)).trans Bx.out)
    replace Br := hidK ((hb.block _ (lt_of_some Br.out)).trans Br.out)
    replace HB := hidK (HB.out.trans (hb.mono HB.out.size))
    clear hb
    obtain ⟨r0, r1, r2, r3, r4, r5, r6, r7⟩ := cs8 Br.out
    have ltr_5 := lt_of_some Br.out
    have fr0 : w4.frozen? ⟨w.heap.size + 1 + 1, 0, none⟩ = false := froK Br.out 0
    have fr1 : w4.frozen? ⟨w.heap.size + 1 + 1, 1, none⟩ = false := froK Br.out 1
    have fr2 : w4.frozen? ⟨w.heap.size + 1 + 1, 2, none⟩ = false := froK Br.out 2
    have fr3 : w4.frozen? ⟨w.heap.size + 1 + 1, 3, none⟩ = false := froK Br.out 3
    have fr4 : w4.frozen? ⟨w.heap.size + 1 + 1, 4, none⟩ = false := froK Br.out 4
    have fr5 : w4.frozen? ⟨w.heap.size + 1 + 1, 5, none⟩ = false := froK Br.out 5
    have fr6 : w4.frozen? ⟨w.heap.size + 1 + 1, 6, none⟩ = false := froK Br.out 6
    have fr7 : w4.frozen? ⟨w.heap.size + 1 + 1, 7, none⟩ = false := froK Br.out 7
    have hrl : w.heap.size + 1 + 1 < w4.heap.size := lt_of_some Br.out
    go_wp2
    exact bodyPost_ret (v := .agg #[.slice none 0 0, .slice none 0 0, .slice none 0 0, .slice none 0 0, .slice none 0 0, .int .i64 0, .string ⟨#[]⟩, .int .i64 6]) (by simp [results, Tryz.results17, go_sem, *]) rfl ⟨ad0, co0 6, rfl, HV.out, (own0 _ (fun _ => True)).fr, set_below (show w.heap.size ≤ w.heap.size + 1 + 1 by omega) (set_below (show w.heap.size ≤ w.heap.size + 1 + 1 by omega) (set_below (show w.heap.size ≤ w.heap.size + 1 + 1 by omega) (set_below (show w.heap.size ≤ w.heap.size + 1 + 1 by omega) (set_below (show w.heap.size ≤ w.heap.size + 1 + 1 by omega) (set_below (show w.heap.size ≤ w.heap.size + 1 + 1 by omega) (set_below (show w.heap.size ≤ w.heap.size + 1 + 1 by omega) (set_below (show w.heap.size ≤ w.heap.size + 1 + 1 by omega) (HB.out))))))))⟩
  have HV : Hid (AddClaimIs c x ⟨addX c x, ⟨#[]⟩, 0⟩) := .inr ⟨HO.out, HNO.out, by omega, (hit_at HT.out.2.1.2.1.2.2 hy hyn).2, rfl⟩
  have hi0 : ¬ (i : Int) < 0 := by omega
  clear hy hyn HNO
  have HQ1 : Hid (w.heap.size + 1 + 1 < w3.heap.size) := lt_of_some Br.out
  obtain ⟨k0, k1, k2, k3, k4, k5⟩ := cs6 Bk.out
  have ltk_4 := lt_of_some Bk.out
  obtain ⟨x0, x1, x2, x3, x4⟩ := cs5 Bx.out
  have ltx_4 := lt_of_some Bx.out
  go_wp2_with fail
  refine (scopyC_any ⟨a1, l1, y1, a2, l2, y2, a3, l3, y3, a4, l4, y4, a5, l5, y5⟩ c _ (HR.out.below HB.out) HT.out.sm).mono ?_
  rintro e w4 ⟨d', rfl, ho, hb⟩
  have HQ2 := hidK hb.size
  clear k0 k1 k2 k3 k4 k5 ltk_4 x0 x1 x2 x3 x4 ltx_4
  replace Bk := hidK ((hb.block _ (lt_of_some Bk.out)).trans Bk.out)
  replace Bx := hidK ((hb.block _ (lt_of_some Bx.out)).trans Bx.out)
  replace Br := hidK ((hb.block _ (lt_of_some Br.out)).trans Br.out)
  replace HB := hidK (HB.out.trans (hb.mono HB.out.size))
  clear hb
  obtain ⟨g1, m1, n1, g2, m2, n2, g3, m3, n3, g4, m4, n4, g5, m5, n5⟩ := d'
  have hm4 : l4 = m4 := by have h6 : (c.xs.map xdF).length = m4 := ho.x.1; rw [List.length_map] at h6; omega
  subst hm4
  have hmn : l4 ≤ n4 := ho.x.2.1
  have hmx : n4 ≤ 9223372036854775807 := ho.x.2.2.1
  obtain ⟨vss, H, hV, hcell⟩ := (ho.x.into (S' := fun k => w3.heap.size ≤ k ∧ k < w4.heap.size) (fun k hk s => ⟨s, hk⟩)).recs
  have hvl : vss.length = l4 := by have h6 : vss.length = (c.xs.map xdF).length := hV.len; rw [List.length_map] at h6; omega
  have HC : Hid (∀ (j : Nat) u, vss.flatten[j]? = some u → ∃ g, g4 = some ⟨g, 0, none⟩ ∧ w4.cell? ⟨g, j, none⟩ = some u) := fun j u hj => by
    obtain ⟨g, e, _, h3⟩ := hcell j u hj
    exact ⟨g, e, h3⟩
  have HVR := hidK hV
  have HFR := hidK ho
  clear hV hcell ho
  obtain ⟨i5, hi5', hz0, hz1, hz2⟩ := info_parts infoxd
  have HI0 := hidK (And.intro hi5' (And.intro hz0 (And.intro hz1 hz2)))
  clear hi5' hz0 hz1 hz2
  obtain ⟨k0, k1, k2, k3, k4, k5⟩ := cs6 Bk.out
  have ltk_5 := lt_of_some Bk.out
  obtain ⟨x0, x1, x2, x3, x4⟩ := cs5 Bx.out
  have ltx_5 := lt_of_some Bx.out
  go_wp2
  clear k0 k1 k2 k3 k4 k5 ltk_5 x0 x1 x2 x3 x4 ltx_5
  go_loopw [7] (fun vi wr => ∃ k : Nat, k ≤ l4 ∧ vi = .int .i64 k ∧ Hid (∀ (j : Nat) y, j < k → c.xs[j]? = some y → Op.bytesLess y.n.toList x.n.toList = true) ∧ Hid (Below (w4.heap.size + 1) (w4.alloc (.cells #[.slice g1 m1 n1, .slice g2 m2 n2, .slice g3 m3 n3, .slice g4 l4 n4, .slice g5 m5 n5, .int .i64 c.now] 39)) wr)) (fun vi _ => l4 - (intOf vi).toNat)
  case atStart => exact ⟨0, by omega, rfl, fun j y hj => by omega, Below.refl _ _⟩
  case round =>
    obtain ⟨k, hk, rfl, HE, HL⟩ := hrel
    have hLs : w4.heap.size + 1 ≤ wr.heap.size := by have := HL.out.size; simpa using this
    have hb4 : Below w4.heap.size w4 wr := (below1 w4 (.cells #[.slice g1 m1 n1, .slice g2 m2 n2, .slice g3 m3 n3, .slice g4 l4 n4, .slice g5 m5 n5, .int .i64 c.now] 39)).trans (HL.out.mono (by omega))
    replace HB := hidK (HB.out.trans (hb4.mono HB.out.size))
    replace Bk := hidK ((hb4.block _ (lt_of_some Bk.out)).trans Bk.out)
    replace Bx := hidK ((hb4.block _ (lt_of_some Bx.out)).trans Bx.out)
    replace Br := hidK ((hb4.block _ (lt_of_some Br.out)).trans Br.out)
    have Bo := hidK ((HL.out.block w4.heap.size (by omega)).trans (heap_alloc_new w4 (.cells #[.slice g1 m1 n1, .slice g2 m2 n2, .slice g3 m3 n3, .slice g4 l4 n4, .slice g5 m5 n5, .int .i64 c.now] 39)))
    have HB4 := hidK hb4
    clear hb4
    by_cases hlt : k < l4
    · obtain ⟨b, o, y, rfl, hb, hx, hat⟩ := xd_at (HR.out.x.below HB.out) hlt
      obtain ⟨z0, z2, z4, c0, c1, c2, c3, c4⟩ := xd_cells hat
      have HXy := hidK hx
      have HZy0 := hidK z0
      have HZy2 := hidK z2
      have HZy4 := hidK z4
      clear hat hx z0 z2 z4
      have hbw : b < wr.heap.size := hb
      have hc0 := c0
      have hk1 : (k : Int) < l4 := by omega
      have hk2 : decide ((k : Int) < l4) = true := by simp; omega
      clear hb c0 c1 c2 c3 c4
      cases hless : Op.bytesLess y.n.toList x.n.toList
      · have Gk : Hid (wr.heap[w.heap.size]? = some (.cells #[.slice a1 l1 y1, .slice a2 l2 y2, .slice a3 l3 y3, .slice (some ⟨b, o, none⟩) l4 y4, .slice a5 l5 y5, .int .i64 c.now] 39 (0, 0))) := Bk.out
        have Gx : Hid (wr.heap[w.heap.size + 1]? = some (.cells #[.string x.n, .int .i64 x.z, .string x.k, .bool x.x, .string x.v] 55 (0, 0))) := Bx.out
        have Gr : Hid (wr.heap[w.heap.size + 1 + 1]? = some (.cells #[.slice none 0 0, .slice none 0 0, .slice none 0 0, .slice none 0 0, .slice none 0 0, .int .i64 0, .string ⟨#[]⟩, .int .i64 0] 41 (0, 0))) := Br.out
        have Go : Hid (wr.heap[w4.heap.size]? = some (.cells #[.slice g1 m1 n1, .slice g2 m2 n2, .slice g3 m3 n3, .slice g4 l4 n4, .slice g5 m5 n5, .int .i64 c.now] 39 (0, 0))) := Bo.out
        have HW : Hid (Below w.heap.size w wr) := HB.out
        have k3 : ∀ q : Wd wr, q.w.cell? ⟨w.heap.size, 3, none⟩ = some (.slice (some ⟨b, o, none⟩) l4 y4) := fun q => q.slot Gk.out rfl
        have x0 : ∀ q : Wd wr, q.w.cell? ⟨w.heap.size + 1, 0, none⟩ = some (.string x.n) := fun q => q.slot Gx.out rfl
        have yn : ∀ q : Wd wr, q.w.cell? ⟨b, o + k * 5, none⟩ = some (.string y.n) := fun q => (q.cell (hbw)).trans (hc0)
        have hne0 := Wd.ne wr
        go_wp2_with fail
        refine wp_region_wide (by kernel_rfl) (by kernel_rfl) ?_
        repeat (go_big_quiet_step (first | fail))
        refine wpQuiet_nil ?_
        rintro _ ⟨q2, rfl⟩
        have HB6 := hidK (HW.out.trans (q2.b.mono HW.out.size))
        have Ck := hidK ((q2.b.block _ (lt_of_some Gk.out)).trans Gk.out)
        have Cx := hidK ((q2.b.block _ (lt_of_some Gx.out)).trans Gx.out)
        have Cr := hidK ((q2.b.block _ (lt_of_some Gr.out)).trans Gr.out)
        have Co := hidK ((q2.b.block _ (lt_of_some Go.out)).trans Go.out)
        clear hne0 HW HB k3 x0 yn Gk Gx Gr Go Bk Bx Br Bo hc0 hbw
        have HB := HB6
        clear HB6
        have Bk := Ck
        clear Ck
        have Bx := Cx
        clear Cx
        have Br := Cr
        clear Cr
        have Bo := Co
        clear Co
        have hpl : k = pl Xd.n c.xs x.n := (pl_at HE.out HXy.out hless).symm
        have HPL := hidK hpl
        clear hpl
        have H4 := hidK (HB4.out.trans (q2.b.mono HB4.out.size))
        have HCQ : Hid (∀ (j : Nat) u, vss.flatten[j]? = some u → ∃ g, g4 = some ⟨g, 0, none⟩ ∧ g < q2.w.heap.size ∧ q2.w.cell? ⟨g, j, none⟩ = some u) := fun j u hj => by
          obtain ⟨g, e, h3⟩ := HC.out j u hj
          exact ⟨g, e, Nat.lt_of_lt_of_le (cell_lt h3) H4.out.size, (cell_below H4.out (cell_lt h3)).trans h3⟩
        have hq1 := HQ1.out
        have hq2 := HQ2.out
        have hs5 := H4.out.size
        have hok := lt_of_some Bo.out
        have HOW : Hid ((q2.w.alloc (.cells #[] 55)).ownsRow q2.w.heap.size 55 5 (.slice (some ⟨q2.w.heap.size, 0, none⟩) 0 0) 0 []) := World.ownsRow_made q2.w #[] 0 (Nat.le_refl _) (Nat.zero_le _) (by simp)
        have hik : (k : Int) ≤ n4 := by omega
        have hkn : k ≤ n4 := by omega
        obtain ⟨o0, o1, o2, o3, o4, o5⟩ := cs6 Bo.out
        rcases g4 with _ | ⟨b2, f2, sp⟩
        · have hl0 : l4 = 0 := Classical.byContradiction fun hne0 => by
            have h1 : vss[0]? = some (vss[0]'(by omega)) := List.getElem?_eq_getElem _
            have h2 : 0 < (vss[0]'(by omega)).length := by rw [HVR.out.all 0 _ h1]; decide
            obtain ⟨g, e, _⟩ := HCQ.out _ _ (flat_at HVR.out.all h1 (List.getElem?_eq_getElem h2))
            cases e
          omega
        have hcap : ¬ n4 = k := by omega
        all_goals (
          go_wp2_with (first | (at_builtin; refine wpList_append_any rfl _ _ 36 rfl q2.w.heap.size 55 i5 (.agg #[.string ⟨#[]⟩, .int .i64 0, .string ⟨#[]⟩, .bool false, .string ⟨#[]⟩]) 5 64 Tryz.underlying36 HI0.out.1 HI0.out.2.1 HI0.out.2.2.1 HI0.out.2.2.2 rfl (by decide) _ _ _ rfl (HOW.out) _ k _ (vss.take k).flatten rfl (take_flat HVR.out.all (by omega)) (fun j u hu => by obtain ⟨g, e, hgl, h3⟩ := HCQ.out _ _ (take_at hu); cases e <;> exact ⟨_, rfl, by simp only [Addr.add_lit, Nat.zero_add]; exact (cell_below (below1 q2.w _) hgl).trans h3⟩) (mem_take_one HVR.out.one k).1 (by unfold maxLen; omega) (by omega) (by simp) ?_))
          intro v5 w5 hown5 hgr5
          replace hown5 : w5.ownsRow q2.w.heap.size 55 5 v5 k (vss.take k).flatten := by simpa using hown5
          have hb5 : Below q2.w.heap.size q2.w w5 := (below1 q2.w (.cells #[] 55)).grown hgr5 (by simp) (fun g hg => by simp [Value.ownBlock] at hg; omega)
          obtain ⟨s1, s2, s3, rfl⟩ := owns_slice hown5
          have HO5 := hidK hown5
          have H5 := hidK hb5
          have hs6 := hb5.size
          have Bx5 := hidK ((hb5.block _ (lt_of_some Bx.out)).trans Bx.out)
          obtain ⟨x0, x1, x2, x3, x4⟩ := cs5 Bx5.out
          have hxl := lt_of_some Bx5.out
          clear hown5 hgr5 hb5 o0 o1 o2 o3 o4 o5 HOW
          go_wp2_with (first | (at_builtin; refine wpList_append_any rfl _ _ 36 rfl q2.w.heap.size 55 i5 (.agg #[.string ⟨#[]⟩, .int .i64 0, .string ⟨#[]⟩, .bool false, .string ⟨#[]⟩]) 5 64 Tryz.underlying36 HI0.out.1 HI0.out.2.1 HI0.out.2.2.1 HI0.out.2.2.2 rfl (by decide) _ _ _ rfl (HO5.out.alloc _) _ 1 _ [.string x.n, .int .i64 x.z, .string x.k, .bool x.x, .string x.v] rfl rfl (fun j u hu => ⟨_, rfl, by rw [Addr.add_lit, Nat.zero_add, cellK (heap_alloc_new w5 _)]; simpa using hu⟩) (by simp [Value.oneCell']) (by unfold maxLen; omega) (by omega) (by simp; omega) ?_))
          intro v6 w6 hown6 hgr6
          have hb6 : Below q2.w.heap.size q2.w w6 := (H5.out.alloc H5.out.size _).grown hgr6 (by simp; omega) (fun g hg => (HO5.out.lt g hg).1)
          obtain ⟨r1, r2, r3, rfl⟩ := owns_slice hown6
          have HO6 := hidK hown6
          have H6 := hidK hb6
          have hs7 := hb6.size
          have Bo6 := hidK ((hb6.block _ (lt_of_some Bo.out)).trans Bo.out)
          obtain ⟨o0, o1, o2, o3, o4, o5⟩ := cs6 Bo6.out
          have hol := lt_of_some Bo6.out
          clear hown6 hgr6 hb6 x0 x1 x2 x3 x4 hxl
          go_wp2_with (first | (at_builtin; refine wpList_append_any rfl _ _ 36 rfl q2.w.heap.size 55 i5 (.agg #[.string ⟨#[]⟩, .int .i64 0, .string ⟨#[]⟩, .bool false, .string ⟨#[]⟩]) 5 64 Tryz.underlying36 HI0.out.1 HI0.out.2.1 HI0.out.2.2.1 HI0.out.2.2.2 rfl (by decide) _ _ _ rfl (HO6.out) _ (l4 - k) _ (vss.drop k).flatten rfl (by rw [drop_flat HVR.out.all, hvl]) (fun j u hu => by first | (rw [List.drop_eq_nil_of_le (by omega)] at hu; simp at hu; done) | (obtain ⟨g, e, hgl, h3⟩ := HCQ.out _ _ (drop_at HVR.out.all (by omega) hu); cases e <;> exact ⟨_, rfl, by simp only [Addr.add_lit, Nat.zero_add]; exact (cell_below H6.out hgl).trans h3⟩)) (mem_take_one HVR.out.one k).2 (by unfold maxLen; omega) (by omega) (by omega) ?_))
          intro v7 w7 hown7 hgr7
          have hb7 : Below q2.w.heap.size q2.w w7 := H6.out.grown hgr7 (by omega) (fun g hg => (HO6.out.lt g hg).1)
          replace hown7 : w7.ownsRow q2.w.heap.size 55 5 v7 (l4 + 1) (inAt k [.string x.n, .int .i64 x.z, .string x.k, .bool x.x, .string x.v] vss).flatten := by
            have e9 : k + 1 + (l4 - k) = l4 + 1 := by omega
            try rw [e9] at hown7
            simpa [inAt] using hown7
          obtain ⟨t1, t2, t3, rfl⟩ := owns_slice hown7
          have H7 := hidK hb7
          have H47 := hidK (H4.out.trans (hb7.mono H4.out.size))
          have HB7 := hidK (HB.out.trans (hb7.mono HB.out.size))
          obtain ⟨H9, hV9⟩ := ((HVR.out.below H47.out).keep (w' := w7) (S' := fun k => (w3.heap.size ≤ k ∧ k < w4.heap.size) ∨ q2.w.heap.size ≤ k) (fun _ _ _ _ => rfl) (fun _ _ s => .inl s)).ins (p := k) (r := xdF x) (vs := [.string x.n, .int .i64 x.z, .string x.k, .bool x.x, .string x.v]) (hh := fun _ => 0) rfl rfl (fun i f hf => by rcases i with _ | _ | _ | _ | _ | i <;> simp [xdF] at hf <;> subst hf; exact ⟨_, rfl, rfl, z0⟩; exact ⟨_, rfl, rfl⟩; exact ⟨_, rfl, rfl, z2⟩; exact ⟨_, rfl, rfl⟩; exact ⟨_, rfl, rfl, z4⟩) (fun i zs h _ => by rcases i with _ | _ | _ | _ | _ | i <;> simp [xdF] at h) (fun i i2 zs zs2 h _ _ _ => by rcases i with _ | _ | _ | _ | _ | i <;> simp [xdF] at h) (show k ≤ (c.xs.map xdF).length by rw [List.length_map]; omega)
          have h45 : VRecs w7 (fun k => (w3.heap.size ≤ k ∧ k < w4.heap.size) ∨ q2.w.heap.size ≤ k) 5 ((inAt k x c.xs).map xdF) (inAt k [.string x.n, .int .i64 x.z, .string x.k, .bool x.x, .string x.v] vss) H9 := by rw [inAt_map]; exact hV9
          have hle : ((inAt k x c.xs).map xdF).length = l4 + 1 := by rw [List.length_map, inAt_len (by omega)]; omega
          obtain ⟨u1, u2, hq, hR⟩ := h45.own hown7 hle.symm (by decide) (fun g hg => .inr (hown7.lt g hg).1)
          rw [hle] at hq hR
          simp only [Value.slice.injEq] at hq
          obtain ⟨rfl, rfl, rfl⟩ := hq
          rw [HPL.out] at hR
          have HR7 := hidK hR
          have hs8 := hb7.size
          have Bo7 := hidK ((hb7.block _ (lt_of_some Bo.out)).trans Bo.out)
          have Br7 := hidK ((hb7.block _ (lt_of_some Br.out)).trans Br.out)
          clear o0 o1 o2 o3 o4 o5
          obtain ⟨o0, o1, o2, o3, o4, o5⟩ := cs6 Bo7.out
          obtain ⟨r0, r1, r2, r3, r4, r5, r6, r7⟩ := cs8 Br7.out
          have fo0 := froK Bo7.out 0
          have fo1 := froK Bo7.out 1
          have fo2 := froK Bo7.out 2
          have fo3 := froK Bo7.out 3
          have fo4 := froK Bo7.out 4
          have fo5 := froK Bo7.out 5
          have fr0 := froK Br7.out 0
          have fr1 := froK Br7.out 1
          have fr2 := froK Br7.out 2
          have fr3 := froK Br7.out 3
          have fr4 := froK Br7.out 4
          have fr5 := froK Br7.out 5
          have fr6 := froK Br7.out 6
          have fr7 := froK Br7.out 7
          have hne : ¬ w.heap.size + 1 + 1 = w4.heap.size := by omega
          have hne2 : ¬ w4.heap.size = w.heap.size + 1 + 1 := by omega
          have hol7 := lt_of_some Bo7.out
          have hrl7 := lt_of_some Br7.out
          clear hown7 hgr7 hb7 hR hV9 h45 hle hik hkn hcap
          go_wp2
          refine bodyPost_ret (v := .agg #[.slice g1 m1 n1, .slice g2 m2 n2, .slice g3 m3 n3, .slice t1 (l4 + 1) t3, .slice g5 m5 n5, .int .i64 c.now, .string ⟨#[]⟩, .int .i64 0]) (by simp [results, Tryz.results17, go_sem, *]) rfl ⟨⟨g1, m1, n1, g2, m2, n2, g3, m3, n3, t1, l4 + 1, t3, g5, m5, n5⟩, ⟨addX c x, ⟨#[]⟩, 0⟩, rfl, HV.out, ?_, set_below (show w.heap.size ≤ w.heap.size + 1 + 1 by omega) (set_below (show w.heap.size ≤ w.heap.size + 1 + 1 by omega) (set_below (show w.heap.size ≤ w.heap.size + 1 + 1 by omega) (set_below (show w.heap.size ≤ w.heap.size + 1 + 1 by omega) (set_below (show w.heap.size ≤ w.heap.size + 1 + 1 by omega) (set_below (show w.heap.size ≤ w.heap.size + 1 + 1 by omega) (set_below (show w.heap.size ≤ w.heap.size + 1 + 1 by omega) (set_below (show w.heap.size ≤ w.heap.size + 1 + 1 by omega) (set_below (show w.heap.size ≤ w4.heap.size by omega) (HB7.out)))))))))⟩
          have hkeep : ∀ k9, w3.heap.size ≤ k9 → ¬ k9 = w4.heap.size → (((((((((w7.setCell ⟨w4.heap.size, 3, none⟩ (.slice t1 (l4 + 1) t3)).setCell ⟨w.heap.size + 1 + 1, 0, none⟩ (.slice g1 m1 n1)).setCell ⟨w.heap.size + 1 + 1, 1, none⟩ (.slice g2 m2 n2)).setCell ⟨w.heap.size + 1 + 1, 2, none⟩ (.slice g3 m3 n3)).setCell ⟨w.heap.size + 1 + 1, 3, none⟩ (.slice t1 (l4 + 1) t3)).setCell ⟨w.heap.size + 1 + 1, 4, none⟩ (.slice g5 m5 n5)).setCell ⟨w.heap.size + 1 + 1, 5, none⟩ (.int .i64 c.now)).setCell ⟨w.heap.size + 1 + 1, 6, none⟩ (.string ⟨#[]⟩)).setCell ⟨w.heap.size + 1 + 1, 7, none⟩ (.int .i64 0)).heap[k9]? = w7.heap[k9]? := fun k9 h1 h2 => by rw [Below.heap_setCell _ _ _ _ (show k9 ≠ w.heap.size + 1 + 1 by omega), Below.heap_setCell _ _ _ _ (show k9 ≠ w.heap.size + 1 + 1 by omega), Below.heap_setCell _ _ _ _ (show k9 ≠ w.heap.size + 1 + 1 by omega), Below.heap_setCell _ _ _ _ (show k9 ≠ w.heap.size + 1 + 1 by omega), Below.heap_setCell _ _ _ _ (show k9 ≠ w.heap.size + 1 + 1 by omega), Below.heap_setCell _ _ _ _ (show k9 ≠ w.heap.size + 1 + 1 by omega), Below.heap_setCell _ _ _ _ (show k9 ≠ w.heap.size + 1 + 1 by omega), Below.heap_setCell _ _ _ _ (show k9 ≠ w.heap.size + 1 + 1 by omega), Below.heap_setCell _ _ _ _ (show k9 ≠ w4.heap.size by omega)]
          refine ⟨(HFR.out.n.keep (w' := (((((((((w7.setCell ⟨w4.heap.size, 3, none⟩ (.slice t1 (l4 + 1) t3)).setCell ⟨w.heap.size + 1 + 1, 0, none⟩ (.slice g1 m1 n1)).setCell ⟨w.heap.size + 1 + 1, 1, none⟩ (.slice g2 m2 n2)).setCell ⟨w.heap.size + 1 + 1, 2, none⟩ (.slice g3 m3 n3)).setCell ⟨w.heap.size + 1 + 1, 3, none⟩ (.slice t1 (l4 + 1) t3)).setCell ⟨w.heap.size + 1 + 1, 4, none⟩ (.slice g5 m5 n5)).setCell ⟨w.heap.size + 1 + 1, 5, none⟩ (.int .i64 c.now)).setCell ⟨w.heap.size + 1 + 1, 6, none⟩ (.string ⟨#[]⟩)).setCell ⟨w.heap.size + 1 + 1, 7, none⟩ (.int .i64 0))) (S' := fun _ => True) (fun k hk s => (hkeep k s (by omega)).trans (H47.out.block k hk)) (fun _ _ _ => trivial)), (HFR.out.k.keep (w' := (((((((((w7.setCell ⟨w4.heap.size, 3, none⟩ (.slice t1 (l4 + 1) t3)).setCell ⟨w.heap.size + 1 + 1, 0, none⟩ (.slice g1 m1 n1)).setCell ⟨w.heap.size + 1 + 1, 1, none⟩ (.slice g2 m2 n2)).setCell ⟨w.heap.size + 1 + 1, 2, none⟩ (.slice g3 m3 n3)).setCell ⟨w.heap.size + 1 + 1, 3, none⟩ (.slice t1 (l4 + 1) t3)).setCell ⟨w.heap.size + 1 + 1, 4, none⟩ (.slice g5 m5 n5)).setCell ⟨w.heap.size + 1 + 1, 5, none⟩ (.int .i64 c.now)).setCell ⟨w.heap.size + 1 + 1, 6, none⟩ (.string ⟨#[]⟩)).setCell ⟨w.heap.size + 1 + 1, 7, none⟩ (.int .i64 0))) (S' := fun _ => True) (fun k hk s => (hkeep k s (by omega)).trans (H47.out.block k hk)) (fun _ _ _ => trivial)), (HFR.out.v.keep (w' := (((((((((w7.setCell ⟨w4.heap.size, 3, none⟩ (.slice t1 (l4 + 1) t3)).setCell ⟨w.heap.size + 1 + 1, 0, none⟩ (.slice g1 m1 n1)).setCell ⟨w.heap.size + 1 + 1, 1, none⟩ (.slice g2 m2 n2)).setCell ⟨w.heap.size + 1 + 1, 2, none⟩ (.slice g3 m3 n3)).setCell ⟨w.heap.size + 1 + 1, 3, none⟩ (.slice t1 (l4 + 1) t3)).setCell ⟨w.heap.size + 1 + 1, 4, none⟩ (.slice g5 m5 n5)).setCell ⟨w.heap.size + 1 + 1, 5, none⟩ (.int .i64 c.now)).setCell ⟨w.heap.size + 1 + 1, 6, none⟩ (.string ⟨#[]⟩)).setCell ⟨w.heap.size + 1 + 1, 7, none⟩ (.int .i64 0))) (S' := fun _ => True) (fun k hk s => (hkeep k s (by omega)).trans (H47.out.block k hk)) (fun _ _ _ => trivial)), (HR7.out.keep (w' := (((((((((w7.setCell ⟨w4.heap.size, 3, none⟩ (.slice t1 (l4 + 1) t3)).setCell ⟨w.heap.size + 1 + 1, 0, none⟩ (.slice g1 m1 n1)).setCell ⟨w.heap.size + 1 + 1, 1, none⟩ (.slice g2 m2 n2)).setCell ⟨w.heap.size + 1 + 1, 2, none⟩ (.slice g3 m3 n3)).setCell ⟨w.heap.size + 1 + 1, 3, none⟩ (.slice t1 (l4 + 1) t3)).setCell ⟨w.heap.size + 1 + 1, 4, none⟩ (.slice g5 m5 n5)).setCell ⟨w.heap.size + 1 + 1, 5, none⟩ (.int .i64 c.now)).setCell ⟨w.heap.size + 1 + 1, 6, none⟩ (.string ⟨#[]⟩)).setCell ⟨w.heap.size + 1 + 1, 7, none⟩ (.int .i64 0))) (S' := fun _ => True) (fun k hk s => hkeep k (by rcases s with s | s <;> omega) (by rcases s with s | s <;> omega)) (fun _ _ _ => trivial)), (HFR.out.p.keep (w' := (((((((((w7.setCell ⟨w4.heap.size, 3, none⟩ (.slice t1 (l4 + 1) t3)).setCell ⟨w.heap.size + 1 + 1, 0, none⟩ (.slice g1 m1 n1)).setCell ⟨w.heap.size + 1 + 1, 1, none⟩ (.slice g2 m2 n2)).setCell ⟨w.heap.size + 1 + 1, 2, none⟩ (.slice g3 m3 n3)).setCell ⟨w.heap.size + 1 + 1, 3, none⟩ (.slice t1 (l4 + 1) t3)).setCell ⟨w.heap.size + 1 + 1, 4, none⟩ (.slice g5 m5 n5)).setCell ⟨w.heap.size + 1 + 1, 5, none⟩ (.int .i64 c.now)).setCell ⟨w.heap.size + 1 + 1, 6, none⟩ (.string ⟨#[]⟩)).setCell ⟨w.heap.size + 1 + 1, 7, none⟩ (.int .i64 0))) (S' := fun _ => True) (fun k hk s => (hkeep k s (by omega)).trans (H47.out.block k hk)) (fun _ _ _ => trivial))⟩)
      · have Gk : Hid (wr.heap[w.heap.size]? = some (.cells #[.slice a1 l1 y1, .slice a2 l2 y2, .slice a3 l3 y3, .slice (some ⟨b, o, none⟩) l4 y4, .slice a5 l5 y5, .int .i64 c.now] 39 (0, 0))) := Bk.out
        have Gx : Hid (wr.heap[w.heap.size + 1]? = some (.cells #[.string x.n, .int .i64 x.z, .string x.k, .bool x.x, .string x.v] 55 (0, 0))) := Bx.out
        have Gr : Hid (wr.heap[w.heap.size + 1 + 1]? = some (.cells #[.slice none 0 0, .slice none 0 0, .slice none 0 0, .slice none 0 0, .slice none 0 0, .int .i64 0, .string ⟨#[]⟩, .int .i64 0] 41 (0, 0))) := Br.out
        have Go : Hid (wr.heap[w4.heap.size]? = some (.cells #[.slice g1 m1 n1, .slice g2 m2 n2, .slice g3 m3 n3, .slice g4 l4 n4, .slice g5 m5 n5, .int .i64 c.now] 39 (0, 0))) := Bo.out
        have HW : Hid (Below w.heap.size w wr) := HB.out
        have k3 : ∀ q : Wd wr, q.w.cell? ⟨w.heap.size, 3, none⟩ = some (.slice (some ⟨b, o, none⟩) l4 y4) := fun q => q.slot Gk.out rfl
        have x0 : ∀ q : Wd wr, q.w.cell? ⟨w.heap.size + 1, 0, none⟩ = some (.string x.n) := fun q => q.slot Gx.out rfl
        have yn : ∀ q : Wd wr, q.w.cell? ⟨b, o + k * 5, none⟩ = some (.string y.n) := fun q => (q.cell (hbw)).trans (hc0)
        have hne0 := Wd.ne wr
        go_wp2_with fail
        refine wp_region_wide (by kernel_rfl) (by kernel_rfl) ?_
        repeat (go_big_quiet_step (first | fail))
        refine wpQuiet_nil ?_
        rintro _ ⟨q2, rfl⟩
        have HB6 := hidK (HW.out.trans (q2.b.mono HW.out.size))
        have Ck := hidK ((q2.b.block _ (lt_of_some Gk.out)).trans Gk.out)
        have Cx := hidK ((q2.b.block _ (lt_of_some Gx.out)).trans Gx.out)
        have Cr := hidK ((q2.b.block _ (lt_of_some Gr.out)).trans Gr.out)
        have Co := hidK ((q2.b.block _ (lt_of_some Go.out)).trans Go.out)
        clear hne0 HW HB k3 x0 yn Gk Gx Gr Go Bk Bx Br Bo hc0 hbw
        have HB := HB6
        clear HB6
        have Bk := Ck
        clear Ck
        have Bx := Cx
        clear Cx
        have Br := Cr
        clear Cr
        have Bo := Co
        clear Co
        go_wp2
        refine ⟨⟨k + 1, by omega, by go_num, fun j z hj hz => ?_, HL.out.trans (q2.b.mono (by omega))⟩, by simp [intOf]; omega⟩
        by_cases e : j = k
        · subst e
          rw [HXy.out] at hz
          obtain rfl := Option.some.inj hz
          exact hless
        · exact HE.out j z (by omega) hz
    · have hk1 : ¬ (k : Int) < l4 := by omega
      have hk2 : decide ((k : Int) < l4) = false := by simp; omega
      have Gk : Hid (wr.heap[w.heap.size]? = some (.cells #[.slice a1 l1 y1, .slice a2 l2 y2, .slice a3 l3 y3, .slice a4 l4 y4, .slice a5 l5 y5, .int .i64 c.now] 39 (0, 0))) := Bk.out
      have Gx : Hid (wr.heap[w.heap.size + 1]? = some (.cells #[.string x.n, .int .i64 x.z, .string x.k, .bool x.x, .string x.v] 55 (0, 0))) := Bx.out
      have Gr : Hid (wr.heap[w.heap.size + 1 + 1]? = some (.cells #[.slice none 0 0, .slice none 0 0, .slice none 0 0, .slice none 0 0, .slice none 0 0, .int .i64 0, .string ⟨#[]⟩, .int .i64 0] 41 (0, 0))) := Br.out
      have Go : Hid (wr.heap[w4.heap.size]? = some (.cells #[.slice g1 m1 n1, .slice g2 m2 n2, .slice g3 m3 n3, .slice g4 l4 n4, .slice g5 m5 n5, .int .i64 c.now] 39 (0, 0))) := Bo.out
      have HW : Hid (Below w.heap.size w wr) := HB.out
      have k3 : ∀ q : Wd wr, q.w.cell? ⟨w.heap.size, 3, none⟩ = some (.slice a4 l4 y4) := fun q => q.slot Gk.out rfl
      have x0 : ∀ q : Wd wr, q.w.cell? ⟨w.heap.size + 1, 0, none⟩ = some (.string x.n) := fun q => q.slot Gx.out rfl
      have hne0 := Wd.ne wr
      go_wp2_with fail
      refine wp_region_wide (by kernel_rfl) (by kernel_rfl) ?_
      repeat (go_big_quiet_step (first | fail))
      refine wpQuiet_nil ?_
      rintro _ ⟨q2, rfl⟩
      have HB6 := hidK (HW.out.trans (q2.b.mono HW.out.size))
      have Ck := hidK ((q2.b.block _ (lt_of_some Gk.out)).trans Gk.out)
      have Cx := hidK ((q2.b.block _ (lt_of_some Gx.out)).trans Gx.out)
      have Cr := hidK ((q2.b.block _ (lt_of_some Gr.out)).trans Gr.out)
      have Co := hidK ((q2.b.block _ (lt_of_some Go.out)).trans Go.out)
      clear hne0 HW HB k3 x0 Gk Gx Gr Go Bk Bx Br Bo
      have HB := HB6
      clear HB6
      have Bk := Ck
      clear Ck
      have Bx := Cx
      clear Cx
      have Br := Cr
      clear Cr
      have Bo := Co
      clear Co
      have hpl : k = pl Xd.n c.xs x.n := by rw [pl_end (nm := Xd.n) (xs := c.xs) (t := x.n) (fun j y hy => HE.out j y (by have := (List.getElem?_eq_some_iff.1 hy).1; omega) hy)]; omega
      have HPL := hidK hpl
      clear hpl
      have H4 := hidK (HB4.out.trans (q2.b.mono HB4.out.size))
      have HCQ : Hid (∀ (j : Nat) u, vss.flatten[j]? = some u → ∃ g, g4 = some ⟨g, 0, none⟩ ∧ g < q2.w.heap.size ∧ q2.w.cell? ⟨g, j, none⟩ = some u) := fun j u hj => by
        obtain ⟨g, e, h3⟩ := HC.out j u hj
        exact ⟨g, e, Nat.lt_of_lt_of_le (cell_lt h3) H4.out.size, (cell_below H4.out (cell_lt h3)).trans h3⟩
      have hq1 := HQ1.out
      have hq2 := HQ2.out
      have hs5 := H4.out.size
      have hok := lt_of_some Bo.out
      have HOW : Hid ((q2.w.alloc (.cells #[] 55)).ownsRow q2.w.heap.size 55 5 (.slice (some ⟨q2.w.heap.size, 0, none⟩) 0 0) 0 []) := World.ownsRow_made q2.w #[] 0 (Nat.le_refl _) (Nat.zero_le _) (by simp)
      have hik : (k : Int) ≤ n4 := by omega
      have hkn : k ≤ n4 := by omega
      obtain ⟨o0, o1, o2, o3, o4, o5⟩ := cs6 Bo.out
      rcases g4 with _ | ⟨b2, f2, sp⟩
      · have hl0 : l4 = 0 := Classical.byContradiction fun hne0 => by
          have h1 : vss[0]? = some (vss[0]'(by omega)) := List.getElem?_eq_getElem _
          have h2 : 0 < (vss[0]'(by omega)).length := by rw [HVR.out.all 0 _ h1]; decide
          obtain ⟨g, e, _⟩ := HCQ.out _ _ (flat_at HVR.out.all h1 (List.getElem?_eq_getElem h2))
          cases e
        obtain rfl : k = 0 := by omega
        subst hl0
        by_cases hcap : n4 = 0
        all_goals (
          go_wp2_with (first | (at_builtin; refine wpList_append_any rfl _ _ 36 rfl q2.w.heap.size 55 i5 (.agg #[.string ⟨#[]⟩, .int .i64 0, .string ⟨#[]⟩, .bool false, .string ⟨#[]⟩]) 5 64 Tryz.underlying36 HI0.out.1 HI0.out.2.1 HI0.out.2.2.1 HI0.out.2.2.2 rfl (by decide) _ _ _ rfl (HOW.out) _ 0 _ (vss.take 0).flatten rfl (take_flat HVR.out.all (by omega)) (fun j u hu => by obtain ⟨g, e, hgl, h3⟩ := HCQ.out _ _ (take_at hu); cases e <;> exact ⟨_, rfl, by simp only [Addr.add_lit, Nat.zero_add]; exact (cell_below (below1 q2.w _) hgl).trans h3⟩) (mem_take_one HVR.out.one 0).1 (by unfold maxLen; omega) (by omega) (by simp) ?_))
          intro v5 w5 hown5 hgr5
          replace hown5 : w5.ownsRow q2.w.heap.size 55 5 v5 0 (vss.take 0).flatten := by simpa using hown5
          have hb5 : Below q2.w.heap.size q2.w w5 := (below1 q2.w (.cells #[] 55)).grown hgr5 (by simp) (fun g hg => by simp [Value.ownBlock] at hg; omega)
          obtain ⟨s1, s2, s3, rfl⟩ := owns_slice hown5
          have HO5 := hidK hown5
          have H5 := hidK hb5
          have hs6 := hb5.size
          have Bx5 := hidK ((hb5.block _ (lt_of_some Bx.out)).trans Bx.out)
          obtain ⟨x0, x1, x2, x3, x4⟩ := cs5 Bx5.out
          have hxl := lt_of_some Bx5.out
          clear hown5 hgr5 hb5 o0 o1 o2 o3 o4 o5 HOW
          go_wp2_with (first | (at_builtin; refine wpList_append_any rfl _ _ 36 rfl q2.w.heap.size 55 i5 (.agg #[.string ⟨#[]⟩, .int .i64 0, .string ⟨#[]⟩, .bool false, .string ⟨#[]⟩]) 5 64 Tryz.underlying36 HI0.out.1 HI0.out.2.1 HI0.out.2.2.1 HI0.out.2.2.2 rfl (by decide) _ _ _ rfl (HO5.out.alloc _) _ 1 _ [.string x.n, .int .i64 x.z, .string x.k, .bool x.x, .string x.v] rfl rfl (fun j u hu => ⟨_, rfl, by rw [Addr.add_lit, Nat.zero_add, cellK (heap_alloc_new w5 _)]; simpa using hu⟩) (by simp [Value.oneCell']) (by unfold maxLen; omega) (by omega) (by simp; omega) ?_))
          intro v6 w6 hown6 hgr6
          have hb6 : Below q2.w.heap.size q2.w w6 := (H5.out.alloc H5.out.size _).grown hgr6 (by simp; omega) (fun g hg => (HO5.out.lt g hg).1)
          obtain ⟨r1, r2, r3, rfl⟩ := owns_slice hown6
          have HO6 := hidK hown6
          have H6 := hidK hb6
          have hs7 := hb6.size
          have Bo6 := hidK ((hb6.block _ (lt_of_some Bo.out)).trans Bo.out)
          obtain ⟨o0, o1, o2, o3, o4, o5⟩ := cs6 Bo6.out
          have hol := lt_of_some Bo6.out
          clear hown6 hgr6 hb6 x0 x1 x2 x3 x4 hxl
          go_wp2_with (first | (at_builtin; refine wpList_append_any rfl _ _ 36 rfl q2.w.heap.size 55 i5 (.agg #[.string ⟨#[]⟩, .int .i64 0, .string ⟨#[]⟩, .bool false, .string ⟨#[]⟩]) 5 64 Tryz.underlying36 HI0.out.1 HI0.out.2.1 HI0.out.2.2.1 HI0.out.2.2.2 rfl (by decide) _ _ _ rfl (HO6.out) _ (0 - 0) _ (vss.drop 0).flatten rfl (by rw [drop_flat HVR.out.all, hvl]) (fun j u hu => by first | (rw [List.drop_eq_nil_of_le (by omega)] at hu; simp at hu; done) | (obtain ⟨g, e, hgl, h3⟩ := HCQ.out _ _ (drop_at HVR.out.all (by omega) hu); cases e <;> exact ⟨_, rfl, by simp only [Addr.add_lit, Nat.zero_add]; exact (cell_below H6.out hgl).trans h3⟩)) (mem_take_one HVR.out.one 0).2 (by unfold maxLen; omega) (by omega) (by omega) ?_))
          intro v7 w7 hown7 hgr7
          have hb7 : Below q2.w.heap.size q2.w w7 := H6.out.grown hgr7 (by omega) (fun g hg => (HO6.out.lt g hg).1)
          replace hown7 : w7.ownsRow q2.w.heap.size 55 5 v7 (1) (inAt 0 [.string x.n, .int .i64 x.z, .string x.k, .bool x.x, .string x.v] vss).flatten := by
            have e9 : 0 + 1 + (0 - 0) = 1 := by omega
            try rw [e9] at hown7
            simpa [inAt] using hown7
          obtain ⟨t1, t2, t3, rfl⟩ := owns_slice hown7
          have H7 := hidK hb7
          have H47 := hidK (H4.out.trans (hb7.mono H4.out.size))
          have HB7 := hidK (HB.out.trans (hb7.mono HB.out.size))
          obtain ⟨H9, hV9⟩ := ((HVR.out.below H47.out).keep (w' := w7) (S' := fun k => (w3.heap.size ≤ k ∧ k < w4.heap.size) ∨ q2.w.heap.size ≤ k) (fun _ _ _ _ => rfl) (fun _ _ s => .inl s)).ins (p := 0) (r := xdF x) (vs := [.string x.n, .int .i64 x.z, .string x.k, .bool x.x, .string x.v]) (hh := fun _ => 0) rfl rfl (fun i f hf => by rcases i with _ | _ | _ | _ | _ | i <;> simp [xdF] at hf <;> subst hf; exact ⟨_, rfl, rfl, z0⟩; exact ⟨_, rfl, rfl⟩; exact ⟨_, rfl, rfl, z2⟩; exact ⟨_, rfl, rfl⟩; exact ⟨_, rfl, rfl, z4⟩) (fun i zs h _ => by rcases i with _ | _ | _ | _ | _ | i <;> simp [xdF] at h) (fun i i2 zs zs2 h _ _ _ => by rcases i with _ | _ | _ | _ | _ | i <;> simp [xdF] at h) (show 0 ≤ (c.xs.map xdF).length by rw [List.length_map]; omega)
          have h45 : VRecs w7 (fun k => (w3.heap.size ≤ k ∧ k < w4.heap.size) ∨ q2.w.heap.size ≤ k) 5 ((inAt 0 x c.xs).map xdF) (inAt 0 [.string x.n, .int .i64 x.z, .string x.k, .bool x.x, .string x.v] vss) H9 := by rw [inAt_map]; exact hV9
          have hle : ((inAt 0 x c.xs).map xdF).length = 1 := by rw [List.length_map, inAt_len (by omega)]; omega
          obtain ⟨u1, u2, hq, hR⟩ := h45.own hown7 hle.symm (by decide) (fun g hg => .inr (hown7.lt g hg).1)
          rw [hle] at hq hR
          simp only [Value.slice.injEq] at hq
          obtain ⟨rfl, rfl, rfl⟩ := hq
          rw [HPL.out] at hR
          have HR7 := hidK hR
          have hs8 := hb7.size
          have Bo7 := hidK ((hb7.block _ (lt_of_some Bo.out)).trans Bo.out)
          have Br7 := hidK ((hb7.block _ (lt_of_some Br.out)).trans Br.out)
          clear o0 o1 o2 o3 o4 o5
          obtain ⟨o0, o1, o2, o3, o4, o5⟩ := cs6 Bo7.out
          obtain ⟨r0, r1, r2, r3, r4, r5, r6, r7⟩ := cs8 Br7.out
          have fo0 := froK Bo7.out 0
          have fo1 := froK Bo7.out 1
          have fo2 := froK Bo7.out 2
          have fo3 := froK Bo7.out 3
          have fo4 := froK Bo7.out 4
          have fo5 := froK Bo7.out 5
          have fr0 := froK Br7.out 0
          have fr1 := froK Br7.out 1
          have fr2 := froK Br7.out 2
          have fr3 := froK Br7.out 3
          have fr4 := froK Br7.out 4
          have fr5 := froK Br7.out 5
          have fr6 := froK Br7.out 6
          have fr7 := froK Br7.out 7
          have hne : ¬ w.heap.size + 1 + 1 = w4.heap.size := by omega
          have hne2 : ¬ w4.heap.size = w.heap.size + 1 + 1 := by omega
          have hol7 := lt_of_some Bo7.out
          have hrl7 := lt_of_some Br7.out
          clear hown7 hgr7 hb7 hR hV9 h45 hle hik hkn hcap
          go_wp2
          refine bodyPost_ret (v := .agg #[.slice g1 m1 n1, .slice g2 m2 n2, .slice g3 m3 n3, .slice t1 (1) t3, .slice g5 m5 n5, .int .i64 c.now, .string ⟨#[]⟩, .int .i64 0]) (by simp [results, Tryz.results17, go_sem, *]) rfl ⟨⟨g1, m1, n1, g2, m2, n2, g3, m3, n3, t1, 1, t3, g5, m5, n5⟩, ⟨addX c x, ⟨#[]⟩, 0⟩, rfl, HV.out, ?_, set_below (show w.heap.size ≤ w.heap.size + 1 + 1 by omega) (set_below (show w.heap.size ≤ w.heap.size + 1 + 1 by omega) (set_below (show w.heap.size ≤ w.heap.size + 1 + 1 by omega) (set_below (show w.heap.size ≤ w.heap.size + 1 + 1 by omega) (set_below (show w.heap.size ≤ w.heap.size + 1 + 1 by omega) (set_below (show w.heap.size ≤ w.heap.size + 1 + 1 by omega) (set_below (show w.heap.size ≤ w.heap.size + 1 + 1 by omega) (set_below (show w.heap.size ≤ w.heap.size + 1 + 1 by omega) (set_below (show w.heap.size ≤ w4.heap.size by omega) (HB7.out)))))))))⟩
          have hkeep : ∀ k9, w3.heap.size ≤ k9 → ¬ k9 = w4.heap.size → (((((((((w7.setCell ⟨w4.heap.size, 3, none⟩ (.slice t1 (1) t3)).setCell ⟨w.heap.size + 1 + 1, 0, none⟩ (.slice g1 m1 n1)).setCell ⟨w.heap.size + 1 + 1, 1, none⟩ (.slice g2 m2 n2)).setCell ⟨w.heap.size + 1 + 1, 2, none⟩ (.slice g3 m3 n3)).setCell ⟨w.heap.size + 1 + 1, 3, none⟩ (.slice t1 (1) t3)).setCell ⟨w.heap.size + 1 + 1, 4, none⟩ (.slice g5 m5 n5)).setCell ⟨w.heap.size + 1 + 1, 5, none⟩ (.int .i64 c.now)).setCell ⟨w.heap.size + 1 + 1, 6, none⟩ (.string ⟨#[]⟩)).setCell ⟨w.heap.size + 1 + 1, 7, none⟩ (.int .i64 0)).heap[k9]? = w7.heap[k9]? := fun k9 h1 h2 => by rw [Below.heap_setCell _ _ _ _ (show k9 ≠ w.heap.size + 1 + 1 by omega), Below.heap_setCell _ _ _ _ (show k9 ≠ w.heap.size + 1 + 1 by omega), Below.heap_setCell _ _ _ _ (show k9 ≠ w.heap.size + 1 + 1 by omega), Below.heap_setCell _ _ _ _ (show k9 ≠ w.heap.size + 1 + 1 by omega), Below.heap_setCell _ _ _ _ (show k9 ≠ w.heap.size + 1 + 1 by omega), Below.heap_setCell _ _ _ _ (show k9 ≠ w.heap.size + 1 + 1 by omega), Below.heap_setCell _ _ _ _ (show k9 ≠ w.heap.size + 1 + 1 by omega), Below.heap_setCell _ _ _ _ (show k9 ≠ w.heap.size + 1 + 1 by omega), Below.heap_setCell _ _ _ _ (show k9 ≠ w4.heap.size by omega)]
          refine ⟨(HFR.out.n.keep (w' := (((((((((w7.setCell ⟨w4.heap.size, 3, none⟩ (.slice t1 (1) t3)).setCell ⟨w.heap.size + 1 + 1, 0, none⟩ (.slice g1 m1 n1)).setCell ⟨w.heap.size + 1 + 1, 1, none⟩ (.slice g2 m2 n2)).setCell ⟨w.heap.size + 1 + 1, 2, none⟩ (.slice g3 m3 n3)).setCell ⟨w.heap.size + 1 + 1, 3, none⟩ (.slice t1 (1) t3)).setCell ⟨w.heap.size + 1 + 1, 4, none⟩ (.slice g5 m5 n5)).setCell ⟨w.heap.size + 1 + 1, 5, none⟩ (.int .i64 c.now)).setCell ⟨w.heap.size + 1 + 1, 6, none⟩ (.string ⟨#[]⟩)).setCell ⟨w.heap.size + 1 + 1, 7, none⟩ (.int .i64 0))) (S' := fun _ => True) (fun k hk s => (hkeep k s (by omega)).trans (H47.out.block k hk)) (fun _ _ _ => trivial)), (HFR.out.k.keep (w' := (((((((((w7.setCell ⟨w4.heap.size, 3, none⟩ (.slice t1 (1) t3)).setCell ⟨w.heap.size + 1 + 1, 0, none⟩ (.slice g1 m1 n1)).setCell ⟨w.heap.size + 1 + 1, 1, none⟩ (.slice g2 m2 n2)).setCell ⟨w.heap.size + 1 + 1, 2, none⟩ (.slice g3 m3 n3)).setCell ⟨w.heap.size + 1 + 1, 3, none⟩ (.slice t1 (1) t3)).setCell ⟨w.heap.size + 1 + 1, 4, none⟩ (.slice g5 m5 n5)).setCell ⟨w.heap.size + 1 + 1, 5, none⟩ (.int .i64 c.now)).setCell ⟨w.heap.size + 1 + 1, 6, none⟩ (.string ⟨#[]⟩)).setCell ⟨w.heap.size + 1 + 1, 7, none⟩ (.int .i64 0))) (S' := fun _ => True) (fun k hk s => (hkeep k s (by omega)).trans (H47.out.block k hk)) (fun _ _ _ => trivial)), (HFR.out.v.keep (w' := (((((((((w7.setCell ⟨w4.heap.size, 3, none⟩ (.slice t1 (1) t3)).setCell ⟨w.heap.size + 1 + 1, 0, none⟩ (.slice g1 m1 n1)).setCell ⟨w.heap.size + 1 + 1, 1, none⟩ (.slice g2 m2 n2)).setCell ⟨w.heap.size + 1 + 1, 2, none⟩ (.slice g3 m3 n3)).setCell ⟨w.heap.size + 1 + 1, 3, none⟩ (.slice t1 (1) t3)).setCell ⟨w.heap.size + 1 + 1, 4, none⟩ (.slice g5 m5 n5)).setCell ⟨w.heap.size + 1 + 1, 5, none⟩ (.int .i64 c.now)).setCell ⟨w.heap.size + 1 + 1, 6, none⟩ (.string ⟨#[]⟩)).setCell ⟨w.heap.size + 1 + 1, 7, none⟩ (.int .i64 0))) (S' := fun _ => True) (fun k hk s => (hkeep k s (by omega)).trans (H47.out.block k hk)) (fun _ _ _ => trivial)), (HR7.out.keep (w' := (((((((((w7.setCell ⟨w4.heap.size, 3, none⟩ (.slice t1 (1) t3)).setCell ⟨w.heap.size + 1 + 1, 0, none⟩ (.slice g1 m1 n1)).setCell ⟨w.heap.size + 1 + 1, 1, none⟩ (.slice g2 m2 n2)).setCell ⟨w.heap.size + 1 + 1, 2, none⟩ (.slice g3 m3 n3)).setCell ⟨w.heap.size + 1 + 1, 3, none⟩ (.slice t1 (1) t3)).setCell ⟨w.heap.size + 1 + 1, 4, none⟩ (.slice g5 m5 n5)).setCell ⟨w.heap.size + 1 + 1, 5, none⟩ (.int .i64 c.now)).setCell ⟨w.heap.size + 1 + 1, 6, none⟩ (.string ⟨#[]⟩)).setCell ⟨w.heap.size + 1 + 1, 7, none⟩ (.int .i64 0))) (S' := fun _ => True) (fun k hk s => hkeep k (by rcases s with s | s <;> omega) (by rcases s with s | s <;> omega)) (fun _ _ _ => trivial)), (HFR.out.p.keep (w' := (((((((((w7.setCell ⟨w4.heap.size, 3, none⟩ (.slice t1 (1) t3)).setCell ⟨w.heap.size + 1 + 1, 0, none⟩ (.slice g1 m1 n1)).setCell ⟨w.heap.size + 1 + 1, 1, none⟩ (.slice g2 m2 n2)).setCell ⟨w.heap.size + 1 + 1, 2, none⟩ (.slice g3 m3 n3)).setCell ⟨w.heap.size + 1 + 1, 3, none⟩ (.slice t1 (1) t3)).setCell ⟨w.heap.size + 1 + 1, 4, none⟩ (.slice g5 m5 n5)).setCell ⟨w.heap.size + 1 + 1, 5, none⟩ (.int .i64 c.now)).setCell ⟨w.heap.size + 1 + 1, 6, none⟩ (.string ⟨#[]⟩)).setCell ⟨w.heap.size + 1 + 1, 7, none⟩ (.int .i64 0))) (S' := fun _ => True) (fun k hk s => (hkeep k s (by omega)).trans (H47.out.block k hk)) (fun _ _ _ => trivial))⟩)
      by_cases hcap : n4 = k
      all_goals (
        go_wp2_with (first | (at_builtin; refine wpList_append_any rfl _ _ 36 rfl q2.w.heap.size 55 i5 (.agg #[.string ⟨#[]⟩, .int .i64 0, .string ⟨#[]⟩, .bool false, .string ⟨#[]⟩]) 5 64 Tryz.underlying36 HI0.out.1 HI0.out.2.1 HI0.out.2.2.1 HI0.out.2.2.2 rfl (by decide) _ _ _ rfl (HOW.out) _ k _ (vss.take k).flatten rfl (take_flat HVR.out.all (by omega)) (fun j u hu => by obtain ⟨g, e, hgl, h3⟩ := HCQ.out _ _ (take_at hu); cases e <;> exact ⟨_, rfl, by simp only [Addr.add_lit, Nat.zero_add]; exact (cell_below (below1 q2.w _) hgl).trans h3⟩) (mem_take_one HVR.out.one k).1 (by unfold maxLen; omega) (by omega) (by simp) ?_))
        intro v5 w5 hown5 hgr5
        replace hown5 : w5.ownsRow q2.w.heap.size 55 5 v5 k (vss.take k).flatten := by simpa using hown5
        have hb5 : Below q2.w.heap.size q2.w w5 := (below1 q2.w (.cells #[] 55)).grown hgr5 (by simp) (fun g hg => by simp [Value.ownBlock] at hg; omega)
        obtain ⟨s1, s2, s3, rfl⟩ := owns_slice hown5
        have HO5 := hidK hown5
        have H5 := hidK hb5
        have hs6 := hb5.size
        have Bx5 := hidK ((hb5.block _ (lt_of_some Bx.out)).trans Bx.out)
        obtain ⟨x0, x1, x2, x3, x4⟩ := cs5 Bx5.out
        have hxl := lt_of_some Bx5.out
        clear hown5 hgr5 hb5 o0 o1 o2 o3 o4 o5 HOW
        go_wp2_with (first | (at_builtin; refine wpList_append_any rfl _ _ 36 rfl q2.w.heap.size 55 i5 (.agg #[.string ⟨#[]⟩, .int .i64 0, .string ⟨#[]⟩, .bool false, .string ⟨#[]⟩]) 5 64 Tryz.underlying36 HI0.out.1 HI0.out.2.1 HI0.out.2.2.1 HI0.out.2.2.2 rfl (by decide) _ _ _ rfl (HO5.out.alloc _) _ 1 _ [.string x.n, .int .i64 x.z, .string x.k, .bool x.x, .string x.v] rfl rfl (fun j u hu => ⟨_, rfl, by rw [Addr.add_lit, Nat.zero_add, cellK (heap_alloc_new w5 _)]; simpa using hu⟩) (by simp [Value.oneCell']) (by unfold maxLen; omega) (by omega) (by simp; omega) ?_))
        intro v6 w6 hown6 hgr6
        have hb6 : Below q2.w.heap.size q2.w w6 := (H5.out.alloc H5.out.size _).grown hgr6 (by simp; omega) (fun g hg => (HO5.out.lt g hg).1)
        obtain ⟨r1, r2, r3, rfl⟩ := owns_slice hown6
        have HO6 := hidK hown6
        have H6 := hidK hb6
        have hs7 := hb6.size
        have Bo6 := hidK ((hb6.block _ (lt_of_some Bo.out)).trans Bo.out)
        obtain ⟨o0, o1, o2, o3, o4, o5⟩ := cs6 Bo6.out
        have hol := lt_of_some Bo6.out
        clear hown6 hgr6 hb6 x0 x1 x2 x3 x4 hxl
        go_wp2_with (first | (at_builtin; refine wpList_append_any rfl _ _ 36 rfl q2.w.heap.size 55 i5 (.agg #[.string ⟨#[]⟩, .int .i64 0, .string ⟨#[]⟩, .bool false, .string ⟨#[]⟩]) 5 64 Tryz.underlying36 HI0.out.1 HI0.out.2.1 HI0.out.2.2.1 HI0.out.2.2.2 rfl (by decide) _ _ _ rfl (HO6.out) _ (l4 - k) _ (vss.drop k).flatten rfl (by rw [drop_flat HVR.out.all, hvl]) (fun j u hu => by first | (rw [List.drop_eq_nil_of_le (by omega)] at hu; simp at hu; done) | (obtain ⟨g, e, hgl, h3⟩ := HCQ.out _ _ (drop_at HVR.out.all (by omega) hu); cases e <;> exact ⟨_, rfl, by simp only [Addr.add_lit, Nat.zero_add]; exact (cell_below H6.out hgl).trans h3⟩)) (mem_take_one HVR.out.one k).2 (by unfold maxLen; omega) (by omega) (by omega) ?_))
        intro v7 w7 hown7 hgr7
        have hb7 : Below q2.w.heap.size q2.w w7 := H6.out.grown hgr7 (by omega) (fun g hg => (HO6.out.lt g hg).1)
        replace hown7 : w7.ownsRow q2.w.heap.size 55 5 v7 (l4 + 1) (inAt k [.string x.n, .int .i64 x.z, .string x.k, .bool x.x, .string x.v] vss).flatten := by
          have e9 : k + 1 + (l4 - k) = l4 + 1 := by omega
          try rw [e9] at hown7
          simpa [inAt] using hown7
        obtain ⟨t1, t2, t3, rfl⟩ := owns_slice hown7
        have H7 := hidK hb7
        have H47 := hidK (H4.out.trans (hb7.mono H4.out.size))
        have HB7 := hidK (HB.out.trans (hb7.mono HB.out.size))
        obtain ⟨H9, hV9⟩ := ((HVR.out.below H47.out).keep (w' := w7) (S' := fun k => (w3.heap.size ≤ k ∧ k < w4.heap.size) ∨ q2.w.heap.size ≤ k) (fun _ _ _ _ => rfl) (fun _ _ s => .inl s)).ins (p := k) (r := xdF x) (vs := [.string x.n, .int .i64 x.z, .string x.k, .bool x.x, .string x.v]) (hh := fun _ => 0) rfl rfl (fun i f hf => by rcases i with _ | _ | _ | _ | _ | i <;> simp [xdF] at hf <;> subst hf; exact ⟨_, rfl, rfl, z0⟩; exact ⟨_, rfl, rfl⟩; exact ⟨_, rfl, rfl, z2⟩; exact ⟨_, rfl, rfl⟩; exact ⟨_, rfl, rfl, z4⟩) (fun i zs h _ => by rcases i with _ | _ | _ | _ | _ | i <;> simp [xdF] at h) (fun i i2 zs zs2 h _ _ _ => by rcases i with _ | _ | _ | _ | _ | i <;> simp [xdF] at h) (show k ≤ (c.xs.map xdF).length by rw [List.length_map]; omega)
        have h45 : VRecs w7 (fun k => (w3.heap.size ≤ k ∧ k < w4.heap.size) ∨ q2.w.heap.size ≤ k) 5 ((inAt k x c.xs).map xdF) (inAt k [.string x.n, .int .i64 x.z, .string x.k, .bool x.x, .string x.v] vss) H9 := by rw [inAt_map]; exact hV9
        have hle : ((inAt k x c.xs).map xdF).length = l4 + 1 := by rw [List.length_map, inAt_len (by omega)]; omega
        obtain ⟨u1, u2, hq, hR⟩ := h45.own hown7 hle.symm (by decide) (fun g hg => .inr (hown7.lt g hg).1)
        rw [hle] at hq hR
        simp only [Value.slice.injEq] at hq
        obtain ⟨rfl, rfl, rfl⟩ := hq
        rw [HPL.out] at hR
        have HR7 := hidK hR
        have hs8 := hb7.size
        have Bo7 := hidK ((hb7.block _ (lt_of_some Bo.out)).trans Bo.out)
        have Br7 := hidK ((hb7.block _ (lt_of_some Br.out)).trans Br.out)
        clear o0 o1 o2 o3 o4 o5
        obtain ⟨o0, o1, o2, o3, o4, o5⟩ := cs6 Bo7.out
        obtain ⟨r0, r1, r2, r3, r4, r5, r6, r7⟩ := cs8 Br7.out
        have fo0 := froK Bo7.out 0
        have fo1 := froK Bo7.out 1
        have fo2 := froK Bo7.out 2
        have fo3 := froK Bo7.out 3
        have fo4 := froK Bo7.out 4
        have fo5 := froK Bo7.out 5
        have fr0 := froK Br7.out 0
        have fr1 := froK Br7.out 1
        have fr2 := froK Br7.out 2
        have fr3 := froK Br7.out 3
        have fr4 := froK Br7.out 4
        have fr5 := froK Br7.out 5
        have fr6 := froK Br7.out 6
        have fr7 := froK Br7.out 7
        have hne : ¬ w.heap.size + 1 + 1 = w4.heap.size := by omega
        have hne2 : ¬ w4.heap.size = w.heap.size + 1 + 1 := by omega
        have hol7 := lt_of_some Bo7.out
        have hrl7 := lt_of_some Br7.out
        clear hown7 hgr7 hb7 hR hV9 h45 hle hik hkn hcap
        go_wp2
        refine bodyPost_ret (v := .agg #[.slice g1 m1 n1, .slice g2 m2 n2, .slice g3 m3 n3, .slice t1 (l4 + 1) t3, .slice g5 m5 n5, .int .i64 c.now, .string ⟨#[]⟩, .int .i64 0]) (by simp [results, Tryz.results17, go_sem, *]) rfl ⟨⟨g1, m1, n1, g2, m2, n2, g3, m3, n3, t1, l4 + 1, t3, g5, m5, n5⟩, ⟨addX c x, ⟨#[]⟩, 0⟩, rfl, HV.out, ?_, set_below (show w.heap.size ≤ w.heap.size + 1 + 1 by omega) (set_below (show w.heap.size ≤ w.heap.size + 1 + 1 by omega) (set_below (show w.heap.size ≤ w.heap.size + 1 + 1 by omega) (set_below (show w.heap.size ≤ w.heap.size + 1 + 1 by omega) (set_below (show w.heap.size ≤ w.heap.size + 1 + 1 by omega) (set_below (show w.heap.size ≤ w.heap.size + 1 + 1 by omega) (set_below (show w.heap.size ≤ w.heap.size + 1 + 1 by omega) (set_below (show w.heap.size ≤ w.heap.size + 1 + 1 by omega) (set_below (show w.heap.size ≤ w4.heap.size by omega) (HB7.out)))))))))⟩
        have hkeep : ∀ k9, w3.heap.size ≤ k9 → ¬ k9 = w4.heap.size → (((((((((w7.setCell ⟨w4.heap.size, 3, none⟩ (.slice t1 (l4 + 1) t3)).setCell ⟨w.heap.size + 1 + 1, 0, none⟩ (.slice g1 m1 n1)).setCell ⟨w.heap.size + 1 + 1, 1, none⟩ (.slice g2 m2 n2)).setCell ⟨w.heap.size + 1 + 1, 2, none⟩ (.slice g3 m3 n3)).setCell ⟨w.heap.size + 1 + 1, 3, none⟩ (.slice t1 (l4 + 1) t3)).setCell ⟨w.heap.size + 1 + 1, 4, none⟩ (.slice g5 m5 n5)).setCell ⟨w.heap.size + 1 + 1, 5, none⟩ (.int .i64 c.now)).setCell ⟨w.heap.size + 1 + 1, 6, none⟩ (.string ⟨#[]⟩)).setCell ⟨w.heap.size + 1 + 1, 7, none⟩ (.int .i64 0)).heap[k9]? = w7.heap[k9]? := fun k9 h1 h2 => by rw [Below.heap_setCell _ _ _ _ (show k9 ≠ w.heap.size + 1 + 1 by omega), Below.heap_setCell _ _ _ _ (show k9 ≠ w.heap.size + 1 + 1 by omega), Below.heap_setCell _ _ _ _ (show k9 ≠ w.heap.size + 1 + 1 by omega), Below.heap_setCell _ _ _ _ (show k9 ≠ w.heap.size + 1 + 1 by omega), Below.heap_setCell _ _ _ _ (show k9 ≠ w.heap.size + 1 + 1 by omega), Below.heap_setCell _ _ _ _ (show k9 ≠ w.heap.size + 1 + 1 by omega), Below.heap_setCell _ _ _ _ (show k9 ≠ w.heap.size + 1 + 1 by omega), Below.heap_setCell _ _ _ _ (show k9 ≠ w.heap.size + 1 + 1 by omega), Below.heap_setCell _ _ _ _ (show k9 ≠ w4.heap.size by omega)]
        refine ⟨(HFR.out.n.keep (w' := (((((((((w7.setCell ⟨w4.heap.size, 3, none⟩ (.slice t1 (l4 + 1) t3)).setCell ⟨w.heap.size + 1 + 1, 0, none⟩ (.slice g1 m1 n1)).setCell ⟨w.heap.size + 1 + 1, 1, none⟩ (.slice g2 m2 n2)).setCell ⟨w.heap.size + 1 + 1, 2, none⟩ (.slice g3 m3 n3)).setCell ⟨w.heap.size + 1 + 1, 3, none⟩ (.slice t1 (l4 + 1) t3)).setCell ⟨w.heap.size + 1 + 1, 4, none⟩ (.slice g5 m5 n5)).setCell ⟨w.heap.size + 1 + 1, 5, none⟩ (.int .i64 c.now)).setCell ⟨w.heap.size + 1 + 1, 6, none⟩ (.string ⟨#[]⟩)).setCell ⟨w.heap.size + 1 + 1, 7, none⟩ (.int .i64 0))) (S' := fun _ => True) (fun k hk s => (hkeep k s (by omega)).trans (H47.out.block k hk)) (fun _ _ _ => trivial)), (HFR.out.k.keep (w' := (((((((((w7.setCell ⟨w4.heap.size, 3, none⟩ (.slice t1 (l4 + 1) t3)).setCell ⟨w.heap.size + 1 + 1, 0, none⟩ (.slice g1 m1 n1)).setCell ⟨w.heap.size + 1 + 1, 1, none⟩ (.slice g2 m2 n2)).setCell ⟨w.heap.size + 1 + 1, 2, none⟩ (.slice g3 m3 n3)).setCell ⟨w.heap.size + 1 + 1, 3, none⟩ (.slice t1 (l4 + 1) t3)).setCell ⟨w.heap.size + 1 + 1, 4, none⟩ (.slice g5 m5 n5)).setCell ⟨w.heap.size + 1 + 1, 5, none⟩ (.int .i64 c.now)).setCell ⟨w.heap.size + 1 + 1, 6, none⟩ (.string ⟨#[]⟩)).setCell ⟨w.heap.size + 1 + 1, 7, none⟩ (.int .i64 0))) (S' := fun _ => True) (fun k hk s => (hkeep k s (by omega)).trans (H47.out.block k hk)) (fun _ _ _ => trivial)), (HFR.out.v.keep (w' := (((((((((w7.setCell ⟨w4.heap.size, 3, none⟩ (.slice t1 (l4 + 1) t3)).setCell ⟨w.heap.size + 1 + 1, 0, none⟩ (.slice g1 m1 n1)).setCell ⟨w.heap.size + 1 + 1, 1, none⟩ (.slice g2 m2 n2)).setCell ⟨w.heap.size + 1 + 1, 2, none⟩ (.slice g3 m3 n3)).setCell ⟨w.heap.size + 1 + 1, 3, none⟩ (.slice t1 (l4 + 1) t3)).setCell ⟨w.heap.size + 1 + 1, 4, none⟩ (.slice g5 m5 n5)).setCell ⟨w.heap.size + 1 + 1, 5, none⟩ (.int .i64 c.now)).setCell ⟨w.heap.size + 1 + 1, 6, none⟩ (.string ⟨#[]⟩)).setCell ⟨w.heap.size + 1 + 1, 7, none⟩ (.int .i64 0))) (S' := fun _ => True) (fun k hk s => (hkeep k s (by omega)).trans (H47.out.block k hk)) (fun _ _ _ => trivial)), (HR7.out.keep (w' := (((((((((w7.setCell ⟨w4.heap.size, 3, none⟩ (.slice t1 (l4 + 1) t3)).setCell ⟨w.heap.size + 1 + 1, 0, none⟩ (.slice g1 m1 n1)).setCell ⟨w.heap.size + 1 + 1, 1, none⟩ (.slice g2 m2 n2)).setCell ⟨w.heap.size + 1 + 1, 2, none⟩ (.slice g3 m3 n3)).setCell ⟨w.heap.size + 1 + 1, 3, none⟩ (.slice t1 (l4 + 1) t3)).setCell ⟨w.heap.size + 1 + 1, 4, none⟩ (.slice g5 m5 n5)).setCell ⟨w.heap.size + 1 + 1, 5, none⟩ (.int .i64 c.now)).setCell ⟨w.heap.size + 1 + 1, 6, none⟩ (.string ⟨#[]⟩)).setCell ⟨w.heap.size + 1 + 1, 7, none⟩ (.int .i64 0))) (S' := fun _ => True) (fun k hk s => hkeep k (by rcases s with s | s <;> omega) (by rcases s with s | s <;> omega)) (fun _ _ _ => trivial)), (HFR.out.p.keep (w' := (((((((((w7.setCell ⟨w4.heap.size, 3, none⟩ (.slice t1 (l4 + 1) t3)).setCell ⟨w.heap.size + 1 + 1, 0, none⟩ (.slice g1 m1 n1)).setCell ⟨w.heap.size + 1 + 1, 1, none⟩ (.slice g2 m2 n2)).setCell ⟨w.heap.size + 1 + 1, 2, none⟩ (.slice g3 m3 n3)).setCell ⟨w.heap.size + 1 + 1, 3, none⟩ (.slice t1 (l4 + 1) t3)).setCell ⟨w.heap.size + 1 + 1, 4, none⟩ (.slice g5 m5 n5)).setCell ⟨w.heap.size + 1 + 1, 5, none⟩ (.int .i64 c.now)).setCell ⟨w.heap.size + 1 + 1, 6, none⟩ (.string ⟨#[]⟩)).setCell ⟨w.heap.size + 1 + 1, 7, none⟩ (.int .i64 0))) (S' := fun _ => True) (fun k hk s => (hkeep k s (by omega)).trans (H47.out.block k hk)) (fun _ _ _ => trivial))⟩)

end Rc
end Go.Proofs.YtphapcngffpjiaaGreatDoor

namespace Go.Proofs.YtphapcngffpjiaaGreatDoor
open Go.RowKit Rc Mk

def AddClaimClV (c : Cl) : Fact := fun v w => ∃ d : Ad, v = .agg #[.slice d.a1 d.l1 d.c1, .slice d.a2 d.l2 d.c2, .slice d.a3 d.l3 d.c3, .slice d.a4 d.l4 d.c4, .slice d.a5 d.l5 d.c5, .int .i64 c.now] ∧ ClRow w d c.raw
theorem AddClaimClV.mono (c : Cl) : Fact.Mono (AddClaimClV c) := by
  rintro v w w' ⟨d, h1, h2⟩ hb
  exact ⟨d, h1, h2.below hb⟩

set_option linter.unusedVariables false in
set_option maxRecDepth 100000 in
set_option maxHeartbeats 6400000 in
theorem addClaim_walk (d : Ad) (c : Cl) (x : Xd) (E : Nat → Addr) (w : World) (hr : ClRow w d c.raw) (z0 : x.n.size ≤ 9223372036854775807) (z2 : x.k.size ≤ 9223372036854775807) (z4 : x.v.size ≤ 9223372036854775807) (hG : Ers w E) :
    Calls Tryz.prog 4 #[.agg #[.slice d.a1 d.l1 d.c1, .slice d.a2 d.l2 d.c2, .slice d.a3 d.l3 d.c3, .slice d.a4 d.l4 d.c4, .slice d.a5 d.l5 d.c5, .int .i64 c.now], .agg #[.string x.n, .int .i64 x.z, .string x.k, .bool x.x, .string x.v]] w fun e w' => e = .returned (.bool true) ∧ Below w.heap.size w w' := by
  have HR := hidK hr
  have HE := hidK hG
  have HB := hidK (Below.refl w.heap.size w)
  clear hr hG
  go_enter Tryz.func4, Tryz.ntmps4
  go_wp2_with fail
  refine (szCluster_any d c _ (HR.out.below (HB.out.trans ((below2 _ _ _).mono HB.out.size)))).mono ?_
  rintro e w1 ⟨r, rfl, hi, hb⟩
  obtain ⟨HA0, HA1, hbx⟩ := slots2 hb
  have Bk := hidK HA0
  have By := hidK HA1
  replace HB := hidK (HB.out.trans (hbx.mono HB.out.size))
  clear hb hbx HA0 HA1
  rcases hi with rfl | ⟨hr0, hrm, hft⟩
  · obtain ⟨k0, k1, k2, k3, k4, k5⟩ := cs6 Bk.out
    have ltk_1 := lt_of_some Bk.out
    obtain ⟨y0, y1, y2, y3, y4⟩ := cs5 By.out
    have lty_1 := lt_of_some By.out
    go_wp2
    go_ret
    exact ⟨rfl, HB.out⟩
  have HF := hidK hft
  clear hft
  obtain ⟨k0, k1, k2, k3, k4, k5⟩ := cs6 Bk.out
  have ltk_1 := lt_of_some Bk.out
  obtain ⟨y0, y1, y2, y3, y4⟩ := cs5 By.out
  have lty_1 := lt_of_some By.out
  go_wp2_with fail
  refine (szClaim_any x.n x.z x.k x.x x.v r _ z0 z2 z4 hr0 hrm).mono ?_
  rintro e w2 ⟨r2, rfl, hi, hb⟩
  clear k0 k1 k2 k3 k4 k5 ltk_1 y0 y1 y2 y3 y4 lty_1
  replace Bk := hidK ((hb.block _ (lt_of_some Bk.out)).trans Bk.out)
  replace By := hidK ((hb.block _ (lt_of_some By.out)).trans By.out)
  replace HB := hidK (HB.out.trans (hb.mono HB.out.size))
  clear hb
  rcases hi with rfl | ⟨hr1, -, -⟩
  · obtain ⟨k0, k1, k2, k3, k4, k5⟩ := cs6 Bk.out
    have ltk_2 := lt_of_some Bk.out
    obtain ⟨y0, y1, y2, y3, y4⟩ := cs5 By.out
    have lty_2 := lt_of_some By.out
    go_wp2
    go_ret
    exact ⟨rfl, HB.out⟩
  clear hr0 hrm
  obtain ⟨k0, k1, k2, k3, k4, k5⟩ := cs6 Bk.out
  have ltk_2 := lt_of_some Bk.out
  obtain ⟨y0, y1, y2, y3, y4⟩ := cs5 By.out
  have lty_2 := lt_of_some By.out
  go_wp2_with fail
  clear k0 k1 k2 k3 k4 k5 ltk_2 y0 y1 y2 y3 y4 lty_2
  rename_i K0 hK0
  refine wp_region_grow_last (by kernel_rfl) rfl rfl (by kernel_rfl) ?_
  refine' Grow.stepC _ rfl ?_ ?_
  rotate_left 1
  · refine Obl.plain rfl ?_
    intro ac wg K hsz hW hf hK; clear hsz
    have e2 := hf 2 (by decide)
    simp [slotFact, List.lookup] at e2
    clear hf
    obtain ⟨k0, k1, k2, k3, k4, k5⟩ := cs6 ((hW.block _ (lt_of_some Bk.out)).trans Bk.out)
    go_simp
    refine hK _ _ (Below.refl _ _) ?_
    with_reducible rfl
  refine Grow.step (AddClaimClV c) rfl (AddClaimClV.mono c) ?_ ?_
  · refine Obl.plain rfl ?_
    intro ac wg K hsz hW hf hK; clear hsz
    have e23 := hf 23 (by decide)
    simp [slotFact, List.lookup] at e23
    clear hf
    go_simp
    refine (toCluster_any d c _ (HR.out.below (HB.out.trans (hW.mono HB.out.size))) HF.out).mono ?_
    rintro e w6 ⟨d3, rfl, ho, hb6⟩
    exact hK _ _ hb6 ⟨d3, rfl, ho.row⟩
  refine' Grow.stepC _ rfl ?_ ?_
  rotate_left 1
  · refine Obl.plain rfl ?_
    intro ac wg K hsz hW hf hK; clear hsz
    have e3 := hf 3 (by decide)
    simp [slotFact, List.lookup] at e3
    clear hf
    obtain ⟨y0, y1, y2, y3, y4⟩ := cs5 ((hW.block _ (lt_of_some By.out)).trans By.out)
    go_simp
    refine hK _ _ (Below.refl _ _) ?_
    with_reducible rfl
  refine' Grow.stepC (.agg #[.string x.n, .int .i64 x.z, .string x.k, .bool x.x, .string x.v]) rfl ?_ ?_
  · refine Obl.plain rfl ?_
    intro ac wg K hsz hW hf hK; clear hsz
    have e25 := hf 25 (by decide)
    simp [slotFact, List.lookup] at e25
    clear hf
    go_simp
    refine (toClaim_any x.n x.z x.k x.x x.v _).mono ?_
    rintro e w6 ⟨rfl, hb6⟩
    exact hK _ _ hb6 rfl
  refine Grow.step (AnsF (AddClaimIs c x)) rfl (AnsF.mono _) ?_ ?_
  · refine Obl.plain rfl ?_
    intro ac wg K hsz hW hf hK; clear hsz
    have e24 := hf 24 (by decide)
    simp [slotFact, List.lookup] at e24
    have e26 := hf 26 (by decide)
    simp [slotFact, List.lookup] at e26
    clear hf
    obtain ⟨d3, e24, hrow⟩ := e24
    go_simp
    refine (saddX_any d3 c x _ hrow z0 z2 z4).mono ?_
    rintro e w6 ⟨dg, o, rfl, hI, ho, hb6⟩
    exact hK _ _ hb6 ⟨dg, o, rfl, hI, ho⟩
  refine Grow.step (BoxF w2.heap.size) rfl (BoxF.mono _) ?_ ?_
  · refine Obl.plain rfl ?_
    intro ac wg K hsz hW hf hK; clear hsz
    clear hf
    go_simp
    exact hK _ _ (below1 _ _) ⟨_, rfl, hW.size, Array.getElem?_push_size⟩
  refine Grow.done ?_
  intro q wz hW hf
  simp only [List.forall_mem_cons] at hf
  obtain ⟨⟨b6, h6, hb6, hg6⟩, ⟨dg0, o, h27, hIS, hR0⟩, -⟩ := hf
  obtain ⟨t0, t1, t2, t3, t4, t5, t6, t7⟩ := cs8 hg6
  have f0 := froK hg6 0
  have f1 := froK hg6 1
  have f2 := froK hg6 2
  have f3 := froK hg6 3
  have f4 := froK hg6 4
  have f5 := froK hg6 5
  have f6 := froK hg6 6
  have f7 := froK hg6 7
  have Ba := hidK (put8 (v0 := .slice dg0.a1 dg0.l1 dg0.c1) (v1 := .slice dg0.a2 dg0.l2 dg0.c2) (v2 := .slice dg0.a3 dg0.l3 dg0.c3) (v3 := .slice dg0.a4 dg0.l4 dg0.c4) (v4 := .slice dg0.a5 dg0.l5 dg0.c5) (v5 := .int .i64 o.c.now) (v6 := .string o.n) (v7 := .int .i64 o.p) hg6)
  have HWX : Hid (Below w2.heap.size w2 ((((((((wz.setCell ⟨b6, 0, none⟩ (.slice dg0.a1 dg0.l1 dg0.c1)).setCell ⟨b6, 1, none⟩ (.slice dg0.a2 dg0.l2 dg0.c2)).setCell ⟨b6, 2, none⟩ (.slice dg0.a3 dg0.l3 dg0.c3)).setCell ⟨b6, 3, none⟩ (.slice dg0.a4 dg0.l4 dg0.c4)).setCell ⟨b6, 4, none⟩ (.slice dg0.a5 dg0.l5 dg0.c5)).setCell ⟨b6, 5, none⟩ (.int .i64 o.c.now)).setCell ⟨b6, 6, none⟩ (.string o.n)).setCell ⟨b6, 7, none⟩ (.int .i64 o.p))) := set_below hb6 (set_below hb6 (set_below hb6 (set_below hb6 (set_below hb6 (set_below hb6 (set_below hb6 (set_below hb6 (hW))))))))
  have R0 : Hid (ClFr ((((((((wz.setCell ⟨b6, 0, none⟩ (.slice dg0.a1 dg0.l1 dg0.c1)).setCell ⟨b6, 1, none⟩ (.slice dg0.a2 dg0.l2 dg0.c2)).setCell ⟨b6, 2, none⟩ (.slice dg0.a3 dg0.l3 dg0.c3)).setCell ⟨b6, 3, none⟩ (.slice dg0.a4 dg0.l4 dg0.c4)).setCell ⟨b6, 4, none⟩ (.slice dg0.a5 dg0.l5 dg0.c5)).setCell ⟨b6, 5, none⟩ (.int .i64 o.c.now)).setCell ⟨b6, 6, none⟩ (.string o.n)).setCell ⟨b6, 7, none⟩ (.int .i64 o.p)) dg0 o.c.raw (fun _ => True)) := hR0.past hg6 (fun k hk => put8_ne hk)
  have HIS := hidK hIS
  have hsz6 : wz.heap.size ≤ ((((((((wz.setCell ⟨b6, 0, none⟩ (.slice dg0.a1 dg0.l1 dg0.c1)).setCell ⟨b6, 1, none⟩ (.slice dg0.a2 dg0.l2 dg0.c2)).setCell ⟨b6, 2, none⟩ (.slice dg0.a3 dg0.l3 dg0.c3)).setCell ⟨b6, 3, none⟩ (.slice dg0.a4 dg0.l4 dg0.c4)).setCell ⟨b6, 4, none⟩ (.slice dg0.a5 dg0.l5 dg0.c5)).setCell ⟨b6, 5, none⟩ (.int .i64 o.c.now)).setCell ⟨b6, 6, none⟩ (.string o.n)).setCell ⟨b6, 7, none⟩ (.int .i64 o.p)).heap.size := by simp [World.setCell]
  clear hg6 hIS hR0
  intro K hK
  rw [if_pos (by rfl)]
  simp only [putsAll, List.foldr, Act.put, List.setIfInBounds_toArray, List.set_cons_zero, List.set_cons_succ, h6, h27]
  simp only [List.getLast]
  go_simp
  refine hK _ _ ?_
  refine hK0 _ _ ?_
  clear hK hK0 K K0
  generalize ((((((((wz.setCell ⟨b6, 0, none⟩ (.slice dg0.a1 dg0.l1 dg0.c1)).setCell ⟨b6, 1, none⟩ (.slice dg0.a2 dg0.l2 dg0.c2)).setCell ⟨b6, 2, none⟩ (.slice dg0.a3 dg0.l3 dg0.c3)).setCell ⟨b6, 3, none⟩ (.slice dg0.a4 dg0.l4 dg0.c4)).setCell ⟨b6, 4, none⟩ (.slice dg0.a5 dg0.l5 dg0.c5)).setCell ⟨b6, 5, none⟩ (.int .i64 o.c.now)).setCell ⟨b6, 6, none⟩ (.string o.n)).setCell ⟨b6, 7, none⟩ (.int .i64 o.p)) = X3 at Ba HWX R0 ⊢
  clear t0 t1 t2 t3 t4 t5 t6 t7 f0 f1 f2 f3 f4 f5 f6 f7 hsz6
  have HB3 := hidK (HB.out.trans (HWX.out.mono HB.out.size))
  replace Bk := hidK ((HWX.out.block _ (lt_of_some Bk.out)).trans Bk.out)
  replace By := hidK ((HWX.out.block _ (lt_of_some By.out)).trans By.out)
  clear HB hW
  have HB := HB3
  clear HB3 HWX
  have RR := hidK R0.out.row
  clear R0
  have HY := hidK (Bw.refl X3)
  have HQ3 : Hid (w.heap.size + 1 < X3.heap.size) := lt_of_some By.out
  have HQ6 : Hid (b6 < X3.heap.size) := lt_of_some Ba.out
  obtain ⟨k0, k1, k2, k3, k4, k5⟩ := cs6 Bk.out
  have ltk_2 := lt_of_some Bk.out
  go_wp2_with fail
  refine (toCluster_any d c _ (HR.out.below HB.out) HF.out).mono ?_
  rintro e w4 ⟨d2, rfl, ho, hb⟩
  clear k0 k1 k2 k3 k4 k5 ltk_2
  replace Bk := hidK ((hb.block _ (lt_of_some Bk.out)).trans Bk.out)
  replace By := hidK ((hb.block _ (lt_of_some By.out)).trans By.out)
  replace Ba := hidK ((hb.block _ (lt_of_some Ba.out)).trans Ba.out)
  replace HY := hidK (HY.out.below hb)
  replace HB := hidK (HB.out.trans (hb.mono HB.out.size))
  clear hb
  have HQ4 : Hid (X3.heap.size ≤ w4.heap.size) := by have := HY.out.le; show X3.heap.size ≤ _; omega
  have HO2 := hidK (ho.into (S' := fun k => X3.heap.size ≤ k ∧ k < w4.heap.size) (fun k hk s => ⟨s, hk⟩))
  clear ho
  obtain ⟨k0, k1, k2, k3, k4, k5⟩ := cs6 Bk.out
  have ltk_3 := lt_of_some Bk.out
  obtain ⟨y0, y1, y2, y3, y4⟩ := cs5 By.out
  have lty_3 := lt_of_some By.out
  obtain ⟨a0, a1, a2, a3, a4, a5, a6, a7⟩ := cs8 Ba.out
  have lta_3 := lt_of_some Ba.out
  go_wp2_with fail
  obtain ⟨W, hW0⟩ : ∃ W, W = w4.alloc (.cells #[.slice d2.a1 d2.l1 d2.c1, .slice d2.a2 d2.l2 d2.c2, .slice d2.a3 d2.l3 d2.c3, .slice d2.a4 d2.l4 d2.c4, .slice d2.a5 d2.l5 d2.c5, .int .i64 c.now] 39) := ⟨_, rfl⟩
  have hb : Below (w4.alloc (.cells #[.slice d2.a1 d2.l1 d2.c1, .slice d2.a2 d2.l2 d2.c2, .slice d2.a3 d2.l3 d2.c3, .slice d2.a4 d2.l4 d2.c4, .slice d2.a5 d2.l5 d2.c5, .int .i64 c.now] 39)).heap.size (w4.alloc (.cells #[.slice d2.a1 d2.l1 d2.c1, .slice d2.a2 d2.l2 d2.c2, .slice d2.a3 d2.l3 d2.c3, .slice d2.a4 d2.l4 d2.c4, .slice d2.a5 d2.l5 d2.c5, .int .i64 c.now] 39)) W := by rw [hW0]; exact Below.refl _ _
  rw [← hW0]
  clear hW0
  clear k0 k1 k2 k3 k4 k5 ltk_3 y0 y1 y2 y3 y4 lty_3 a0 a1 a2 a3 a4 a5 a6 a7 lta_3
  obtain ⟨HA0, hbx⟩ := slots1 hb
  replace Bk := hidK ((hbx.block _ (lt_of_some Bk.out)).trans Bk.out)
  replace By := hidK ((hbx.block _ (lt_of_some By.out)).trans By.out)
  replace Ba := hidK ((hbx.block _ (lt_of_some Ba.out)).trans Ba.out)
  have Bx := hidK HA0
  replace HY := hidK (HY.out.below hbx)
  replace HO2 := hidK (HO2.out.below hbx)
  replace HB := hidK (HB.out.trans (hbx.mono HB.out.size))
  clear hb hbx HA0
  rename_i K0 hK0
  refine wp_region_grow_last (by kernel_rfl) rfl rfl (by kernel_rfl) ?_
  refine' Grow.stepC _ rfl ?_ ?_
  rotate_left 1
  · refine Obl.plain rfl ?_
    intro ac wg K hsz hW hf hK; clear hsz
    have e7 := hf 7 (by decide)
    simp [slotFact, List.lookup] at e7
    clear hf
    obtain ⟨k0, k1, k2, k3, k4, k5⟩ := cs6 ((hW.block _ (lt_of_some Bx.out)).trans Bx.out)
    go_simp
    refine hK _ _ (Below.refl _ _) ?_
    with_reducible rfl
  refine' Grow.stepC _ rfl ?_ ?_
  rotate_left 1
  · refine Obl.plain rfl ?_
    intro ac wg K hsz hW hf hK; clear hsz
    have e3 := hf 3 (by decide)
    simp [slotFact, List.lookup] at e3
    clear hf
    obtain ⟨y0, y1, y2, y3, y4⟩ := cs5 ((hW.block _ (lt_of_some By.out)).trans By.out)
    go_simp
    refine hK _ _ (Below.refl _ _) ?_
    with_reducible rfl
  refine' Grow.stepC (.agg #[.string x.n, .int .i64 x.z, .string x.k, .bool x.x, .string x.v]) rfl ?_ ?_
  · refine Obl.plain rfl ?_
    intro ac wg K hsz hW hf hK; clear hsz
    have e31 := hf 31 (by decide)
    simp [slotFact, List.lookup] at e31
    clear hf
    go_simp
    refine (toClaim_any x.n x.z x.k x.x x.v _).mono ?_
    rintro e w6 ⟨rfl, hb6⟩
    exact hK _ _ hb6 rfl
  refine Grow.step (OwF W.heap.size (AddClaimIs c x)) rfl (OwF.mono _ _) ?_ ?_
  · refine Obl.plain rfl ?_
    intro ac wg K hsz hW hf hK; clear hsz
    have e30 := hf 30 (by decide)
    simp [slotFact, List.lookup] at e30
    have e32 := hf 32 (by decide)
    simp [slotFact, List.lookup] at e32
    clear hf
    go_simp
    refine (iaddX_any d2 c x E _ (HO2.out.row.below hW) (HE.out.below (HB.out.trans (hW.mono HB.out.size))) z0 z2 z4).mono ?_
    rintro e w6 ⟨dg, o1, rfl, hI, ho, hb6⟩
    exact hK _ _ hb6 ⟨dg, o1, rfl, hI, ho.into (fun k _ s => Nat.le_trans hW.size s)⟩
  refine Grow.step (BoxF W.heap.size) rfl (BoxF.mono _) ?_ ?_
  · refine Obl.plain rfl ?_
    intro ac wg K hsz hW hf hK; clear hsz
    clear hf
    go_simp
    exact hK _ _ (below1 _ _) ⟨_, rfl, hW.size, Array.getElem?_push_size⟩
  refine Grow.done ?_
  intro q wz hW hf
  simp only [List.forall_mem_cons] at hf
  obtain ⟨⟨b8, h8, hb8, hg8⟩, ⟨dg1, o1, h33, hI1, hO1⟩, -⟩ := hf
  obtain rfl := HIS.out.same hI1
  obtain ⟨t0, t1, t2, t3, t4, t5, t6, t7⟩ := cs8 hg8
  have f0 := froK hg8 0
  have f1 := froK hg8 1
  have f2 := froK hg8 2
  have f3 := froK hg8 3
  have f4 := froK hg8 4
  have f5 := froK hg8 5
  have f6 := froK hg8 6
  have f7 := froK hg8 7
  have Bg := hidK (put8 (v0 := .slice dg1.a1 dg1.l1 dg1.c1) (v1 := .slice dg1.a2 dg1.l2 dg1.c2) (v2 := .slice dg1.a3 dg1.l3 dg1.c3) (v3 := .slice dg1.a4 dg1.l4 dg1.c4) (v4 := .slice dg1.a5 dg1.l5 dg1.c5) (v5 := .int .i64 o.c.now) (v6 := .string o.n) (v7 := .int .i64 o.p) hg8)
  have HWX : Hid (Below W.heap.size W ((((((((wz.setCell ⟨b8, 0, none⟩ (.slice dg1.a1 dg1.l1 dg1.c1)).setCell ⟨b8, 1, none⟩ (.slice dg1.a2 dg1.l2 dg1.c2)).setCell ⟨b8, 2, none⟩ (.slice dg1.a3 dg1.l3 dg1.c3)).setCell ⟨b8, 3, none⟩ (.slice dg1.a4 dg1.l4 dg1.c4)).setCell ⟨b8, 4, none⟩ (.slice dg1.a5 dg1.l5 dg1.c5)).setCell ⟨b8, 5, none⟩ (.int .i64 o.c.now)).setCell ⟨b8, 6, none⟩ (.string o.n)).setCell ⟨b8, 7, none⟩ (.int .i64 o.p))) := set_below hb8 (set_below hb8 (set_below hb8 (set_below hb8 (set_below hb8 (set_below hb8 (set_below hb8 (set_below hb8 (hW))))))))
  have hsz8 : ((((((((wz.setCell ⟨b8, 0, none⟩ (.slice dg1.a1 dg1.l1 dg1.c1)).setCell ⟨b8, 1, none⟩ (.slice dg1.a2 dg1.l2 dg1.c2)).setCell ⟨b8, 2, none⟩ (.slice dg1.a3 dg1.l3 dg1.c3)).setCell ⟨b8, 3, none⟩ (.slice dg1.a4 dg1.l4 dg1.c4)).setCell ⟨b8, 4, none⟩ (.slice dg1.a5 dg1.l5 dg1.c5)).setCell ⟨b8, 5, none⟩ (.int .i64 o.c.now)).setCell ⟨b8, 6, none⟩ (.string o.n)).setCell ⟨b8, 7, none⟩ (.int .i64 o.p)).heap.size = wz.heap.size := by simp [World.setCell]
  have HO1 : Hid (ClOwn ((((((((wz.setCell ⟨b8, 0, none⟩ (.slice dg1.a1 dg1.l1 dg1.c1)).setCell ⟨b8, 1, none⟩ (.slice dg1.a2 dg1.l2 dg1.c2)).setCell ⟨b8, 2, none⟩ (.slice dg1.a3 dg1.l3 dg1.c3)).setCell ⟨b8, 3, none⟩ (.slice dg1.a4 dg1.l4 dg1.c4)).setCell ⟨b8, 4, none⟩ (.slice dg1.a5 dg1.l5 dg1.c5)).setCell ⟨b8, 5, none⟩ (.int .i64 o.c.now)).setCell ⟨b8, 6, none⟩ (.string o.n)).setCell ⟨b8, 7, none⟩ (.int .i64 o.p)) dg1 o.c.raw (fun k => (W.heap.size ≤ k ∧ ¬ k = b8) ∧ k < ((((((((wz.setCell ⟨b8, 0, none⟩ (.slice dg1.a1 dg1.l1 dg1.c1)).setCell ⟨b8, 1, none⟩ (.slice dg1.a2 dg1.l2 dg1.c2)).setCell ⟨b8, 2, none⟩ (.slice dg1.a3 dg1.l3 dg1.c3)).setCell ⟨b8, 3, none⟩ (.slice dg1.a4 dg1.l4 dg1.c4)).setCell ⟨b8, 4, none⟩ (.slice dg1.a5 dg1.l5 dg1.c5)).setCell ⟨b8, 5, none⟩ (.int .i64 o.c.now)).setCell ⟨b8, 6, none⟩ (.string o.n)).setCell ⟨b8, 7, none⟩ (.int .i64 o.p)).heap.size)) := by
    obtain ⟨P, hP⟩ := hO1.away hg8
    exact ⟨P, hP.keep (fun k _ s => put8_ne s.2) (fun k hk s => ⟨s, by rw [hsz8]; exact hk⟩)⟩
  have HB8 : Hid (W.heap.size ≤ b8) := hb8
  clear hg8 hI1 hO1 hsz8
  intro K hK
  rw [if_pos (by rfl)]
  simp only [putsAll, List.foldr, Act.put, List.setIfInBounds_toArray, List.set_cons_zero, List.set_cons_succ, h8, h33]
  simp only [List.getLast]
  go_simp
  refine hK _ _ ?_
  refine hK0 _ _ ?_
  clear hK hK0 K K0
  generalize ((((((((wz.setCell ⟨b8, 0, none⟩ (.slice dg1.a1 dg1.l1 dg1.c1)).setCell ⟨b8, 1, none⟩ (.slice dg1.a2 dg1.l2 dg1.c2)).setCell ⟨b8, 2, none⟩ (.slice dg1.a3 dg1.l3 dg1.c3)).setCell ⟨b8, 3, none⟩ (.slice dg1.a4 dg1.l4 dg1.c4)).setCell ⟨b8, 4, none⟩ (.slice dg1.a5 dg1.l5 dg1.c5)).setCell ⟨b8, 5, none⟩ (.int .i64 o.c.now)).setCell ⟨b8, 6, none⟩ (.string o.n)).setCell ⟨b8, 7, none⟩ (.int .i64 o.p)) = X5 at Bg HWX HO1 ⊢
  clear t0 t1 t2 t3 t4 t5 t6 t7 f0 f1 f2 f3 f4 f5 f6 f7 hW hb8
  have hb := HWX.out
  have HQW : Hid (w4.heap.size < W.heap.size) := lt_of_some Bx.out
  replace Bk := hidK ((hb.block _ (lt_of_some Bk.out)).trans Bk.out)
  replace By := hidK ((hb.block _ (lt_of_some By.out)).trans By.out)
  replace Ba := hidK ((hb.block _ (lt_of_some Ba.out)).trans Ba.out)
  replace Bx := hidK ((hb.block _ (lt_of_some Bx.out)).trans Bx.out)
  replace HY := hidK (HY.out.below hb)
  replace HO2 := hidK (HO2.out.below hb)
  replace HB := hidK (HB.out.trans (hb.mono HB.out.size))
  clear hb
  clear HWX
  have HQ5 : Hid (W.heap.size ≤ X5.heap.size) := by have := lt_of_some Bg.out; have := HB8.out; show W.heap.size ≤ _; omega
  have HZ : Hid (X5.heap.size ≤ X5.heap.size) := Nat.le_refl _
  have hlz : mkCn 1 o.c.raw ≤ 1152921504606846976 := HIS.out.marks HF.out
  have HH := hidK (fun (W : World) (hr : ClRow W dg1 (mkC 1 o.c.raw)) => heldCout_any dg1 o 1 W hr (by decide) hlz)
  obtain ⟨M, hM⟩ : ∃ M : Int, M = mkCn 1 o.c.raw := ⟨_, rfl⟩
  have hM0 : (0 : Int) < M := by rw [hM]; have := mkCn_ge 1 o.c.raw; omega
  rw [← hM] at HH
  have HMM := hidK hM
  clear hM
  obtain ⟨k0, k1, k2, k3, k4, k5⟩ := cs6 Bk.out
  have ltk_5 := lt_of_some Bk.out
  obtain ⟨y0, y1, y2, y3, y4⟩ := cs5 By.out
  have lty_5 := lt_of_some By.out
  obtain ⟨a0, a1, a2, a3, a4, a5, a6, a7⟩ := cs8 Ba.out
  have lta_5 := lt_of_some Ba.out
  obtain ⟨x0, x1, x2, x3, x4, x5⟩ := cs6 Bx.out
  have ltx_5 := lt_of_some Bx.out
  obtain ⟨g0, g1, g2, g3, g4, g5, g6, g7⟩ := cs8 Bg.out
  have ltg_5 := lt_of_some Bg.out
  go_wp2_with fail
  refine (eqCout_any dg1 dg0 o _ (HO1.out.row) (RR.out.below HY.out.out)).mono ?_
  rintro e v6 ⟨rfl, hb⟩
  replace HZ : Hid (X5.heap.size ≤ v6.heap.size) := Nat.le_trans HZ.out hb.size
  clear k0 k1 k2 k3 k4 k5 ltk_5 y0 y1 y2 y3 y4 lty_5 a0 a1 a2 a3 a4 a5 a6 a7 lta_5 x0 x1 x2 x3 x4 x5 ltx_5 g0 g1 g2 g3 g4 g5 g6 g7 ltg_5
  replace Bk := hidK ((hb.block _ (lt_of_some Bk.out)).trans Bk.out)
  replace By := hidK ((hb.block _ (lt_of_some By.out)).trans By.out)
  replace Ba := hidK ((hb.block _ (lt_of_some Ba.out)).trans Ba.out)
  replace Bx := hidK ((hb.block _ (lt_of_some Bx.out)).trans Bx.out)
  replace Bg := hidK ((hb.block _ (lt_of_some Bg.out)).trans Bg.out)
  replace HY := hidK (HY.out.below hb)
  replace HO2 := hidK (HO2.out.below hb)
  replace HO1 := hidK (HO1.out.below hb)
  replace HB := hidK (HB.out.trans (hb.mono HB.out.size))
  clear hb
  go_wp2_with fail
  rename_i K0 hK0
  refine wp_region_grow (back := none) (by kernel_rfl) (List.append_nil _).symm (by kernel_rfl) ?_
  refine' Grow.stepC _ rfl ?_ ?_
  rotate_left 1
  · refine Obl.plain rfl ?_
    intro ac wg K hsz hW hf hK; clear hsz
    have e7 := hf 7 (by decide)
    simp [slotFact, List.lookup] at e7
    clear hf
    obtain ⟨k0, k1, k2, k3, k4, k5⟩ := cs6 ((hW.block _ (lt_of_some Bx.out)).trans Bx.out)
    go_simp
    refine hK _ _ (Below.refl _ _) ?_
    with_reducible rfl
  refine' Grow.stepC _ rfl ?_ ?_
  rotate_left 1
  · refine Obl.plain rfl ?_
    intro ac wg K hsz hW hf hK; clear hsz
    have e2 := hf 2 (by decide)
    simp [slotFact, List.lookup] at e2
    clear hf
    obtain ⟨k0, k1, k2, k3, k4, k5⟩ := cs6 ((hW.block _ (lt_of_some Bk.out)).trans Bk.out)
    go_simp
    refine hK _ _ (Below.refl _ _) ?_
    with_reducible rfl
  refine Grow.step (AddClaimClV c) rfl (AddClaimClV.mono c) ?_ ?_
  · refine Obl.plain rfl ?_
    intro ac wg K hsz hW hf hK; clear hsz
    have e39 := hf 39 (by decide)
    simp [slotFact, List.lookup] at e39
    clear hf
    go_simp
    refine (toCluster_any d c _ (HR.out.below (HB.out.trans (hW.mono HB.out.size))) HF.out).mono ?_
    rintro e w6 ⟨d3, rfl, ho, hb6⟩
    exact hK _ _ hb6 ⟨d3, rfl, ho.row⟩
  refine' Grow.stepC (.bool true) rfl ?_ ?_
  · refine Obl.plain rfl ?_
    intro ac wg K hsz hW hf hK; clear hsz
    have e38 := hf 38 (by decide)
    simp [slotFact, List.lookup] at e38
    have e40 := hf 40 (by decide)
    simp [slotFact, List.lookup] at e40
    obtain ⟨d3, e40, hrow⟩ := e40
    clear hf
    go_simp
    refine (eqCluster_any d2 d3 c _ (HO2.out.row.below hW) hrow).mono ?_
    rintro e w6 ⟨rfl, hb6⟩
    exact hK _ _ hb6 rfl
  refine' Grow.stepC _ rfl ?_ ?_
  rotate_left 1
  · refine Obl.plain rfl ?_
    intro ac wg K hsz hW hf hK; clear hsz
    have e41 := hf 41 (by decide)
    simp [slotFact, List.lookup] at e41
    clear hf
    go_simp
    refine hK _ _ (Below.refl _ _) ?_
    with_reducible rfl
  refine Grow.done ?_
  intro q wz hW hf
  simp only [List.forall_mem_cons] at hf
  obtain ⟨h42, -⟩ := hf
  have hb := hW
  refine hK0 _ _ ?_
  simp only [putsAll, List.foldr, Act.put, List.setIfInBounds_toArray, List.set_cons_zero, List.set_cons_succ, h42]
  clear hK0
  replace HZ : Hid (X5.heap.size ≤ wz.heap.size) := Nat.le_trans HZ.out hb.size
  replace Bk := hidK ((hb.block _ (lt_of_some Bk.out)).trans Bk.out)
  replace By := hidK ((hb.block _ (lt_of_some By.out)).trans By.out)
  replace Ba := hidK ((hb.block _ (lt_of_some Ba.out)).trans Ba.out)
  replace Bx := hidK ((hb.block _ (lt_of_some Bx.out)).trans Bx.out)
  replace Bg := hidK ((hb.block _ (lt_of_some Bg.out)).trans Bg.out)
  replace HY := hidK (HY.out.below hb)
  replace HO2 := hidK (HO2.out.below hb)
  replace HO1 := hidK (HO1.out.below hb)
  replace HB := hidK (HB.out.trans (hb.mono HB.out.size))
  clear hb
  clear hW
  obtain ⟨rk, hrk⟩ : ∃ r : Int, r = mkCn 1 c.raw := ⟨_, rfl⟩
  have hrk0 : decide (rk < 0) = false := by rw [decide_eq_false_iff_not, hrk]; have := mkCn_ge 1 c.raw; omega
  obtain ⟨k0, k1, k2, k3, k4, k5⟩ := cs6 Bk.out
  have ltk_7 := lt_of_some Bk.out
  obtain ⟨y0, y1, y2, y3, y4⟩ := cs5 By.out
  have lty_7 := lt_of_some By.out
  obtain ⟨a0, a1, a2, a3, a4, a5, a6, a7⟩ := cs8 Ba.out
  have lta_7 := lt_of_some Ba.out
  obtain ⟨x0, x1, x2, x3, x4, x5⟩ := cs6 Bx.out
  have ltx_7 := lt_of_some Bx.out
  obtain ⟨g0, g1, g2, g3, g4, g5, g6, g7⟩ := cs8 Bg.out
  have ltg_7 := lt_of_some Bg.out
  go_wp2_with fail
  refine (markCluster_any d2 c 1 _ wz HO2.out (fun k s => by have s2 := s.2; have q9 := HY.out.le; have qx := lt_of_some Bx.out; have q3 := HQ3.out; have q4 := HQ4.out; have q5 := HQ5.out; have q6 := HQ6.out; have q7 := HQW.out; have q8 := HB8.out; omega) (by decide) HF.out.marks).mono ?_
  rintro e w8 ⟨rfl, ho, hk⟩
  replace HZ : Hid (X5.heap.size ≤ w8.heap.size) := Nat.le_trans HZ.out hk.size
  clear k0 k1 k2 k3 k4 k5 ltk_7 y0 y1 y2 y3 y4 lty_7 a0 a1 a2 a3 a4 a5 a6 a7 lta_7 x0 x1 x2 x3 x4 x5 ltx_7 g0 g1 g2 g3 g4 g5 g6 g7 ltg_7
  have Ck := hidK ((hk.block (w.heap.size) (lt_of_some Bk.out) (fun s => by have s1 := s.1; have s2 := s.2; have q3 := HQ3.out; have q4 := HQ4.out; have q5 := HQ5.out; have q6 := HQ6.out; have q7 := HQW.out; have q8 := HB8.out; omega)).trans Bk.out)
  have Cy := hidK ((hk.block (w.heap.size + 1) (lt_of_some By.out) (fun s => by have s1 := s.1; have s2 := s.2; have q3 := HQ3.out; have q4 := HQ4.out; have q5 := HQ5.out; have q6 := HQ6.out; have q7 := HQW.out; have q8 := HB8.out; omega)).trans By.out)
  have Ca := hidK ((hk.block (b6) (lt_of_some Ba.out) (fun s => by have s1 := s.1; have s2 := s.2; have q3 := HQ3.out; have q4 := HQ4.out; have q5 := HQ5.out; have q6 := HQ6.out; have q7 := HQW.out; have q8 := HB8.out; omega)).trans Ba.out)
  have Cx := hidK ((hk.block (w4.heap.size) (lt_of_some Bx.out) (fun s => by have s1 := s.1; have s2 := s.2; have q3 := HQ3.out; have q4 := HQ4.out; have q5 := HQ5.out; have q6 := HQ6.out; have q7 := HQW.out; have q8 := HB8.out; omega)).trans Bx.out)
  have Cg := hidK ((hk.block (b8) (lt_of_some Bg.out) (fun s => by have s1 := s.1; have s2 := s.2; have q3 := HQ3.out; have q4 := HQ4.out; have q5 := HQ5.out; have q6 := HQ6.out; have q7 := HQW.out; have q8 := HB8.out; omega)).trans Bg.out)
  have HB8 := hidK (HB.out.trans (hk.low (X := w.heap.size) HB.out.size (fun k s => by have s1 := s.1; have q3 := HQ3.out; have q4 := HQ4.out; have q5 := HQ5.out; have q6 := HQ6.out; have q7 := HQW.out; have q8 := HB8.out; omega)))
  have CHY := hidK (HY.out.kept hk (fun k s => by have s1 := s.1; have q3 := HQ3.out; have q4 := HQ4.out; have q5 := HQ5.out; have q6 := HQ6.out; have q7 := HQW.out; have q8 := HB8.out; omega))
  have CHO1 := hidK (HO1.out.kept hk (fun k s s' => by have s1 := s.1; have s2 := s.2; have t1 := s'.1; have t2 := s'.2; have q3 := HQ3.out; have q4 := HQ4.out; have q5 := HQ5.out; have q6 := HQ6.out; have q7 := HQW.out; have q8 := HB8.out; omega))
  clear HB HY hk HO2 HO1 Bk By Ba Bx Bg
  have HB := HB8
  clear HB8
  have HY := CHY
  clear CHY
  have HO1 := CHO1
  clear CHO1
  have Bk := Ck
  clear Ck
  have By := Cy
  clear Cy
  have Ba := Ca
  clear Ca
  have Bx := Cx
  clear Cx
  have Bg := Cg
  clear Cg
  clear ho
  rw [← hrk]
  clear hrk
  obtain ⟨k0, k1, k2, k3, k4, k5⟩ := cs6 Bk.out
  have ltk_8 := lt_of_some Bk.out
  obtain ⟨y0, y1, y2, y3, y4⟩ := cs5 By.out
  have lty_8 := lt_of_some By.out
  obtain ⟨a0, a1, a2, a3, a4, a5, a6, a7⟩ := cs8 Ba.out
  have lta_8 := lt_of_some Ba.out
  obtain ⟨x0, x1, x2, x3, x4, x5⟩ := cs6 Bx.out
  have ltx_8 := lt_of_some Bx.out
  obtain ⟨g0, g1, g2, g3, g4, g5, g6, g7⟩ := cs8 Bg.out
  have ltg_8 := lt_of_some Bg.out
  go_wp2_with fail
  refine (eqCout_any dg1 dg0 o _ (HO1.out.row) (RR.out.below HY.out.out)).mono ?_
  rintro e w9 ⟨rfl, hb⟩
  replace HZ : Hid (X5.heap.size ≤ w9.heap.size) := Nat.le_trans HZ.out hb.size
  clear k0 k1 k2 k3 k4 k5 ltk_8 y0 y1 y2 y3 y4 lty_8 a0 a1 a2 a3 a4 a5 a6 a7 lta_8 x0 x1 x2 x3 x4 x5 ltx_8 g0 g1 g2 g3 g4 g5 g6 g7 ltg_8
  replace Bk := hidK ((hb.block _ (lt_of_some Bk.out)).trans Bk.out)
  replace By := hidK ((hb.block _ (lt_of_some By.out)).trans By.out)
  replace Ba := hidK ((hb.block _ (lt_of_some Ba.out)).trans Ba.out)
  replace Bx := hidK ((hb.block _ (lt_of_some Bx.out)).trans Bx.out)
  replace Bg := hidK ((hb.block _ (lt_of_some Bg.out)).trans Bg.out)
  replace HY := hidK (HY.out.below hb)
  replace HO1 := hidK (HO1.out.below hb)
  replace HB := hidK (HB.out.trans (hb.mono HB.out.size))
  clear hb
  clear hrk0
  obtain ⟨k0, k1, k2, k3, k4, k5⟩ := cs6 Bk.out
  have ltk_9 := lt_of_some Bk.out
  obtain ⟨y0, y1, y2, y3, y4⟩ := cs5 By.out
  have lty_9 := lt_of_some By.out
  obtain ⟨a0, a1, a2, a3, a4, a5, a6, a7⟩ := cs8 Ba.out
  have lta_9 := lt_of_some Ba.out
  obtain ⟨x0, x1, x2, x3, x4, x5⟩ := cs6 Bx.out
  have ltx_9 := lt_of_some Bx.out
  obtain ⟨g0, g1, g2, g3, g4, g5, g6, g7⟩ := cs8 Bg.out
  have ltg_9 := lt_of_some Bg.out
  go_wp2_with fail
  refine (markCout_any dg1 o 1 _ _ HO1.out (fun k s => by have s2 := s.2; have q9 := HZ.out; have q3 := HQ3.out; have q4 := HQ4.out; have q5 := HQ5.out; have q6 := HQ6.out; have q7 := HQW.out; have q8 := HB8.out; omega) (by decide) hlz).mono ?_
  rintro e w10 ⟨rfl, ho, hk⟩
  replace HZ : Hid (X5.heap.size ≤ w10.heap.size) := Nat.le_trans HZ.out hk.size
  clear k0 k1 k2 k3 k4 k5 ltk_9 y0 y1 y2 y3 y4 lty_9 a0 a1 a2 a3 a4 a5 a6 a7 lta_9 x0 x1 x2 x3 x4 x5 ltx_9 g0 g1 g2 g3 g4 g5 g6 g7 ltg_9
  have Ck := hidK ((hk.block (w.heap.size) (lt_of_some Bk.out) (fun s => by have s1 := s.1; have s2 := s.2; have q3 := HQ3.out; have q4 := HQ4.out; have q5 := HQ5.out; have q6 := HQ6.out; have q7 := HQW.out; have q8 := HB8.out; omega)).trans Bk.out)
  have Cy := hidK ((hk.block (w.heap.size + 1) (lt_of_some By.out) (fun s => by have s1 := s.1; have s2 := s.2; have q3 := HQ3.out; have q4 := HQ4.out; have q5 := HQ5.out; have q6 := HQ6.out; have q7 := HQW.out; have q8 := HB8.out; omega)).trans By.out)
  have Ca := hidK ((hk.block (b6) (lt_of_some Ba.out) (fun s => by have s1 := s.1; have s2 := s.2; have q3 := HQ3.out; have q4 := HQ4.out; have q5 := HQ5.out; have q6 := HQ6.out; have q7 := HQW.out; have q8 := HB8.out; omega)).trans Ba.out)
  have Cx := hidK ((hk.block (w4.heap.size) (lt_of_some Bx.out) (fun s => by have s1 := s.1; have s2 := s.2; have q3 := HQ3.out; have q4 := HQ4.out; have q5 := HQ5.out; have q6 := HQ6.out; have q7 := HQW.out; have q8 := HB8.out; omega)).trans Bx.out)
  have Cg := hidK ((hk.block (b8) (lt_of_some Bg.out) (fun s => by have s1 := s.1; have s2 := s.2; have q3 := HQ3.out; have q4 := HQ4.out; have q5 := HQ5.out; have q6 := HQ6.out; have q7 := HQW.out; have q8 := HB8.out; omega)).trans Bg.out)
  have HB10 := hidK (HB.out.trans (hk.low (X := w.heap.size) HB.out.size (fun k s => by have s1 := s.1; have q3 := HQ3.out; have q4 := HQ4.out; have q5 := HQ5.out; have q6 := HQ6.out; have q7 := HQW.out; have q8 := HB8.out; omega)))
  have CHY := hidK (HY.out.kept hk (fun k s => by have s1 := s.1; have q3 := HQ3.out; have q4 := HQ4.out; have q5 := HQ5.out; have q6 := HQ6.out; have q7 := HQW.out; have q8 := HB8.out; omega))
  clear HB HY hk HO1 Bk By Ba Bx Bg
  have HB := HB10
  clear HB10
  have HY := CHY
  clear CHY
  have Bk := Ck
  clear Ck
  have By := Cy
  clear Cy
  have Ba := Ca
  clear Ca
  have Bx := Cx
  clear Cx
  have Bg := Cg
  clear Cg
  have HM1 := hidK ho
  clear ho
  rw [← HMM.out]
  obtain ⟨k0, k1, k2, k3, k4, k5⟩ := cs6 Bk.out
  have ltk_10 := lt_of_some Bk.out
  obtain ⟨y0, y1, y2, y3, y4⟩ := cs5 By.out
  have lty_10 := lt_of_some By.out
  obtain ⟨a0, a1, a2, a3, a4, a5, a6, a7⟩ := cs8 Ba.out
  have lta_10 := lt_of_some Ba.out
  obtain ⟨x0, x1, x2, x3, x4, x5⟩ := cs6 Bx.out
  have ltx_10 := lt_of_some Bx.out
  obtain ⟨g0, g1, g2, g3, g4, g5, g6, g7⟩ := cs8 Bg.out
  have ltg_10 := lt_of_some Bg.out
  go_wp2_with fail
  refine (HH.out _ HM1.out.row).mono ?_
  rintro e w11 ⟨rfl, hb⟩
  replace HZ : Hid (X5.heap.size ≤ w11.heap.size) := Nat.le_trans HZ.out hb.size
  clear k0 k1 k2 k3 k4 k5 ltk_10 y0 y1 y2 y3 y4 lty_10 a0 a1 a2 a3 a4 a5 a6 a7 lta_10 x0 x1 x2 x3 x4 x5 ltx_10 g0 g1 g2 g3 g4 g5 g6 g7 ltg_10
  replace Bk := hidK ((hb.block _ (lt_of_some Bk.out)).trans Bk.out)
  replace By := hidK ((hb.block _ (lt_of_some By.out)).trans By.out)
  replace Ba := hidK ((hb.block _ (lt_of_some Ba.out)).trans Ba.out)
  replace Bx := hidK ((hb.block _ (lt_of_some Bx.out)).trans Bx.out)
  replace Bg := hidK ((hb.block _ (lt_of_some Bg.out)).trans Bg.out)
  replace HY := hidK (HY.out.below hb)
  replace HM1 := hidK (HM1.out.below hb)
  replace HB := hidK (HB.out.trans (hb.mono HB.out.size))
  clear hb
  obtain ⟨k0, k1, k2, k3, k4, k5⟩ := cs6 Bk.out
  have ltk_11 := lt_of_some Bk.out
  obtain ⟨y0, y1, y2, y3, y4⟩ := cs5 By.out
  have lty_11 := lt_of_some By.out
  go_wp2_with fail
  rename_i K0 hK0
  refine wp_region_grow_last (by kernel_rfl) rfl rfl (by kernel_rfl) ?_
  refine' Grow.stepC _ rfl ?_ ?_
  rotate_left 1
  · refine Obl.plain rfl ?_
    intro ac wg K hsz hW hf hK; clear hsz
    have e2 := hf 2 (by decide)
    simp [slotFact, List.lookup] at e2
    clear hf
    obtain ⟨k0, k1, k2, k3, k4, k5⟩ := cs6 ((hW.block _ (lt_of_some Bk.out)).trans Bk.out)
    go_simp
    refine hK _ _ (Below.refl _ _) ?_
    with_reducible rfl
  refine Grow.step (AddClaimClV c) rfl (AddClaimClV.mono c) ?_ ?_
  · refine Obl.plain rfl ?_
    intro ac wg K hsz hW hf hK; clear hsz
    have e65 := hf 65 (by decide)
    simp [slotFact, List.lookup] at e65
    clear hf
    go_simp
    refine (toCluster_any d c _ (HR.out.below (HB.out.trans (hW.mono HB.out.size))) HF.out).mono ?_
    rintro e w6 ⟨d3, rfl, ho, hb6⟩
    exact hK _ _ hb6 ⟨d3, rfl, ho.row⟩
  refine' Grow.stepC _ rfl ?_ ?_
  rotate_left 1
  · refine Obl.plain rfl ?_
    intro ac wg K hsz hW hf hK; clear hsz
    have e3 := hf 3 (by decide)
    simp [slotFact, List.lookup] at e3
    clear hf
    obtain ⟨y0, y1, y2, y3, y4⟩ := cs5 ((hW.block _ (lt_of_some By.out)).trans By.out)
    go_simp
    refine hK _ _ (Below.refl _ _) ?_
    with_reducible rfl
  refine' Grow.stepC (.agg #[.string x.n, .int .i64 x.z, .string x.k, .bool x.x, .string x.v]) rfl ?_ ?_
  · refine Obl.plain rfl ?_
    intro ac wg K hsz hW hf hK; clear hsz
    have e67 := hf 67 (by decide)
    simp [slotFact, List.lookup] at e67
    clear hf
    go_simp
    refine (toClaim_any x.n x.z x.k x.x x.v _).mono ?_
    rintro e w6 ⟨rfl, hb6⟩
    exact hK _ _ hb6 rfl
  refine Grow.step (AnsF (AddClaimIs c x)) rfl (AnsF.mono _) ?_ ?_
  · refine Obl.plain rfl ?_
    intro ac wg K hsz hW hf hK; clear hsz
    have e66 := hf 66 (by decide)
    simp [slotFact, List.lookup] at e66
    have e68 := hf 68 (by decide)
    simp [slotFact, List.lookup] at e68
    clear hf
    obtain ⟨d3, e66, hrow⟩ := e66
    go_simp
    refine (iaddX_any d3 c x E _ hrow (HE.out.below (HB.out.trans (hW.mono HB.out.size))) z0 z2 z4).mono ?_
    rintro e w6 ⟨dg, o1, rfl, hI, ho, hb6⟩
    exact hK _ _ hb6 ⟨dg, o1, rfl, hI, ho.fr⟩
  refine Grow.step (BoxF w11.heap.size) rfl (BoxF.mono _) ?_ ?_
  · refine Obl.plain rfl ?_
    intro ac wg K hsz hW hf hK; clear hsz
    clear hf
    go_simp
    exact hK _ _ (below1 _ _) ⟨_, rfl, hW.size, Array.getElem?_push_size⟩
  refine Grow.done ?_
  intro q wy hW hf
  simp only [List.forall_mem_cons] at hf
  obtain ⟨⟨b9, h9, hb9, hg9⟩, ⟨dg2, o2, h69, hI2, hR2⟩, -⟩ := hf
  obtain rfl := HIS.out.same hI2
  obtain ⟨t0, t1, t2, t3, t4, t5, t6, t7⟩ := cs8 hg9
  have f0 := froK hg9 0
  have f1 := froK hg9 1
  have f2 := froK hg9 2
  have f3 := froK hg9 3
  have f4 := froK hg9 4
  have f5 := froK hg9 5
  have f6 := froK hg9 6
  have f7 := froK hg9 7
  have Bh := hidK (put8 (v0 := .slice dg2.a1 dg2.l1 dg2.c1) (v1 := .slice dg2.a2 dg2.l2 dg2.c2) (v2 := .slice dg2.a3 dg2.l3 dg2.c3) (v3 := .slice dg2.a4 dg2.l4 dg2.c4) (v4 := .slice dg2.a5 dg2.l5 dg2.c5) (v5 := .int .i64 o.c.now) (v6 := .string o.n) (v7 := .int .i64 o.p) hg9)
  have HWX : Hid (Below w11.heap.size w11 ((((((((wy.setCell ⟨b9, 0, none⟩ (.slice dg2.a1 dg2.l1 dg2.c1)).setCell ⟨b9, 1, none⟩ (.slice dg2.a2 dg2.l2 dg2.c2)).setCell ⟨b9, 2, none⟩ (.slice dg2.a3 dg2.l3 dg2.c3)).setCell ⟨b9, 3, none⟩ (.slice dg2.a4 dg2.l4 dg2.c4)).setCell ⟨b9, 4, none⟩ (.slice dg2.a5 dg2.l5 dg2.c5)).setCell ⟨b9, 5, none⟩ (.int .i64 o.c.now)).setCell ⟨b9, 6, none⟩ (.string o.n)).setCell ⟨b9, 7, none⟩ (.int .i64 o.p))) := set_below hb9 (set_below hb9 (set_below hb9 (set_below hb9 (set_below hb9 (set_below hb9 (set_below hb9 (set_below hb9 (hW))))))))
  have R2 : Hid (ClFr ((((((((wy.setCell ⟨b9, 0, none⟩ (.slice dg2.a1 dg2.l1 dg2.c1)).setCell ⟨b9, 1, none⟩ (.slice dg2.a2 dg2.l2 dg2.c2)).setCell ⟨b9, 2, none⟩ (.slice dg2.a3 dg2.l3 dg2.c3)).setCell ⟨b9, 3, none⟩ (.slice dg2.a4 dg2.l4 dg2.c4)).setCell ⟨b9, 4, none⟩ (.slice dg2.a5 dg2.l5 dg2.c5)).setCell ⟨b9, 5, none⟩ (.int .i64 o.c.now)).setCell ⟨b9, 6, none⟩ (.string o.n)).setCell ⟨b9, 7, none⟩ (.int .i64 o.p)) dg2 o.c.raw (fun _ => True)) := hR2.past hg9 (fun k hk => put8_ne hk)
  clear hg9 hI2 hR2
  intro K hK
  rw [if_pos (by rfl)]
  simp only [putsAll, List.foldr, Act.put, List.setIfInBounds_toArray, List.set_cons_zero, List.set_cons_succ, h9, h69]
  simp only [List.getLast]
  go_simp
  refine hK _ _ ?_
  refine hK0 _ _ ?_
  clear hK hK0 K K0
  generalize ((((((((wy.setCell ⟨b9, 0, none⟩ (.slice dg2.a1 dg2.l1 dg2.c1)).setCell ⟨b9, 1, none⟩ (.slice dg2.a2 dg2.l2 dg2.c2)).setCell ⟨b9, 2, none⟩ (.slice dg2.a3 dg2.l3 dg2.c3)).setCell ⟨b9, 3, none⟩ (.slice dg2.a4 dg2.l4 dg2.c4)).setCell ⟨b9, 4, none⟩ (.slice dg2.a5 dg2.l5 dg2.c5)).setCell ⟨b9, 5, none⟩ (.int .i64 o.c.now)).setCell ⟨b9, 6, none⟩ (.string o.n)).setCell ⟨b9, 7, none⟩ (.int .i64 o.p)) = X9 at Bh HWX R2 ⊢
  clear t0 t1 t2 t3 t4 t5 t6 t7 f0 f1 f2 f3 f4 f5 f6 f7 hW hb9
  have hb := HWX.out
  clear k0 k1 k2 k3 k4 k5 ltk_11 y0 y1 y2 y3 y4 lty_11
  replace Bk := hidK ((hb.block _ (lt_of_some Bk.out)).trans Bk.out)
  replace By := hidK ((hb.block _ (lt_of_some By.out)).trans By.out)
  replace Ba := hidK ((hb.block _ (lt_of_some Ba.out)).trans Ba.out)
  replace Bx := hidK ((hb.block _ (lt_of_some Bx.out)).trans Bx.out)
  replace Bg := hidK ((hb.block _ (lt_of_some Bg.out)).trans Bg.out)
  replace HY := hidK (HY.out.below hb)
  replace HM1 := hidK (HM1.out.below hb)
  replace HB := hidK (HB.out.trans (hb.mono HB.out.size))
  clear hb
  clear HWX
  have RR2 := hidK R2.out.row
  clear R2
  obtain ⟨k0, k1, k2, k3, k4, k5⟩ := cs6 Bk.out
  have ltk_12 := lt_of_some Bk.out
  obtain ⟨y0, y1, y2, y3, y4⟩ := cs5 By.out
  have lty_12 := lt_of_some By.out
  obtain ⟨a0, a1, a2, a3, a4, a5, a6, a7⟩ := cs8 Ba.out
  have lta_12 := lt_of_some Ba.out
  obtain ⟨x0, x1, x2, x3, x4, x5⟩ := cs6 Bx.out
  have ltx_12 := lt_of_some Bx.out
  obtain ⟨g0, g1, g2, g3, g4, g5, g6, g7⟩ := cs8 Bg.out
  have ltg_12 := lt_of_some Bg.out
  obtain ⟨h0, h1, h2, h3, h4, h5, h6, h7⟩ := cs8 Bh.out
  have lth_12 := lt_of_some Bh.out
  go_wp2_with fail
  refine (eqCout_any dg2 dg0 o _ (RR2.out) (RR.out.below HY.out.out)).mono ?_
  rintro e w14 ⟨rfl, hb⟩
  clear k0 k1 k2 k3 k4 k5 ltk_12 y0 y1 y2 y3 y4 lty_12 a0 a1 a2 a3 a4 a5 a6 a7 lta_12 x0 x1 x2 x3 x4 x5 ltx_12 g0 g1 g2 g3 g4 g5 g6 g7 ltg_12 h0 h1 h2 h3 h4 h5 h6 h7 lth_12
  replace Bk := hidK ((hb.block _ (lt_of_some Bk.out)).trans Bk.out)
  replace By := hidK ((hb.block _ (lt_of_some By.out)).trans By.out)
  replace Ba := hidK ((hb.block _ (lt_of_some Ba.out)).trans Ba.out)
  replace Bx := hidK ((hb.block _ (lt_of_some Bx.out)).trans Bx.out)
  replace Bg := hidK ((hb.block _ (lt_of_some Bg.out)).trans Bg.out)
  replace Bh := hidK ((hb.block _ (lt_of_some Bh.out)).trans Bh.out)
  replace HY := hidK (HY.out.below hb)
  replace HM1 := hidK (HM1.out.below hb)
  replace HB := hidK (HB.out.trans (hb.mono HB.out.size))
  clear hb
  obtain ⟨k0, k1, k2, k3, k4, k5⟩ := cs6 Bk.out
  have ltk_13 := lt_of_some Bk.out
  obtain ⟨y0, y1, y2, y3, y4⟩ := cs5 By.out
  have lty_13 := lt_of_some By.out
  obtain ⟨a0, a1, a2, a3, a4, a5, a6, a7⟩ := cs8 Ba.out
  have lta_13 := lt_of_some Ba.out
  obtain ⟨x0, x1, x2, x3, x4, x5⟩ := cs6 Bx.out
  have ltx_13 := lt_of_some Bx.out
  obtain ⟨g0, g1, g2, g3, g4, g5, g6, g7⟩ := cs8 Bg.out
  have ltg_13 := lt_of_some Bg.out
  obtain ⟨h0, h1, h2, h3, h4, h5, h6, h7⟩ := cs8 Bh.out
  have lth_13 := lt_of_some Bh.out
  go_wp2_with fail
  refine (HH.out _ HM1.out.row).mono ?_
  rintro e w15 ⟨rfl, hb⟩
  clear k0 k1 k2 k3 k4 k5 ltk_13 y0 y1 y2 y3 y4 lty_13 a0 a1 a2 a3 a4 a5 a6 a7 lta_13 x0 x1 x2 x3 x4 x5 ltx_13 g0 g1 g2 g3 g4 g5 g6 g7 ltg_13 h0 h1 h2 h3 h4 h5 h6 h7 lth_13
  replace Bk := hidK ((hb.block _ (lt_of_some Bk.out)).trans Bk.out)
  replace By := hidK ((hb.block _ (lt_of_some By.out)).trans By.out)
  replace Ba := hidK ((hb.block _ (lt_of_some Ba.out)).trans Ba.out)
  replace Bx := hidK ((hb.block _ (lt_of_some Bx.out)).trans Bx.out)
  replace Bg := hidK ((hb.block _ (lt_of_some Bg.out)).trans Bg.out)
  replace Bh := hidK ((hb.block _ (lt_of_some Bh.out)).trans Bh.out)
  replace HY := hidK (HY.out.below hb)
  replace HM1 := hidK (HM1.out.below hb)
  replace HB := hidK (HB.out.trans (hb.mono HB.out.size))
  clear hb
  go_wp2_with fail
  go_ret
  exact ⟨rfl, HB.out⟩

set_option linter.unusedVariables false in
theorem fnExactAddClaim_walk (a1 : Option Addr) (l1 y1 : Nat) (ns : List Nd) (a2 : Option Addr) (l2 y2 : Nat) (ks : List Kd) (a3 : Option Addr) (l3 y3 : Nat) (vs : List Vd) (a4 : Option Addr) (l4 y4 : Nat) (xs : List Xd) (a5 : Option Addr) (l5 y5 : Nat) (ps : List Pd) (now : Int) (x0 : ByteArray) (x1 : Int) (x2 : ByteArray) (x3 : Bool) (x4 : ByteArray) (w : World)
    (h1 : RRow w a1 l1 y1 7 (ns.map ndF)) (h2 : RRow w a2 l2 y2 4 (ks.map kdF)) (h3 : RRow w a3 l3 y3 8 (vs.map vdF)) (h4 : RRow w a4 l4 y4 5 (xs.map xdF)) (h5 : RRow w a5 l5 y5 6 (ps.map pdF)) (_ : (Lit.int .i64 now).wf = true) (hx0 : x0.size ≤ maxLen) (_ : (Lit.int .i64 x1).wf = true) (hx2 : x2.size ≤ maxLen) (hx4 : x4.size ≤ maxLen) (hG : ∃ E, Ers w E) :
    Calls Tryz.prog 4 #[.agg #[.slice a1 l1 y1, .slice a2 l2 y2, .slice a3 l3 y3, .slice a4 l4 y4, .slice a5 l5 y5, .int .i64 now], .agg #[.string x0, .int .i64 x1, .string x2, .bool x3, .string x4]] w fun e w' => e = .returned (.bool true) ∧ Below w.heap.size w w' := by
  obtain ⟨E, hG⟩ := hG
  exact addClaim_walk ⟨a1, l1, y1, a2, l2, y2, a3, l3, y3, a4, l4, y4, a5, l5, y5⟩ ⟨ns, ks, vs, xs, ps, now⟩ ⟨x0, x1, x2, x3, x4⟩ E w ⟨h1, h2, h3, h4, h5⟩ hx0 hx2 hx4 hG

end Go.Proofs.YtphapcngffpjiaaGreatDoor

namespace Go.Proofs.YtphapcngffpjiaaGreatDoor
open Go.RowKit
namespace Rc

theorem wordStar : "*" ++ "errors.errorString" = "*errors.errorString" := by decide
theorem wordRow (u : TypeId) (h : Tryz.prog.typeName? 3 u = some "*errors.errorString") : u = 189 :=
  typeName_ptr_named (nm := "errors.errorString") (by rw [wordStar]; kernel_rfl) (by kernel_rfl) (by decide) u (by rw [wordStar]; exact h)

theorem laid_words {P : Program} {W : World} {nm : String} {ti tp te ts : TypeId} {ms : Array (String × TypeId)} {f : Field} (hi : P.underlying ti = some (.interface ms)) (hrow : ∀ u, P.typeName? 3 u = some nm → u = tp)
    (hp : P.underlying tp = some (.pointer te)) (he : P.underlying te = some (.struct #[f])) (hft : f.type = ts) (hfo : f.offset = 0) (hs : P.underlying ts = some .string) (hc : P.cellsOf te = 1) (hcs : P.cellsOf ts = 1) :
    ∀ (l : List (String × List UInt8)) (ps : List MemPlace), (∀ x ∈ l, ∃ g, P.globalNamed x.1 = some g ∧ (P.globals[g]?).map (·.type) = some ti) →
      DataW.LaidVars P W (l.map fun x => (x.1, .iface nm (.ptr (.agg [.lit (.string x.2)])))) ps → ps.Nodup →
      (∀ b off, MemPlace.cell b off ∈ ps → (∃ c t, W.heap[b]? = some (.cells c t (0, 0))) ∧ ∀ u v, W.cell? ⟨b, off, none⟩ = some (.iface u v) → Value.okWide P W .any 0 u v) →
      ∃ E : Nat → Addr, (∀ (i : Nat) x, l[i]? = some x → W.var? P x.1 = some #[.iface tp (.pointer (some (E i)))] ∧ MemPlace.cell (E i).block (E i).off ∈ ps) ∧ ∀ i j, i < l.length → j < l.length → E i = E j → i = j
  | [], ps, _, _, _, _ => ⟨fun _ => ⟨0, 0, none⟩, fun i x h => by simp at h, fun i j h => by simp at h⟩
  | x :: l, ps, hT, hv, hnd, hrows => by
    obtain ⟨g, t, cs, fuel, p, q, hg, ht, hvar, hd, hq, rfl⟩ := hv
    obtain ⟨g', hg', ht'⟩ := hT x (by simp)
    obtain rfl := Option.some.inj (hg.symm.trans hg')
    obtain rfl := Option.some.inj (ht.symm.trans ht')
    have hsub : ∀ {y}, y ∈ q → y ∈ MemPlace.row ⟨g, 0, none⟩ cs.size ++ p ++ q := fun h => List.mem_append_right _ h
    obtain ⟨E, hE1, hE2⟩ := laid_words hi hrow hp he hft hfo hs hc hcs l q (fun y hy => hT y (by simp [hy])) hq (List.Nodup.sublist (List.sublist_append_right _ _) hnd) (fun b off hm => hrows b off (hsub hm))
    obtain ⟨l0⟩ := cs
    have ok0 : ∀ u v, l0 = [.iface u v] → Value.okWide P W .any 0 u v := fun u v e => by
      subst e
      exact (hrows g 0 (by simp [MemPlace.row])).2 u v (by simpa using World.var?_cell hg hvar 0)
    obtain ⟨a0, s0, rfl, hc0, hs0, hz0, rfl⟩ := errorString_of_trod hi hrow hp he hft hfo hs hc hcs hd ok0
    have ha : MemPlace.cell a0.block a0.off ∈ MemPlace.row a0 1 := by simp [MemPlace.row]
    have hdis : ∀ i, i < l.length → ¬ E i = a0 := fun i hi' e => by
      have h1 := (hE1 i _ (List.getElem?_eq_getElem hi')).2
      rw [e] at h1
      have h2 := (List.nodup_append.1 hnd).2.2 _ (List.mem_append_right _ ha) _ h1
      exact h2 rfl
    refine ⟨fun i => match i with | 0 => a0 | i + 1 => E i, fun i y hy => ?_, fun i j hi' hj' e => ?_⟩
    · cases i with
      | zero =>
        obtain rfl : x = y := by simpa using hy
        exact ⟨hvar, List.mem_append_left _ (List.mem_append_right _ ha)⟩
      | succ i =>
        obtain ⟨h1, h2⟩ := hE1 i y (by simpa using hy)
        exact ⟨h1, hsub h2⟩
    · cases i with
      | zero => cases j with
        | zero => rfl
        | succ j => exact absurd e.symm (hdis j (by simpa using hj'))
      | succ i => cases j with
        | zero => exact absurd e (hdis i (by simpa using hi'))
        | succ j => rw [hE2 i j (by simpa using hi') (by simpa using hj') e]

theorem vars_length {H : Type} {enc : TypeId × Value → H} {P : Program} {w : World} {sp : Nat → Bool} : ∀ (ns : List String) (gs : List (DataW H)) (ps : List MemPlace), DataW.TrodVars enc P w sp ns gs ps → gs.length = ns.length
  | [], [], _, _ => rfl
  | [], _ :: _, _, h => h.elim
  | _ :: _, [], _, h => h.elim
  | _ :: ns, _ :: gs, _, h => by
    obtain ⟨_, _, _, _, _, q, _, _, _, _, h1, _⟩ := h
    simp [vars_length ns gs q h1]
theorem len9 {α : Type} : ∀ {l : List α}, l.length = 9 → ∃ a b c d e f g h i, l = [a, b, c, d, e, f, g, h, i]
  | [a, b, c, d, e, f, g, h, i], _ => ⟨a, b, c, d, e, f, g, h, i, rfl⟩

end Rc
end Go.Proofs.YtphapcngffpjiaaGreatDoor

namespace Go.Proofs.YtphapcngffpjiaaGreatDoor
open Go.RowKit Go.ChangeShapes Go.WideShapes Go.Deep

theorem list5 {α : Type} {l : List α} (h : l.length = 5) : ∃ x0 x1 x2 x3 x4, l = [x0, x1, x2, x3, x4] := by
  match l, h with
  | [x0, x1, x2, x3, x4], _ => exact ⟨_, _, _, _, _, rfl⟩
theorem list6 {α : Type} {l : List α} (h : l.length = 6) : ∃ x0 x1 x2 x3 x4 x5, l = [x0, x1, x2, x3, x4, x5] := by
  match l, h with
  | [x0, x1, x2, x3, x4, x5], _ => exact ⟨_, _, _, _, _, _, rfl⟩
section
variable {H : Type} {enc : TypeId × Value → H} {P : Program} {w : World} {base : Nat} {spare : Nat → Bool} {held : Bool}

theorem open_aggN {r : Reach} {b0 : Nat} {t : TypeId} {fs : Array Field} {v : Value} {d : DataW H} {p : List MemPlace} (hs : P.underlying t = some (.struct fs)) (hone : oneCellFields P fs = true) (hC : P.cellsOf t = fs.size)
    (hv : Value.okWide P w r b0 t v) (h : DataW.Trod enc P w base spare held t v d p) :
    ∃ (cs : List Value) (n : Nat), v = .agg cs.toArray ∧ cs.length = fs.size ∧ ∀ (i : Nat) (f : Field), fs[i]? = some f → ∃ c y, cs[i]? = some c ∧ DataW.trod enc P w base spare held n f.type [c] = some y := by
  obtain ⟨cs, rfl, hsz⟩ := okWide_struct hs hv
  obtain ⟨fuel, hf⟩ := h
  obtain ⟨xs, n, _, hx, hl, hlen, hf'⟩ := DataW.trod_struct hs hf
  refine ⟨cs.toList, n, rfl, by rw [Array.length_toList]; exact hsz.trans hC, fun i f hi => ?_⟩
  obtain ⟨o, k⟩ := hone_of hone i f hi
  have hlt : i < fs.size := (Array.getElem?_eq_some_iff.1 hi).1
  have hlc : i < cs.toList.length := by rw [Array.length_toList, hsz, hC]; exact hlt
  have g := hf' i f hi
  rw [o, k] at g
  have e : ((Value.agg cs).cells.toList.drop i).take 1 = [cs.toList[i]'hlc] := by
    show (cs.toList.drop i).take 1 = _
    rw [List.drop_eq_getElem_cons hlc]
    rfl
  rw [e] at g
  exact ⟨_, xs[i]'(by omega), List.getElem?_eq_getElem hlc, by rw [g, List.getElem?_eq_getElem]⟩

theorem row_of_trod {t e : TypeId} {n : Nat} {c : Value} {y : DataW H × List MemPlace} (ht : P.underlying t = some (.slice e)) (he : P.underlying e = some .string) (hc : P.cellsOf e = 1)
    (h : DataW.trod enc P w base spare held n t [c] = some y) : ∃ a len cap zs, c = .slice a len cap ∧ TxRow w a len cap zs := by
  rcases open_strs ht he hc h with ⟨hcs, _⟩ | ⟨a, len, cap, m, Sx, hcs, hb, hl, hm, hmm, _, hx⟩
  · exact ⟨none, 0, 0, [], by simpa using hcs, rfl, Nat.le_refl _, by omega, fun j x hx => by simp at hx, Or.inl rfl⟩
  · have hlm : len ≤ m := by rw [hmm]; split <;> omega
    have hm' : cap ≤ 9223372036854775807 := by unfold maxLen at hm; omega
    refine ⟨some a, len, cap, (List.range len).map Sx, by simpa using hcs, by simp, hl, hm', fun j x hj => ?_, ?_⟩
    · rw [List.getElem?_map] at hj
      by_cases hjl : j < len
      · rw [List.getElem?_range hjl] at hj
        obtain rfl := Option.some.inj hj
        have := (hx j (by omega)).2
        unfold maxLen at this
        omega
      · rw [List.getElem?_eq_none (by simp; omega)] at hj
        cases hj
    · by_cases h0 : len = 0
      · subst h0; exact Or.inl rfl
      right
      obtain ⟨b, o, spot⟩ := a
      have h0' := (hx 0 (by omega)).1
      have hspot : spot = none := by simpa [Addr.add] using World.cell?_spot h0'
      subst hspot
      refine ⟨b, o, rfl, ?_, fun j x hj => ?_⟩
      · rw [Addr.add_lit] at h0'
        rcases Nat.lt_or_ge b w.heap.size with h1 | h1
        · exact h1
        · simp [World.cell?, Array.getElem?_eq_none h1] at h0'
      · rw [List.getElem?_map] at hj
        by_cases hjl : j < len
        · rw [List.getElem?_range hjl] at hj
          obtain rfl := Option.some.inj hj
          have := (hx j (by omega)).1
          rw [Addr.add_lit] at this
          exact this
        · rw [List.getElem?_eq_none (by simp; omega)] at hj
          cases hj
end

section
variable {H : Type} {enc : TypeId × Value → H} {w : World} {base : Nat} {spare : Nat → Bool} {held : Bool}

theorem open_aggC {P : Program} {n : Nat} {t : TypeId} {fs : Array Field} {cs : List Value} {x : DataW H × List MemPlace} (hs : P.underlying t = some (.struct fs)) (hone : oneCellFields P fs = true) (hC : P.cellsOf t = fs.size)
    (h : DataW.trod enc P w base spare held n t cs = some x) :
    ∃ (n : Nat), cs.length = fs.size ∧ ∀ (i : Nat) (f : Field), fs[i]? = some f → ∃ c y, cs[i]? = some c ∧ DataW.trod enc P w base spare held n f.type [c] = some y := by
  obtain ⟨xs, n, _, hx, hl, hlen, hf'⟩ := DataW.trod_struct hs h
  refine ⟨n, hl.trans hC, fun i f hi => ?_⟩
  obtain ⟨o, k⟩ := hone_of hone i f hi
  have hlt : i < fs.size := (Array.getElem?_eq_some_iff.1 hi).1
  have hlc : i < cs.length := by rw [hl, hC]; exact hlt
  have g := hf' i f hi
  rw [o, k] at g
  have e : (cs.drop i).take 1 = [cs[i]'hlc] := by
    rw [List.drop_eq_getElem_cons hlc]
    rfl
  rw [e] at g
  exact ⟨_, xs[i]'(by omega), List.getElem?_eq_getElem hlc, by rw [g, List.getElem?_eq_getElem]⟩

theorem vd_of_trod {b o n : Nat} {cs : List Value} {x : DataW H × List MemPlace} (hc : ∀ i, i < 8 → w.cell? ⟨b, o + i, none⟩ = cs[i]?) (h : DataW.trod enc Tryz.prog w base spare held n 101 cs = some x) : ∃ v : Vd, v.At w b o := by
  obtain ⟨m, hl, hf⟩ := open_aggC Tryz.underlying101 (by kernel_rfl) (by kernel_rfl) h
  obtain ⟨c0, y0, e0, t0⟩ := hf 0 _ rfl
  obtain ⟨b0, q0, -, s0⟩ := DataW.trod_string Tryz.underlying9 t0
  obtain rfl : c0 = .string b0 := by simpa using q0
  obtain ⟨c1, y1, e1, t1⟩ := hf 1 _ rfl
  obtain ⟨b1, q1, -, s1⟩ := DataW.trod_int Tryz.underlying2 t1
  obtain rfl : c1 = .int .i64 b1 := by simpa using q1
  obtain ⟨c2, y2, e2, t2⟩ := hf 2 _ rfl
  obtain ⟨b2, q2, -, s2⟩ := DataW.trod_string Tryz.underlying9 t2
  obtain rfl : c2 = .string b2 := by simpa using q2
  obtain ⟨c3, y3, e3, t3⟩ := hf 3 _ rfl
  obtain ⟨b3, q3, -, s3⟩ := DataW.trod_string Tryz.underlying9 t3
  obtain rfl : c3 = .string b3 := by simpa using q3
  obtain ⟨c4, y4, e4, t4⟩ := hf 4 _ rfl
  obtain ⟨b4, q4, -⟩ := DataW.trod_bool Tryz.underlying4 t4
  obtain rfl : c4 = .bool b4 := by simpa using q4
  obtain ⟨c5, y5, e5, t5⟩ := hf 5 _ rfl
  obtain ⟨b5, q5, -, s5⟩ := DataW.trod_string Tryz.underlying9 t5
  obtain rfl : c5 = .string b5 := by simpa using q5
  obtain ⟨c6, y6, e6, t6⟩ := hf 6 _ rfl
  obtain ⟨b6, q6, -⟩ := DataW.trod_bool Tryz.underlying4 t6
  obtain rfl : c6 = .bool b6 := by simpa using q6
  obtain ⟨c7, y7, e7, t7⟩ := hf 7 _ rfl
  obtain ⟨b7, l7, p7, zs, rfl, r7⟩ := row_of_trod Tryz.underlying96 Tryz.underlying9 (by kernel_rfl) t7
  unfold maxLen at s0 s2 s3 s5
  refine ⟨⟨b0, b1, b2, b3, b4, b5, b6, zs⟩, ⟨?_, ?_, ?_, ?_⟩, b7, l7, p7, r7, ?_, ?_, ?_, ?_, ?_, ?_, ?_, ?_⟩
  · show b0.size ≤ _; omega
  · show b2.size ≤ _; omega
  · show b3.size ≤ _; omega
  · show b5.size ≤ _; omega
  · exact (hc 0 (by omega)).trans e0
  · exact (hc 1 (by omega)).trans e1
  · exact (hc 2 (by omega)).trans e2
  · exact (hc 3 (by omega)).trans e3
  · exact (hc 4 (by omega)).trans e4
  · exact (hc 5 (by omega)).trans e5
  · exact (hc 6 (by omega)).trans e6
  · exact (hc 7 (by omega)).trans e7

end

end Go.Proofs.YtphapcngffpjiaaGreatDoor

namespace Go.Proofs.YtphapcngffpjiaaGreatDoor
open Go.RowKit Go.ChangeShapes Go.WideShapes Go.Deep
namespace Rc

section
variable {H : Type} {enc : TypeId × Value → H} {w : World} {base : Nat} {spare : Nat → Bool} {held : Bool}

theorem nd_of_trod {b o n : Nat} {cs : List Value} {x : DataW H × List MemPlace} (hc : ∀ i, i < 7 → w.cell? ⟨b, o + i, none⟩ = cs[i]?) (h : DataW.trod enc Tryz.prog w base spare held n 98 cs = some x) : ∃ v : Nd, RAt w b o (ndF v) := by
  obtain ⟨m, hl, hf⟩ := open_aggC Tryz.underlying98 (by kernel_rfl) (by kernel_rfl) h
  obtain ⟨c0, y0, e0, t0⟩ := hf 0 _ rfl
  obtain ⟨b0, q0, -, s0⟩ := DataW.trod_string Tryz.underlying9 t0
  obtain rfl : c0 = .string b0 := by simpa using q0
  obtain ⟨c1, y1, e1, t1⟩ := hf 1 _ rfl
  obtain ⟨b1, q1, -, s1⟩ := DataW.trod_string Tryz.underlying9 t1
  obtain rfl : c1 = .string b1 := by simpa using q1
  obtain ⟨c2, y2, e2, t2⟩ := hf 2 _ rfl
  obtain ⟨b2, q2, -, s2⟩ := DataW.trod_int Tryz.underlying2 t2
  obtain rfl : c2 = .int .i64 b2 := by simpa using q2
  obtain ⟨c3, y3, e3, t3⟩ := hf 3 _ rfl
  obtain ⟨b3, q3, -, s3⟩ := DataW.trod_int Tryz.underlying2 t3
  obtain rfl : c3 = .int .i64 b3 := by simpa using q3
  obtain ⟨c4, y4, e4, t4⟩ := hf 4 _ rfl
  obtain ⟨b4, q4, -, s4⟩ := DataW.trod_int Tryz.underlying2 t4
  obtain rfl : c4 = .int .i64 b4 := by simpa using q4
  obtain ⟨c5, y5, e5, t5⟩ := hf 5 _ rfl
  obtain ⟨b5, q5, -⟩ := DataW.trod_bool Tryz.underlying4 t5
  obtain rfl : c5 = .bool b5 := by simpa using q5
  obtain ⟨c6, y6, e6, t6⟩ := hf 6 _ rfl
  obtain ⟨b6, l6, p6, zz, rfl, r6⟩ := row_of_trod Tryz.underlying96 Tryz.underlying9 (by kernel_rfl) t6
  unfold maxLen at s0 s1
  refine ⟨⟨b0, b1, b2, b3, b4, b5, zz⟩, fun i f hi => ?_⟩
  rcases i with _ | _ | _ | _ | _ | _ | _ | i
  · cases hi
    exact ⟨_, (hc 0 (by omega)).trans e0, rfl, show b0.size ≤ _ by omega⟩
  · cases hi
    exact ⟨_, (hc 1 (by omega)).trans e1, rfl, show b1.size ≤ _ by omega⟩
  · cases hi
    exact ⟨_, (hc 2 (by omega)).trans e2, rfl⟩
  · cases hi
    exact ⟨_, (hc 3 (by omega)).trans e3, rfl⟩
  · cases hi
    exact ⟨_, (hc 4 (by omega)).trans e4, rfl⟩
  · cases hi
    exact ⟨_, (hc 5 (by omega)).trans e5, rfl⟩
  · cases hi
    exact ⟨_, (hc 6 (by omega)).trans e6, b6, l6, p6, rfl, r6⟩
  · first | (cases hi; done) | (simp [ndF] at hi; done)

theorem ndrow_of_trod {n : Nat} {c : Value} {y : DataW H × List MemPlace} (h : DataW.trod enc Tryz.prog w base spare held n 22 [c] = some y) : ∃ a len cap, ∃ xs : List Nd, c = .slice a len cap ∧ RRow w a len cap 7 (xs.map ndF) := by
  rcases open_slice Tryz.underlying22 h with ⟨hcs, _⟩ | ⟨a, len, cap, m, n', D, Pl, hcs, hb, hl, hm, hmm, _, hx⟩
  · exact ⟨none, 0, 0, [], by simpa using hcs, rfl, Nat.le_refl _, by omega, .inl rfl⟩
  have hlm : len ≤ m := by rw [hmm]; split <;> omega
  have hm' : cap ≤ 9223372036854775807 := by unfold maxLen at hm; omega
  have hce : Tryz.prog.cellsOf 98 = 7 := by kernel_rfl
  rw [hce] at hx
  by_cases h0 : len = 0
  · subst h0
    exact ⟨some a, 0, cap, [], by simpa using hcs, rfl, hl, hm', .inl rfl⟩
  obtain ⟨b, o, spot⟩ := a
  obtain ⟨cs0, k1, k2⟩ := hx 0 (by omega)
  have hspot : spot = none := by
    obtain ⟨_, hl0, hc0⟩ := World.cells?_some k1
    have := hc0 0 (by omega)
    rw [List.getElem?_eq_getElem (by omega)] at this
    simpa [Addr.add] using World.cell?_spot this
  subst hspot
  have hblt : b < w.heap.size := by
    obtain ⟨_, hl0, hc0⟩ := World.cells?_some k1
    have := hc0 0 (by omega)
    rw [List.getElem?_eq_getElem (by omega)] at this
    rcases Nat.lt_or_ge b w.heap.size with h1 | h1
    · exact h1
    · simp [Addr.add, World.cell?, Array.getElem?_eq_none h1] at this
  have each : ∀ i, i < len → ∃ v : Nd, RAt w b (o + i * 7) (ndF v) := fun i hi => by
    obtain ⟨cs, k1, k2⟩ := hx i (by omega)
    obtain ⟨_, hl0, hc0⟩ := World.cells?_some k1
    refine nd_of_trod (fun j hj => ?_) k2
    have := hc0 j hj
    rw [add_add, Addr.add_lit] at this
    rw [Nat.add_assoc]
    exact this
  have hin : Inhabited Nd := ⟨⟨⟨#[]⟩, ⟨#[]⟩, 0, 0, 0, false, []⟩⟩
  obtain ⟨f, hf⟩ := choose_lt each
  refine ⟨some ⟨b, o, none⟩, len, cap, (List.range len).map f, by simpa using hcs, by simp, hl, hm', .inr ⟨b, o, rfl, hblt, fun j r hj => ?_⟩⟩
  rw [List.getElem?_map, List.getElem?_map] at hj
  by_cases hjl : j < len
  · rw [List.getElem?_range hjl] at hj
    obtain rfl := Option.some.inj hj
    exact hf j hjl
  · rw [List.getElem?_eq_none (by simp; omega)] at hj
    cases hj

theorem kd_of_trod {b o n : Nat} {cs : List Value} {x : DataW H × List MemPlace} (hc : ∀ i, i < 4 → w.cell? ⟨b, o + i, none⟩ = cs[i]?) (h : DataW.trod enc Tryz.prog w base spare held n 30 cs = some x) : ∃ v : Kd, RAt w b o (kdF v) := by
  obtain ⟨m, hl, hf⟩ := open_aggC Tryz.underlying30 (by kernel_rfl) (by kernel_rfl) h
  obtain ⟨c0, y0, e0, t0⟩ := hf 0 _ rfl
  obtain ⟨b0, q0, -, s0⟩ := DataW.trod_string Tryz.underlying9 t0
  obtain rfl : c0 = .string b0 := by simpa using q0
  obtain ⟨c1, y1, e1, t1⟩ := hf 1 _ rfl
  obtain ⟨b1, q1, -⟩ := DataW.trod_bool Tryz.underlying4 t1
  obtain rfl : c1 = .bool b1 := by simpa using q1
  obtain ⟨c2, y2, e2, t2⟩ := hf 2 _ rfl
  obtain ⟨b2, q2, -⟩ := DataW.trod_bool Tryz.underlying4 t2
  obtain rfl : c2 = .bool b2 := by simpa using q2
  obtain ⟨c3, y3, e3, t3⟩ := hf 3 _ rfl
  obtain ⟨b3, q3, -, s3⟩ := DataW.trod_string Tryz.underlying9 t3
  obtain rfl : c3 = .string b3 := by simpa using q3
  unfold maxLen at s0 s3
  refine ⟨⟨b0, b1, b2, b3⟩, fun i f hi => ?_⟩
  rcases i with _ | _ | _ | _ | i
  · cases hi
    exact ⟨_, (hc 0 (by omega)).trans e0, rfl, show b0.size ≤ _ by omega⟩
  · cases hi
    exact ⟨_, (hc 1 (by omega)).trans e1, rfl⟩
  · cases hi
    exact ⟨_, (hc 2 (by omega)).trans e2, rfl⟩
  · cases hi
    exact ⟨_, (hc 3 (by omega)).trans e3, rfl, show b3.size ≤ _ by omega⟩
  · first | (cases hi; done) | (simp [kdF] at hi; done)

theorem kdrow_of_trod {n : Nat} {c : Value} {y : DataW H × List MemPlace} (h : DataW.trod enc Tryz.prog w base spare held n 23 [c] = some y) : ∃ a len cap, ∃ xs : List Kd, c = .slice a len cap ∧ RRow w a len cap 4 (xs.map kdF) := by
  rcases open_slice Tryz.underlying23 h with ⟨hcs, _⟩ | ⟨a, len, cap, m, n', D, Pl, hcs, hb, hl, hm, hmm, _, hx⟩
  · exact ⟨none, 0, 0, [], by simpa using hcs, rfl, Nat.le_refl _, by omega, .inl rfl⟩
  have hlm : len ≤ m := by rw [hmm]; split <;> omega
  have hm' : cap ≤ 9223372036854775807 := by unfold maxLen at hm; omega
  have hce : Tryz.prog.cellsOf 30 = 4 := by kernel_rfl
  rw [hce] at hx
  by_cases h0 : len = 0
  · subst h0
    exact ⟨some a, 0, cap, [], by simpa using hcs, rfl, hl, hm', .inl rfl⟩
  obtain ⟨b, o, spot⟩ := a
  obtain ⟨cs0, k1, k2⟩ := hx 0 (by omega)
  have hspot : spot = none := by
    obtain ⟨_, hl0, hc0⟩ := World.cells?_some k1
    have := hc0 0 (by omega)
    rw [List.getElem?_eq_getElem (by omega)] at this
    simpa [Addr.add] using World.cell?_spot this
  subst hspot
  have hblt : b < w.heap.size := by
    obtain ⟨_, hl0, hc0⟩ := World.cells?_some k1
    have := hc0 0 (by omega)
    rw [List.getElem?_eq_getElem (by omega)] at this
    rcases Nat.lt_or_ge b w.heap.size with h1 | h1
    · exact h1
    · simp [Addr.add, World.cell?, Array.getElem?_eq_none h1] at this
  have each : ∀ i, i < len → ∃ v : Kd, RAt w b (o + i * 4) (kdF v) := fun i hi => by
    obtain ⟨cs, k1, k2⟩ := hx i (by omega)
    obtain ⟨_, hl0, hc0⟩ := World.cells?_some k1
    refine kd_of_trod (fun j hj => ?_) k2
    have := hc0 j hj
    rw [add_add, Addr.add_lit] at this
    rw [Nat.add_assoc]
    exact this
  have hin : Inhabited Kd := ⟨⟨⟨#[]⟩, false, false, ⟨#[]⟩⟩⟩
  obtain ⟨f, hf⟩ := choose_lt each
  refine ⟨some ⟨b, o, none⟩, len, cap, (List.range len).map f, by simpa using hcs, by simp, hl, hm', .inr ⟨b, o, rfl, hblt, fun j r hj => ?_⟩⟩
  rw [List.getElem?_map, List.getElem?_map] at hj
  by_cases hjl : j < len
  · rw [List.getElem?_range hjl] at hj
    obtain rfl := Option.some.inj hj
    exact hf j hjl
  · rw [List.getElem?_eq_none (by simp; omega)] at hj
    cases hj

theorem vd_of_trod {b o n : Nat} {cs : List Value} {x : DataW H × List MemPlace} (hc : ∀ i, i < 8 → w.cell? ⟨b, o + i, none⟩ = cs[i]?) (h : DataW.trod enc Tryz.prog w base spare held n 101 cs = some x) : ∃ v : Vd, RAt w b o (vdF v) := by
  obtain ⟨m, hl, hf⟩ := open_aggC Tryz.underlying101 (by kernel_rfl) (by kernel_rfl) h
  obtain ⟨c0, y0, e0, t0⟩ := hf 0 _ rfl
  obtain ⟨b0, q0, -, s0⟩ := DataW.trod_string Tryz.underlying9 t0
  obtain rfl : c0 = .string b0 := by simpa using q0
  obtain ⟨c1, y1, e1, t1⟩ := hf 1 _ rfl
  obtain ⟨b1, q1, -, s1⟩ := DataW.trod_int Tryz.underlying2 t1
  obtain rfl : c1 = .int .i64 b1 := by simpa using q1
  obtain ⟨c2, y2, e2, t2⟩ := hf 2 _ rfl
  obtain ⟨b2, q2, -, s2⟩ := DataW.trod_string Tryz.underlying9 t2
  obtain rfl : c2 = .string b2 := by simpa using q2
  obtain ⟨c3, y3, e3, t3⟩ := hf 3 _ rfl
  obtain ⟨b3, q3, -, s3⟩ := DataW.trod_string Tryz.underlying9 t3
  obtain rfl : c3 = .string b3 := by simpa using q3
  obtain ⟨c4, y4, e4, t4⟩ := hf 4 _ rfl
  obtain ⟨b4, q4, -⟩ := DataW.trod_bool Tryz.underlying4 t4
  obtain rfl : c4 = .bool b4 := by simpa using q4
  obtain ⟨c5, y5, e5, t5⟩ := hf 5 _ rfl
  obtain ⟨b5, q5, -, s5⟩ := DataW.trod_string Tryz.underlying9 t5
  obtain rfl : c5 = .string b5 := by simpa using q5
  obtain ⟨c6, y6, e6, t6⟩ := hf 6 _ rfl
  obtain ⟨b6, q6, -⟩ := DataW.trod_bool Tryz.underlying4 t6
  obtain rfl : c6 = .bool b6 := by simpa using q6
  obtain ⟨c7, y7, e7, t7⟩ := hf 7 _ rfl
  obtain ⟨b7, l7, p7, zz, rfl, r7⟩ := row_of_trod Tryz.underlying96 Tryz.underlying9 (by kernel_rfl) t7
  unfold maxLen at s0 s2 s3 s5
  refine ⟨⟨b0, b1, b2, b3, b4, b5, b6, zz⟩, fun i f hi => ?_⟩
  rcases i with _ | _ | _ | _ | _ | _ | _ | _ | i
  · cases hi
    exact ⟨_, (hc 0 (by omega)).trans e0, rfl, show b0.size ≤ _ by omega⟩
  · cases hi
    exact ⟨_, (hc 1 (by omega)).trans e1, rfl⟩
  · cases hi
    exact ⟨_, (hc 2 (by omega)).trans e2, rfl, show b2.size ≤ _ by omega⟩
  · cases hi
    exact ⟨_, (hc 3 (by omega)).trans e3, rfl, show b3.size ≤ _ by omega⟩
  · cases hi
    exact ⟨_, (hc 4 (by omega)).trans e4, rfl⟩
  · cases hi
    exact ⟨_, (hc 5 (by omega)).trans e5, rfl, show b5.size ≤ _ by omega⟩
  · cases hi
    exact ⟨_, (hc 6 (by omega)).trans e6, rfl⟩
  · cases hi
    exact ⟨_, (hc 7 (by omega)).trans e7, b7, l7, p7, rfl, r7⟩
  · first | (cases hi; done) | (simp [vdF] at hi; done)

theorem vdrow_of_trod {n : Nat} {c : Value} {y : DataW H × List MemPlace} (h : DataW.trod enc Tryz.prog w base spare held n 24 [c] = some y) : ∃ a len cap, ∃ xs : List Vd, c = .slice a len cap ∧ RRow w a len cap 8 (xs.map vdF) := by
  rcases open_slice Tryz.underlying24 h with ⟨hcs, _⟩ | ⟨a, len, cap, m, n', D, Pl, hcs, hb, hl, hm, hmm, _, hx⟩
  · exact ⟨none, 0, 0, [], by simpa using hcs, rfl, Nat.le_refl _, by omega, .inl rfl⟩
  have hlm : len ≤ m := by rw [hmm]; split <;> omega
  have hm' : cap ≤ 9223372036854775807 := by unfold maxLen at hm; omega
  have hce : Tryz.prog.cellsOf 101 = 8 := by kernel_rfl
  rw [hce] at hx
  by_cases h0 : len = 0
  · subst h0
    exact ⟨some a, 0, cap, [], by simpa using hcs, rfl, hl, hm', .inl rfl⟩
  obtain ⟨b, o, spot⟩ := a
  obtain ⟨cs0, k1, k2⟩ := hx 0 (by omega)
  have hspot : spot = none := by
    obtain ⟨_, hl0, hc0⟩ := World.cells?_some k1
    have := hc0 0 (by omega)
    rw [List.getElem?_eq_getElem (by omega)] at this
    simpa [Addr.add] using World.cell?_spot this
  subst hspot
  have hblt : b < w.heap.size := by
    obtain ⟨_, hl0, hc0⟩ := World.cells?_some k1
    have := hc0 0 (by omega)
    rw [List.getElem?_eq_getElem (by omega)] at this
    rcases Nat.lt_or_ge b w.heap.size with h1 | h1
    · exact h1
    · simp [Addr.add, World.cell?, Array.getElem?_eq_none h1] at this
  have each : ∀ i, i < len → ∃ v : Vd, RAt w b (o + i * 8) (vdF v) := fun i hi => by
    obtain ⟨cs, k1, k2⟩ := hx i (by omega)
    obtain ⟨_, hl0, hc0⟩ := World.cells?_some k1
    refine vd_of_trod (fun j hj => ?_) k2
    have := hc0 j hj
    rw [add_add, Addr.add_lit] at this
    rw [Nat.add_assoc]
    exact this
  have hin : Inhabited Vd := ⟨⟨⟨#[]⟩, 0, ⟨#[]⟩, ⟨#[]⟩, false, ⟨#[]⟩, false, []⟩⟩
  obtain ⟨f, hf⟩ := choose_lt each
  refine ⟨some ⟨b, o, none⟩, len, cap, (List.range len).map f, by simpa using hcs, by simp, hl, hm', .inr ⟨b, o, rfl, hblt, fun j r hj => ?_⟩⟩
  rw [List.getElem?_map, List.getElem?_map] at hj
  by_cases hjl : j < len
  · rw [List.getElem?_range hjl] at hj
    obtain rfl := Option.some.inj hj
    exact hf j hjl
  · rw [List.getElem?_eq_none (by simp; omega)] at hj
    cases hj

theorem xd_of_trod {b o n : Nat} {cs : List Value} {x : DataW H × List MemPlace} (hc : ∀ i, i < 5 → w.cell? ⟨b, o + i, none⟩ = cs[i]?) (h : DataW.trod enc Tryz.prog w base spare held n 52 cs = some x) : ∃ v : Xd, RAt w b o (xdF v) := by
  obtain ⟨m, hl, hf⟩ := open_aggC Tryz.underlying52 (by kernel_rfl) (by kernel_rfl) h
  obtain ⟨c0, y0, e0, t0⟩ := hf 0 _ rfl
  obtain ⟨b0, q0, -, s0⟩ := DataW.trod_string Tryz.underlying9 t0
  obtain rfl : c0 = .string b0 := by simpa using q0
  obtain ⟨c1, y1, e1, t1⟩ := hf 1 _ rfl
  obtain ⟨b1, q1, -, s1⟩ := DataW.trod_int Tryz.underlying2 t1
  obtain rfl : c1 = .int .i64 b1 := by simpa using q1
  obtain ⟨c2, y2, e2, t2⟩ := hf 2 _ rfl
  obtain ⟨b2, q2, -, s2⟩ := DataW.trod_string Tryz.underlying9 t2
  obtain rfl : c2 = .string b2 := by simpa using q2
  obtain ⟨c3, y3, e3, t3⟩ := hf 3 _ rfl
  obtain ⟨b3, q3, -⟩ := DataW.trod_bool Tryz.underlying4 t3
  obtain rfl : c3 = .bool b3 := by simpa using q3
  obtain ⟨c4, y4, e4, t4⟩ := hf 4 _ rfl
  obtain ⟨b4, q4, -, s4⟩ := DataW.trod_string Tryz.underlying9 t4
  obtain rfl : c4 = .string b4 := by simpa using q4
  unfold maxLen at s0 s2 s4
  refine ⟨⟨b0, b1, b2, b3, b4⟩, fun i f hi => ?_⟩
  rcases i with _ | _ | _ | _ | _ | i
  · cases hi
    exact ⟨_, (hc 0 (by omega)).trans e0, rfl, show b0.size ≤ _ by omega⟩
  · cases hi
    exact ⟨_, (hc 1 (by omega)).trans e1, rfl⟩
  · cases hi
    exact ⟨_, (hc 2 (by omega)).trans e2, rfl, show b2.size ≤ _ by omega⟩
  · cases hi
    exact ⟨_, (hc 3 (by omega)).trans e3, rfl⟩
  · cases hi
    exact ⟨_, (hc 4 (by omega)).trans e4, rfl, show b4.size ≤ _ by omega⟩
  · first | (cases hi; done) | (simp [xdF] at hi; done)

theorem xdrow_of_trod {n : Nat} {c : Value} {y : DataW H × List MemPlace} (h : DataW.trod enc Tryz.prog w base spare held n 25 [c] = some y) : ∃ a len cap, ∃ xs : List Xd, c = .slice a len cap ∧ RRow w a len cap 5 (xs.map xdF) := by
  rcases open_slice Tryz.underlying25 h with ⟨hcs, _⟩ | ⟨a, len, cap, m, n', D, Pl, hcs, hb, hl, hm, hmm, _, hx⟩
  · exact ⟨none, 0, 0, [], by simpa using hcs, rfl, Nat.le_refl _, by omega, .inl rfl⟩
  have hlm : len ≤ m := by rw [hmm]; split <;> omega
  have hm' : cap ≤ 9223372036854775807 := by unfold maxLen at hm; omega
  have hce : Tryz.prog.cellsOf 52 = 5 := by kernel_rfl
  rw [hce] at hx
  by_cases h0 : len = 0
  · subst h0
    exact ⟨some a, 0, cap, [], by simpa using hcs, rfl, hl, hm', .inl rfl⟩
  obtain ⟨b, o, spot⟩ := a
  obtain ⟨cs0, k1, k2⟩ := hx 0 (by omega)
  have hspot : spot = none := by
    obtain ⟨_, hl0, hc0⟩ := World.cells?_some k1
    have := hc0 0 (by omega)
    rw [List.getElem?_eq_getElem (by omega)] at this
    simpa [Addr.add] using World.cell?_spot this
  subst hspot
  have hblt : b < w.heap.size := by
    obtain ⟨_, hl0, hc0⟩ := World.cells?_some k1
    have := hc0 0 (by omega)
    rw [List.getElem?_eq_getElem (by omega)] at this
    rcases Nat.lt_or_ge b w.heap.size with h1 | h1
    · exact h1
    · simp [Addr.add, World.cell?, Array.getElem?_eq_none h1] at this
  have each : ∀ i, i < len → ∃ v : Xd, RAt w b (o + i * 5) (xdF v) := fun i hi => by
    obtain ⟨cs, k1, k2⟩ := hx i (by omega)
    obtain ⟨_, hl0, hc0⟩ := World.cells?_some k1
    refine xd_of_trod (fun j hj => ?_) k2
    have := hc0 j hj
    rw [add_add, Addr.add_lit] at this
    rw [Nat.add_assoc]
    exact this
  have hin : Inhabited Xd := ⟨⟨⟨#[]⟩, 0, ⟨#[]⟩, false, ⟨#[]⟩⟩⟩
  obtain ⟨f, hf⟩ := choose_lt each
  refine ⟨some ⟨b, o, none⟩, len, cap, (List.range len).map f, by simpa using hcs, by simp, hl, hm', .inr ⟨b, o, rfl, hblt, fun j r hj => ?_⟩⟩
  rw [List.getElem?_map, List.getElem?_map] at hj
  by_cases hjl : j < len
  · rw [List.getElem?_range hjl] at hj
    obtain rfl := Option.some.inj hj
    exact hf j hjl
  · rw [List.getElem?_eq_none (by simp; omega)] at hj
    cases hj

theorem pd_of_trod {b o n : Nat} {cs : List Value} {x : DataW H × List MemPlace} (hc : ∀ i, i < 6 → w.cell? ⟨b, o + i, none⟩ = cs[i]?) (h : DataW.trod enc Tryz.prog w base spare held n 104 cs = some x) : ∃ v : Pd, RAt w b o (pdF v) := by
  obtain ⟨m, hl, hf⟩ := open_aggC Tryz.underlying104 (by kernel_rfl) (by kernel_rfl) h
  obtain ⟨c0, y0, e0, t0⟩ := hf 0 _ rfl
  obtain ⟨b0, q0, -, s0⟩ := DataW.trod_string Tryz.underlying9 t0
  obtain rfl : c0 = .string b0 := by simpa using q0
  obtain ⟨c1, y1, e1, t1⟩ := hf 1 _ rfl
  obtain ⟨b1, q1, -, s1⟩ := DataW.trod_int Tryz.underlying2 t1
  obtain rfl : c1 = .int .i64 b1 := by simpa using q1
  obtain ⟨c2, y2, e2, t2⟩ := hf 2 _ rfl
  obtain ⟨b2, q2, -, s2⟩ := DataW.trod_string Tryz.underlying9 t2
  obtain rfl : c2 = .string b2 := by simpa using q2
  obtain ⟨c3, y3, e3, t3⟩ := hf 3 _ rfl
  obtain ⟨b3, l3, p3, zz, rfl, r3⟩ := row_of_trod Tryz.underlying96 Tryz.underlying9 (by kernel_rfl) t3
  obtain ⟨c4, y4, e4, t4⟩ := hf 4 _ rfl
  obtain ⟨b4, q4, -, s4⟩ := DataW.trod_string Tryz.underlying9 t4
  obtain rfl : c4 = .string b4 := by simpa using q4
  obtain ⟨c5, y5, e5, t5⟩ := hf 5 _ rfl
  obtain ⟨b5, q5, -, s5⟩ := DataW.trod_int Tryz.underlying2 t5
  obtain rfl : c5 = .int .i64 b5 := by simpa using q5
  unfold maxLen at s0 s2 s4
  refine ⟨⟨b0, b1, b2, zz, b4, b5⟩, fun i f hi => ?_⟩
  rcases i with _ | _ | _ | _ | _ | _ | i
  · cases hi
    exact ⟨_, (hc 0 (by omega)).trans e0, rfl, show b0.size ≤ _ by omega⟩
  · cases hi
    exact ⟨_, (hc 1 (by omega)).trans e1, rfl⟩
  · cases hi
    exact ⟨_, (hc 2 (by omega)).trans e2, rfl, show b2.size ≤ _ by omega⟩
  · cases hi
    exact ⟨_, (hc 3 (by omega)).trans e3, b3, l3, p3, rfl, r3⟩
  · cases hi
    exact ⟨_, (hc 4 (by omega)).trans e4, rfl, show b4.size ≤ _ by omega⟩
  · cases hi
    exact ⟨_, (hc 5 (by omega)).trans e5, rfl⟩
  · first | (cases hi; done) | (simp [pdF] at hi; done)

theorem pdrow_of_trod {n : Nat} {c : Value} {y : DataW H × List MemPlace} (h : DataW.trod enc Tryz.prog w base spare held n 26 [c] = some y) : ∃ a len cap, ∃ xs : List Pd, c = .slice a len cap ∧ RRow w a len cap 6 (xs.map pdF) := by
  rcases open_slice Tryz.underlying26 h with ⟨hcs, _⟩ | ⟨a, len, cap, m, n', D, Pl, hcs, hb, hl, hm, hmm, _, hx⟩
  · exact ⟨none, 0, 0, [], by simpa using hcs, rfl, Nat.le_refl _, by omega, .inl rfl⟩
  have hlm : len ≤ m := by rw [hmm]; split <;> omega
  have hm' : cap ≤ 9223372036854775807 := by unfold maxLen at hm; omega
  have hce : Tryz.prog.cellsOf 104 = 6 := by kernel_rfl
  rw [hce] at hx
  by_cases h0 : len = 0
  · subst h0
    exact ⟨some a, 0, cap, [], by simpa using hcs, rfl, hl, hm', .inl rfl⟩
  obtain ⟨b, o, spot⟩ := a
  obtain ⟨cs0, k1, k2⟩ := hx 0 (by omega)
  have hspot : spot = none := by
    obtain ⟨_, hl0, hc0⟩ := World.cells?_some k1
    have := hc0 0 (by omega)
    rw [List.getElem?_eq_getElem (by omega)] at this
    simpa [Addr.add] using World.cell?_spot this
  subst hspot
  have hblt : b < w.heap.size := by
    obtain ⟨_, hl0, hc0⟩ := World.cells?_some k1
    have := hc0 0 (by omega)
    rw [List.getElem?_eq_getElem (by omega)] at this
    rcases Nat.lt_or_ge b w.heap.size with h1 | h1
    · exact h1
    · simp [Addr.add, World.cell?, Array.getElem?_eq_none h1] at this
  have each : ∀ i, i < len → ∃ v : Pd, RAt w b (o + i * 6) (pdF v) := fun i hi => by
    obtain ⟨cs, k1, k2⟩ := hx i (by omega)
    obtain ⟨_, hl0, hc0⟩ := World.cells?_some k1
    refine pd_of_trod (fun j hj => ?_) k2
    have := hc0 j hj
    rw [add_add, Addr.add_lit] at this
    rw [Nat.add_assoc]
    exact this
  have hin : Inhabited Pd := ⟨⟨⟨#[]⟩, 0, ⟨#[]⟩, [], ⟨#[]⟩, 0⟩⟩
  obtain ⟨f, hf⟩ := choose_lt each
  refine ⟨some ⟨b, o, none⟩, len, cap, (List.range len).map f, by simpa using hcs, by simp, hl, hm', .inr ⟨b, o, rfl, hblt, fun j r hj => ?_⟩⟩
  rw [List.getElem?_map, List.getElem?_map] at hj
  by_cases hjl : j < len
  · rw [List.getElem?_range hjl] at hj
    obtain rfl := Option.some.inj hj
    exact hf j hjl
  · rw [List.getElem?_eq_none (by simp; omega)] at hj
    cases hj

end

end Rc
end Go.Proofs.YtphapcngffpjiaaGreatDoor
