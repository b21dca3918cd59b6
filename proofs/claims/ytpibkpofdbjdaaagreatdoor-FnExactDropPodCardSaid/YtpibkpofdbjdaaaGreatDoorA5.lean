import Derived.Test.YtpibkpofdbjdaaaGreatDoorA4
import Derived.Deep.AppendLies
import Derived.Stop.LaidErr
import Derived.ChangeVars
import Derived.Deep.Strs
import Derived.Deep.Fields
import Derived.WideShapes
import Derived.ChangeArms
/-
  A cluster in memory of its own, as the program makes it.
-/
namespace Go.Proofs.YtpibkpofdbjdaaaGreatDoor
open Go.RowKit
namespace Rc
open Mk

structure Sm (c : Cl) : Prop where
  n : c.ns.length ≤ 8
  ns : ∀ (j : Nat) x, c.ns[j]? = some x → x.zs.length ≤ 8001
  k : c.ks.length ≤ 8
  v : c.vs.length ≤ 8
  vs : ∀ (j : Nat) x, c.vs[j]? = some x → x.zs.length ≤ 8001
  x : c.xs.length ≤ 8
  p : c.ps.length ≤ 8
  ps : ∀ (j : Nat) x, c.ps[j]? = some x → x.zs.length ≤ 8001
theorem RightI.sm {c : Cl} (h : RightI c) : Sm c := by
  obtain ⟨_, ⟨⟨h1, h2, _⟩, ⟨h3, _⟩, ⟨h4, h5, _⟩, ⟨h6, _⟩, ⟨h7, h8, _⟩⟩, _⟩ := h
  refine ⟨by omega, fun j x hj => ?_, by omega, by omega, fun j x hj => ?_, by omega, by omega, fun j x hj => ?_⟩
  · have := (h2 j x hj).2.2.2.2.2.1; omega
  · have := (names_six (h5 j x hj).2.2.2.2.2.2).1; omega
  · have := (h8 j x hj).2.2.2.1.1; omega

def flatV (r : List Fv) : List Value := r.map fun f => f.val.getD undef
def FlatR (r : List Fv) : Prop := ∀ (i : Nat) f, r[i]? = some f → ∃ v, f.val = some v
theorem Fv.Is.val {w : World} {f : Fv} {v u : Value} (h : f.Is w v) (hu : f.val = some u) : v = u ∧ f.Fr w 0 (fun _ => False) v := by
  cases f with
  | s t => cases hu; exact ⟨h.1, h⟩
  | i n => cases hu; exact ⟨h, h⟩
  | b x => cases hu; exact ⟨h, h⟩
  | l zs => cases hu
theorem Fv.Fr.any {w w' : World} {f : Fv} {v u : Value} {h h' : Nat} {S S' : Nat → Prop} (k : f.Fr w h S v) (hu : f.val = some u) : f.Fr w' h' S' v := by
  cases f with
  | l zs => cases hu
  | _ => exact k
theorem flatV_at {r : List Fv} (hf : FlatR r) {i : Nat} {f : Fv} (hi : r[i]? = some f) : ∃ u, f.val = some u ∧ (flatV r)[i]? = some u := by
  obtain ⟨u, hu⟩ := hf i f hi
  exact ⟨u, hu, by rw [flatV, List.getElem?_map, hi]; simp [hu]⟩
theorem flatV_inv {r : List Fv} (hf : FlatR r) {i : Nat} {u : Value} (hi : (flatV r)[i]? = some u) : ∃ f, r[i]? = some f ∧ f.val = some u := by
  rw [flatV, List.getElem?_map] at hi
  obtain ⟨f, h1, h2⟩ := Option.map_eq_some_iff.1 hi
  obtain ⟨v, hv⟩ := hf i f h1
  rw [hv] at h2
  exact ⟨f, h1, by rw [hv]; simpa using h2⟩
section
variable {w : World} {a : Option Addr} {len cap m : Nat} {rs : List (List Fv)}
theorem flat_all (hm : ∀ (j : Nat) r, rs[j]? = some r → r.length = m) : ∀ (j : Nat) vs, (rs.map flatV)[j]? = some vs → vs.length = m := by
  intro j vs hj
  rw [List.getElem?_map] at hj
  obtain ⟨r, h1, rfl⟩ := Option.map_eq_some_iff.1 hj
  rw [flatV, List.length_map]
  exact hm j r h1
theorem flat_news {b o : Nat} (h : RRow w (some ⟨b, o, none⟩) len cap m rs) (hm : ∀ (j : Nat) r, rs[j]? = some r → r.length = m ∧ FlatR r) : ∀ (k : Nat) u, (rs.map flatV).flatten[k]? = some u → w.cell? ((⟨b, o, none⟩ : Addr).add k) = some u := by
  intro k u hk
  obtain ⟨j, i, vs, h1, h2, rfl⟩ := flat_inv (flat_all fun j r hj => (hm j r hj).1) hk
  rw [List.getElem?_map] at h1
  obtain ⟨r, h3, rfl⟩ := Option.map_eq_some_iff.1 h1
  obtain ⟨f, h4, h5⟩ := flatV_inv (hm j r h3).2 h2
  rcases h.2.2.2 with rfl | ⟨b', o', e, _, hc⟩
  · simp at h3
  · cases e
    obtain ⟨v, h6, h7⟩ := hc j r h3 i f h4
    rw [Addr.add_lit, ← Nat.add_assoc, h6, (h7.val h5).1]
theorem flat_recs (h : RRow w a len cap m rs) (hm : ∀ (j : Nat) r, rs[j]? = some r → r.length = m ∧ FlatR r) (w' : World) (S : Nat → Prop) : VRecs w' S m rs (rs.map flatV) (fun _ _ => 0) := by
  refine ⟨by simp, flat_all fun j r hj => (hm j r hj).1, fun j r hj => (hm j r hj).1, fun j r vs hj hv i f hi => ?_, fun j r i zs j' r' i' zs' hj hi => ?_⟩
  · rw [List.getElem?_map, hj] at hv
    cases hv
    obtain ⟨u, h1, h2⟩ := flatV_at (hm j r hj).2 hi
    rcases h.2.2.2 with rfl | ⟨b', o', e, _, hc⟩
    · simp at hj
    · obtain ⟨v, h6, h7⟩ := hc j r hj i f hi
      obtain ⟨rfl, h8⟩ := h7.val h1
      exact ⟨v, h2, h8.any h1⟩
  · obtain ⟨v, hv⟩ := (hm j r hj).2 i _ hi
    cases hv
end
theorem wp_copy {o : Oper} {a : Act} {w : World} {K : Act → World → Prop} {Q : Exit → Act → World → Prop} (s x : Operand) (t T : TypeId) (ho : o.op = .call { callee := .builtin .append, args := #[s, x], argTypes := #[t, t] }) (i : TypeInfo) (z : Value) (m bytes : Nat) (ht : Tryz.prog.underlying t = some (.slice T)) (hi : Tryz.prog.info? T = some i) (hz : i.zero = some z)
    (hsize : i.size = m) (hby : i.bytes = bytes) (hzs : z.cells.size = m) (hsz : 0 < m) (hT : ¬ T = 9) (base : Nat) (v0 : Value) (hs : a.eval s = v0) (hown : w.ownsRow base T m v0 0 []) (hbw : base ≤ w.heap.size) {ad : Addr} {len cap : Nat} {rs : List (List Fv)} (hx : a.eval x = .slice (some ad) len cap) (hr : RRow w (some ad) len cap m rs) (hm : ∀ (j : Nat) r, rs[j]? = some r → r.length = m ∧ FlatR r) (hl : len ≤ 8) (hb8 : bytes ≤ 1000)
    (h : ∀ a' c' w', ROwn w' a' len c' m T rs (fun k => base ≤ k ∧ k < w'.heap.size) → w.grownBy w' v0.ownBlock → K (a.put o.dst (.slice a' len c')) w') : o.wp Tryz.prog a w K Q := by
  have hlen : ((rs.map flatV).flatten).length = len * m := by rw [flat_len (flat_all fun j r hj => (hm j r hj).1), List.length_map, hr.1]
  have hne : rs = [] ∨ ∃ b o, ad = (⟨b, o, none⟩ : Addr) := by
    rcases hr.2.2.2 with h1 | ⟨b, o, e, _⟩
    · exact .inl h1
    · cases e; exact .inr ⟨b, o, rfl⟩
  have hnews : ∀ (j : Nat) u, ((rs.map flatV).flatten)[j]? = some u → w.cell? (ad.add j) = some u := by
    rcases hne with rfl | ⟨b, o, rfl⟩
    · intro j u hu; simp at hu
    · exact flat_news hr hm
  refine wp_append_own w s x t ho base T i z m bytes ht hi hz hsize hby hzs hsz v0 0 [] hs hown ad len cap (rs.map flatV).flatten hx hlen hnews (flat_recs hr hm w (fun _ => True)).one (by unfold maxLen; omega) (by have : (0 + len) * bytes ≤ 8 * 1000 := Nat.mul_le_mul (by omega) hb8; omega) hbw ?_
  intro v' w' ho' hg' _
  rw [Nat.zero_add, List.nil_append] at ho'
  obtain ⟨a', c', rfl, hR⟩ := (flat_recs hr hm w' (fun k => base ≤ k ∧ k < w'.heap.size)).own ho' hr.1.symm hT (fun g hg => ho'.lt g hg)
  rw [hr.1] at hR ⊢
  exact h a' c' w' hR hg'
theorem kd_flat (x : Kd) : (kdF x).length = 4 ∧ FlatR (kdF x) := ⟨rfl, fun i f h => by
  rcases i with _ | _ | _ | _ | i <;> first | (cases h; exact ⟨_, rfl⟩) | (simp [kdF] at h)⟩
theorem xd_flat (x : Xd) : (xdF x).length = 5 ∧ FlatR (xdF x) := ⟨rfl, fun i f h => by
  rcases i with _ | _ | _ | _ | _ | i <;> first | (cases h; exact ⟨_, rfl⟩) | (simp [xdF] at h)⟩
theorem map_flat {α : Type} {F : α → List Fv} {m : Nat} (hF : ∀ x, (F x).length = m ∧ FlatR (F x)) (xs : List α) : ∀ (j : Nat) r, (xs.map F)[j]? = some r → r.length = m ∧ FlatR r := by
  intro j r hj
  rw [List.getElem?_map] at hj
  obtain ⟨x, _, rfl⟩ := Option.map_eq_some_iff.1 hj
  exact hF x
def OwnF (B : Nat) (len m : Nat) (T : TypeId) (rs : List (List Fv)) : Gi.Fact := fun v w l h => ∃ a c, v = .slice a len c ∧ ROwn w a len c m T rs (fun k => l ≤ k ∧ k < h) ∧ B ≤ l
theorem OwnF.mono (ex : Gi.Ex) (s : Option Tmp) (B len m : Nat) (T : TypeId) (rs : List (List Fv)) : Gi.Fact.Mono (fun _ => Gi.Bel) ex s (OwnF B len m T rs) := by
  rintro s' _ _ _ v w w' l h ⟨a, c, h1, h2, h3⟩ hb
  exact ⟨a, c, h1, h2.below hb, h3⟩
def ClF (B : Nat) (c : Cl) : Gi.Fact := fun v w _ _ => ∃ d : Ad, v = .agg #[.slice d.a1 d.l1 d.c1, .slice d.a2 d.l2 d.c2, .slice d.a3 d.l3 d.c3, .slice d.a4 d.l4 d.c4, .slice d.a5 d.l5 d.c5, .int .i64 c.now] ∧ ClOwn w d c.raw (fun k => B ≤ k)
theorem ClF.mono (ex : Gi.Ex) (s : Option Tmp) (B : Nat) (c : Cl) : Gi.Fact.Mono (fun _ => Gi.Bel) ex s (ClF B c) := by
  rintro s' _ _ _ v w w' l h ⟨d, h1, h2⟩ hb
  exact ⟨d, h1, h2.below hb⟩

set_option maxRecDepth 100000 in
set_option maxHeartbeats 6400000 in
theorem iownC_any (d : Ad) (c : Cl) (w : World) (hr : ClRow w d c.raw) (hs : Sm c) :
    Calls Tryz.prog 33 #[.agg #[.slice d.a1 d.l1 d.c1, .slice d.a2 d.l2 d.c2, .slice d.a3 d.l3 d.c3, .slice d.a4 d.l4 d.c4, .slice d.a5 d.l5 d.c5, .int .i64 c.now]] w fun e w' => ∃ d', e = .returned (.agg #[.slice d'.a1 d'.l1 d'.c1, .slice d'.a2 d'.l2 d'.c2, .slice d'.a3 d'.l3 d'.c3, .slice d'.a4 d'.l4 d'.c4, .slice d'.a5 d'.l5 d'.c5, .int .i64 c.now]) ∧ ClOwn w' d' c.raw (fun k => w.heap.size ≤ k) ∧ Below w.heap.size w w' := by
  have HR := hidK hr
  have HS := hidK hs
  have hl1 : c.ns.length = d.l1 := by simpa using (show (c.ns.map ndF).length = d.l1 from hr.n.1)
  have hl2 : c.ks.length = d.l2 := by simpa using (show (c.ks.map kdF).length = d.l2 from hr.k.1)
  have hl3 : c.vs.length = d.l3 := by simpa using (show (c.vs.map vdF).length = d.l3 from hr.v.1)
  have hl4 : c.xs.length = d.l4 := by simpa using (show (c.xs.map xdF).length = d.l4 from hr.x.1)
  have hl5 : c.ps.length = d.l5 := by simpa using (show (c.ps.map pdF).length = d.l5 from hr.p.1)
  clear hr hs
  obtain ⟨i2, hi2⟩ := Option.map_eq_some_iff.1 infokd
  obtain ⟨i4, hi4⟩ := Option.map_eq_some_iff.1 infoxd
  have HI2 := hidK hi2
  have HI4 := hidK hi4
  clear hi2 hi4
  obtain ⟨W, hW0⟩ : ∃ W, W = (w.alloc (.cells #[.slice d.a1 d.l1 d.c1, .slice d.a2 d.l2 d.c2, .slice d.a3 d.l3 d.c3, .slice d.a4 d.l4 d.c4, .slice d.a5 d.l5 d.c5, .int .i64 c.now] 36)).alloc (.cells #[.slice none 0 0, .slice none 0 0, .slice none 0 0, .slice none 0 0, .slice none 0 0, .int .i64 0] 36) := ⟨_, rfl⟩
  have HB : Hid (Below w.heap.size w W) := by rw [hW0]; exact below2 _ _ _
  have Bk : Hid (W.heap[w.heap.size]? = some (.cells #[.slice d.a1 d.l1 d.c1, .slice d.a2 d.l2 d.c2, .slice d.a3 d.l3 d.c3, .slice d.a4 d.l4 d.c4, .slice d.a5 d.l5 d.c5, .int .i64 c.now] 36 (0, 0))) := by rw [hW0]; exact heap2_0 _ _ _
  have Br : Hid (W.heap[w.heap.size + 1]? = some (.cells #[.slice none 0 0, .slice none 0 0, .slice none 0 0, .slice none 0 0, .slice none 0 0, .int .i64 0] 36 (0, 0))) := by rw [hW0]; exact heap2_1 _ _ _
  have hWs : W.heap.size = w.heap.size + 1 + 1 := by rw [hW0]; simp
  go_enter Tryz.func33, Tryz.ntmps33
  go_wp2_with fail
  rw [← hW0]
  clear hW0
  rename_i K0 hK0
  refine Gi.wp_region_grow_last (ex := fun _ => none) (Gi.Bel.rel 0) (by kernel_rfl) rfl rfl (by kernel_rfl) (by kernel_rfl) ?_
  refine' Gi.Grow.stepC _ rfl ?_ ?_
  rotate_left 1
  · refine Gi.Obl.plain rfl ?_
    intro ac wg K lo hi hsz hW hpr hf hap hK; clear hsz hap hpr
    have e1 := hf 1 (by decide)
    simp [Gi.slotFact, List.lookup] at e1
    clear hf
    go_simp
    refine hK _ _ (Below.refl _ _) ?_
    with_reducible rfl
  refine' Gi.Grow.stepC _ rfl ?_ ?_
  rotate_left 1
  · refine Gi.Obl.plain rfl ?_
    intro ac wg K lo hi hsz hW hpr hf hap hK; clear hsz hap hpr
    have e3 := hf 3 (by decide)
    simp [Gi.slotFact, List.lookup] at e3
    clear hf
    obtain ⟨k0, k1, k2, k3, k4, k5⟩ := cs6 ((Below.block hW _ (lt_of_some Bk.out)).trans Bk.out)
    go_simp
    refine hK _ _ (Below.refl _ _) ?_
    with_reducible rfl
  refine Gi.Grow.step (OwnF W.heap.size d.l1 7 82 (c.ns.map ndF)) rfl (OwnF.mono _ _ _ _ _ _ _) ?_ ?_
  · refine Gi.Obl.plain rfl ?_
    intro ac wg K lo hi hsz hW hpr hf hap hK; clear hsz hpr hap
    have e4 := hf 4 (by decide)
    simp [Gi.slotFact, List.lookup] at e4
    clear hf
    go_simp
    refine (iownednd_any d.a1 d.l1 d.c1 c.ns _ (HR.out.n.below (HB.out.trans (Below.mono hW HB.out.size))) (by have := HS.out.n; omega) HS.out.ns).mono ?_
    rintro e w6 ⟨a', c', rfl, ho, hb6⟩
    exact hK _ _ hb6 ⟨a', c', rfl, ho.into (fun k hk s => ⟨s, hk⟩), Below.size hW⟩
  refine' Gi.Grow.stepC _ rfl ?_ ?_
  rotate_left 1
  · refine Gi.Obl.plain rfl ?_
    intro ac wg K lo hi hsz hW hpr hf hap hK; clear hsz hap hpr
    have e1 := hf 1 (by decide)
    simp [Gi.slotFact, List.lookup] at e1
    clear hf
    go_simp
    refine hK _ _ (Below.refl _ _) ?_
    with_reducible rfl
  refine' Gi.Grow.stepC _ rfl ?_ ?_
  rotate_left 1
  · refine Gi.Obl.plain rfl ?_
    intro ac wg K lo hi hsz hW hpr hf hap hK; clear hsz hap hpr
    have e6 := hf 6 (by decide)
    simp [Gi.slotFact, List.lookup] at e6
    clear hf
    obtain ⟨k0, k1, k2, k3, k4, k5⟩ := cs6 ((Below.block hW _ (lt_of_some Bk.out)).trans Bk.out)
    go_simp
    refine hK _ _ (Below.refl _ _) ?_
    with_reducible rfl
  refine Gi.Grow.step (OwnF W.heap.size d.l2 4 109 (c.ks.map kdF)) rfl (OwnF.mono _ _ _ _ _ _ _) ?_ ?_
  · refine Gi.Obl.plain rfl ?_
    intro ac wg K lo hi hsz hW hpr hf hap hK; clear hsz hpr hap
    have e7 := hf 7 (by decide)
    simp [Gi.slotFact, List.lookup] at e7
    clear hf
    cases hq : d.a2 with
    | none =>
      have h0 : c.ks = [] := by
        rcases HR.out.k.2.2.2 with h | ⟨b, o, e, _⟩
        · have h9 : c.ks.map kdF = [] := h
          simpa using h9
        · rw [hq] at e; cases e
      have hl0 : d.l2 = 0 := by rw [← hl2, h0]; rfl
      rw [hq, hl0] at e7
      go_simp
      refine hK _ _ (Below.refl _ _) ⟨none, 0, by rw [hl0], ?_, Below.size hW⟩
      rw [hl0, h0]
      exact ROwn.nil _ _ _ _ _ (by omega)
    | some ad =>
      rw [hq] at e7
      have hin := HR.out.k.below (HB.out.trans (Below.mono hW HB.out.size))
      have hin2 : RRow wg d.a2 d.l2 d.c2 4 (c.ks.map kdF) := hin
      rw [hq] at hin2
      have hz : i2.zero = some (.agg #[.string ⟨#[]⟩, .bool false, .bool false, .string ⟨#[]⟩]) ∧ i2.size = 4 ∧ i2.bytes = 40 := by have := HI2.out.2; simp only [Prod.mk.injEq] at this; exact this
      refine wp_copy _ (.tmp 7) 31 109 rfl i2 (.agg #[.string ⟨#[]⟩, .bool false, .bool false, .string ⟨#[]⟩]) 4 40 Tryz.underlying31 HI2.out.1 hz.1 hz.2.1 hz.2.2 rfl (by decide) (by decide) wg.heap.size (.slice none 0 0) rfl (World.ownsRow_nil _ _ _ _) (Nat.le_refl _) (by simpa [Act.eval] using e7) hin2 (map_flat kd_flat _) (by have := HS.out.k; omega) (by decide) ?_
      intro a' c' w' hR hg
      exact hK _ _ ((Below.refl _ _).grown hg (Nat.le_refl _) (fun k hk => by cases hk)) ⟨a', c', rfl, hR, Below.size hW⟩
  refine' Gi.Grow.stepC _ rfl ?_ ?_
  rotate_left 1
  · refine Gi.Obl.plain rfl ?_
    intro ac wg K lo hi hsz hW hpr hf hap hK; clear hsz hap hpr
    have e1 := hf 1 (by decide)
    simp [Gi.slotFact, List.lookup] at e1
    clear hf
    go_simp
    refine hK _ _ (Below.refl _ _) ?_
    with_reducible rfl
  refine' Gi.Grow.stepC _ rfl ?_ ?_
  rotate_left 1
  · refine Gi.Obl.plain rfl ?_
    intro ac wg K lo hi hsz hW hpr hf hap hK; clear hsz hap hpr
    have e9 := hf 9 (by decide)
    simp [Gi.slotFact, List.lookup] at e9
    clear hf
    obtain ⟨k0, k1, k2, k3, k4, k5⟩ := cs6 ((Below.block hW _ (lt_of_some Bk.out)).trans Bk.out)
    go_simp
    refine hK _ _ (Below.refl _ _) ?_
    with_reducible rfl
  refine Gi.Grow.step (OwnF W.heap.size d.l3 8 106 (c.vs.map vdF)) rfl (OwnF.mono _ _ _ _ _ _ _) ?_ ?_
  · refine Gi.Obl.plain rfl ?_
    intro ac wg K lo hi hsz hW hpr hf hap hK; clear hsz hpr hap
    have e10 := hf 10 (by decide)
    simp [Gi.slotFact, List.lookup] at e10
    clear hf
    go_simp
    refine (iownedvd_any d.a3 d.l3 d.c3 c.vs _ (HR.out.v.below (HB.out.trans (Below.mono hW HB.out.size))) (by have := HS.out.v; omega) HS.out.vs).mono ?_
    rintro e w6 ⟨a', c', rfl, ho, hb6⟩
    exact hK _ _ hb6 ⟨a', c', rfl, ho.into (fun k hk s => ⟨s, hk⟩), Below.size hW⟩
  refine' Gi.Grow.stepC _ rfl ?_ ?_
  rotate_left 1
  · refine Gi.Obl.plain rfl ?_
    intro ac wg K lo hi hsz hW hpr hf hap hK; clear hsz hap hpr
    have e1 := hf 1 (by decide)
    simp [Gi.slotFact, List.lookup] at e1
    clear hf
    go_simp
    refine hK _ _ (Below.refl _ _) ?_
    with_reducible rfl
  refine' Gi.Grow.stepC _ rfl ?_ ?_
  rotate_left 1
  · refine Gi.Obl.plain rfl ?_
    intro ac wg K lo hi hsz hW hpr hf hap hK; clear hsz hap hpr
    have e12 := hf 12 (by decide)
    simp [Gi.slotFact, List.lookup] at e12
    clear hf
    obtain ⟨k0, k1, k2, k3, k4, k5⟩ := cs6 ((Below.block hW _ (lt_of_some Bk.out)).trans Bk.out)
    go_simp
    refine hK _ _ (Below.refl _ _) ?_
    with_reducible rfl
  refine Gi.Grow.step (OwnF W.heap.size d.l4 5 112 (c.xs.map xdF)) rfl (OwnF.mono _ _ _ _ _ _ _) ?_ ?_
  · refine Gi.Obl.plain rfl ?_
    intro ac wg K lo hi hsz hW hpr hf hap hK; clear hsz hpr hap
    have e13 := hf 13 (by decide)
    simp [Gi.slotFact, List.lookup] at e13
    clear hf
    cases hq : d.a4 with
    | none =>
      have h0 : c.xs = [] := by
        rcases HR.out.x.2.2.2 with h | ⟨b, o, e, _⟩
        · have h9 : c.xs.map xdF = [] := h
          simpa using h9
        · rw [hq] at e; cases e
      have hl0 : d.l4 = 0 := by rw [← hl4, h0]; rfl
      rw [hq, hl0] at e13
      go_simp
      refine hK _ _ (Below.refl _ _) ⟨none, 0, by rw [hl0], ?_, Below.size hW⟩
      rw [hl0, h0]
      exact ROwn.nil _ _ _ _ _ (by omega)
    | some ad =>
      rw [hq] at e13
      have hin := HR.out.x.below (HB.out.trans (Below.mono hW HB.out.size))
      have hin2 : RRow wg d.a4 d.l4 d.c4 5 (c.xs.map xdF) := hin
      rw [hq] at hin2
      have hz : i4.zero = some (.agg #[.string ⟨#[]⟩, .int .i64 0, .string ⟨#[]⟩, .bool false, .string ⟨#[]⟩]) ∧ i4.size = 5 ∧ i4.bytes = 64 := by have := HI4.out.2; simp only [Prod.mk.injEq] at this; exact this
      refine wp_copy _ (.tmp 13) 33 112 rfl i4 (.agg #[.string ⟨#[]⟩, .int .i64 0, .string ⟨#[]⟩, .bool false, .string ⟨#[]⟩]) 5 64 Tryz.underlying33 HI4.out.1 hz.1 hz.2.1 hz.2.2 rfl (by decide) (by decide) wg.heap.size (.slice none 0 0) rfl (World.ownsRow_nil _ _ _ _) (Nat.le_refl _) (by simpa [Act.eval] using e13) hin2 (map_flat xd_flat _) (by have := HS.out.x; omega) (by decide) ?_
      intro a' c' w' hR hg
      exact hK _ _ ((Below.refl _ _).grown hg (Nat.le_refl _) (fun k hk => by cases hk)) ⟨a', c', rfl, hR, Below.size hW⟩
  refine' Gi.Grow.stepC _ rfl ?_ ?_
  rotate_left 1
  · refine Gi.Obl.plain rfl ?_
    intro ac wg K lo hi hsz hW hpr hf hap hK; clear hsz hap hpr
    have e1 := hf 1 (by decide)
    simp [Gi.slotFact, List.lookup] at e1
    clear hf
    go_simp
    refine hK _ _ (Below.refl _ _) ?_
    with_reducible rfl
  refine' Gi.Grow.stepC _ rfl ?_ ?_
  rotate_left 1
  · refine Gi.Obl.plain rfl ?_
    intro ac wg K lo hi hsz hW hpr hf hap hK; clear hsz hap hpr
    have e15 := hf 15 (by decide)
    simp [Gi.slotFact, List.lookup] at e15
    clear hf
    obtain ⟨k0, k1, k2, k3, k4, k5⟩ := cs6 ((Below.block hW _ (lt_of_some Bk.out)).trans Bk.out)
    go_simp
    refine hK _ _ (Below.refl _ _) ?_
    with_reducible rfl
  refine Gi.Grow.step (OwnF W.heap.size d.l5 6 69 (c.ps.map pdF)) rfl (OwnF.mono _ _ _ _ _ _ _) ?_ ?_
  · refine Gi.Obl.plain rfl ?_
    intro ac wg K lo hi hsz hW hpr hf hap hK; clear hsz hpr hap
    have e16 := hf 16 (by decide)
    simp [Gi.slotFact, List.lookup] at e16
    clear hf
    go_simp
    refine (iownedpd_any d.a5 d.l5 d.c5 c.ps _ (HR.out.p.below (HB.out.trans (Below.mono hW HB.out.size))) (by have := HS.out.p; omega) HS.out.ps).mono ?_
    rintro e w6 ⟨a', c', rfl, ho, hb6⟩
    exact hK _ _ hb6 ⟨a', c', rfl, ho.into (fun k hk s => ⟨s, hk⟩), Below.size hW⟩
  refine' Gi.Grow.stepC _ rfl ?_ ?_
  rotate_left 1
  · refine Gi.Obl.plain rfl ?_
    intro ac wg K lo hi hsz hW hpr hf hap hK; clear hsz hap hpr
    have e1 := hf 1 (by decide)
    simp [Gi.slotFact, List.lookup] at e1
    clear hf
    go_simp
    refine hK _ _ (Below.refl _ _) ?_
    with_reducible rfl
  refine' Gi.Grow.stepC _ rfl ?_ ?_
  rotate_left 1
  · refine Gi.Obl.plain rfl ?_
    intro ac wg K lo hi hsz hW hpr hf hap hK; clear hsz hap hpr
    have e18 := hf 18 (by decide)
    simp [Gi.slotFact, List.lookup] at e18
    clear hf
    obtain ⟨k0, k1, k2, k3, k4, k5⟩ := cs6 ((Below.block hW _ (lt_of_some Bk.out)).trans Bk.out)
    go_simp
    refine hK _ _ (Below.refl _ _) ?_
    with_reducible rfl
  refine Gi.Grow.step (ClF W.heap.size c) rfl (ClF.mono _ _ _ _) ?_ ?_
  · refine Gi.Obl.plain rfl ?_
    intro ac wg K lo hi hsz hW hpr hf hap hK; clear hsz hpr
    have e5 := hf 5 (by decide)
    simp [Gi.slotFact, List.lookup] at e5
    have e8 := hf 8 (by decide)
    simp [Gi.slotFact, List.lookup] at e8
    have e11 := hf 11 (by decide)
    simp [Gi.slotFact, List.lookup] at e11
    have e14 := hf 14 (by decide)
    simp [Gi.slotFact, List.lookup] at e14
    have e17 := hf 17 (by decide)
    simp [Gi.slotFact, List.lookup] at e17
    have e19 := hf 19 (by decide)
    simp [Gi.slotFact, List.lookup] at e19
    clear hf
    obtain ⟨a1, c1, e5, ho1, hB1⟩ := e5
    obtain ⟨a2, c2, e8, ho2, hB2⟩ := e8
    obtain ⟨a3, c3, e11, ho3, hB3⟩ := e11
    obtain ⟨a4, c4, e14, ho4, hB4⟩ := e14
    obtain ⟨a5, c5, e17, ho5, hB5⟩ := e17
    have hap2 : ∀ t ∈ [5, 8, 11, 14, 17], ∀ t' ∈ [5, 8, 11, 14, 17], ¬ t = t' → hi t ≤ lo t' ∨ hi t' ≤ lo t := by
      intro t ht t' ht' hne
      refine hap t ?_ t' ?_ ?_ ?_ hne
      · simp only [List.mem_cons, List.not_mem_nil, or_false] at ht; rcases ht with rfl | rfl | rfl | rfl | rfl <;> decide
      · simp only [List.mem_cons, List.not_mem_nil, or_false] at ht'; rcases ht' with rfl | rfl | rfl | rfl | rfl <;> decide
      · simp only [List.mem_cons, List.not_mem_nil, or_false] at ht; rcases ht with rfl | rfl | rfl | rfl | rfl <;> rfl
      · simp only [List.mem_cons, List.not_mem_nil, or_false] at ht'; rcases ht' with rfl | rfl | rfl | rfl | rfl <;> rfl
    clear hap
    have q01 := hap2 5 (by decide) 8 (by decide) (by decide)
    have q02 := hap2 5 (by decide) 11 (by decide) (by decide)
    have q03 := hap2 5 (by decide) 14 (by decide) (by decide)
    have q04 := hap2 5 (by decide) 17 (by decide) (by decide)
    have q12 := hap2 8 (by decide) 11 (by decide) (by decide)
    have q13 := hap2 8 (by decide) 14 (by decide) (by decide)
    have q14 := hap2 8 (by decide) 17 (by decide) (by decide)
    have q23 := hap2 11 (by decide) 14 (by decide) (by decide)
    have q24 := hap2 11 (by decide) 17 (by decide) (by decide)
    have q34 := hap2 14 (by decide) 17 (by decide) (by decide)
    clear hap2
    have hC : ClOwn wg ⟨a1, d.l1, c1, a2, d.l2, c2, a3, d.l3, c3, a4, d.l4, c4, a5, d.l5, c5⟩ c.raw (fun k => W.heap.size ≤ k) := by
      refine ⟨fun k => if lo 5 ≤ k ∧ k < hi 5 then 1 else if lo 8 ≤ k ∧ k < hi 8 then 2 else if lo 11 ≤ k ∧ k < hi 11 then 3 else if lo 14 ≤ k ∧ k < hi 14 then 4 else 5, ?_, ?_, ?_, ?_, ?_⟩
      · exact ho1.into (fun k _ s => ⟨by have s1 : lo 5 ≤ k := s.1; show W.heap.size ≤ k; omega, by have s1 : lo 5 ≤ k := s.1; have s2 : k < hi 5 := s.2; show (if lo 5 ≤ k ∧ k < hi 5 then 1 else if lo 8 ≤ k ∧ k < hi 8 then 2 else if lo 11 ≤ k ∧ k < hi 11 then 3 else if lo 14 ≤ k ∧ k < hi 14 then 4 else 5) = 1; rw [if_pos ⟨s1, s2⟩]⟩)
      · exact ho2.into (fun k _ s => ⟨by have s1 : lo 8 ≤ k := s.1; show W.heap.size ≤ k; omega, by have s1 : lo 8 ≤ k := s.1; have s2 : k < hi 8 := s.2; show (if lo 5 ≤ k ∧ k < hi 5 then 1 else if lo 8 ≤ k ∧ k < hi 8 then 2 else if lo 11 ≤ k ∧ k < hi 11 then 3 else if lo 14 ≤ k ∧ k < hi 14 then 4 else 5) = 2; rw [if_neg (by omega)]; rw [if_pos ⟨s1, s2⟩]⟩)
      · exact ho3.into (fun k _ s => ⟨by have s1 : lo 11 ≤ k := s.1; show W.heap.size ≤ k; omega, by have s1 : lo 11 ≤ k := s.1; have s2 : k < hi 11 := s.2; show (if lo 5 ≤ k ∧ k < hi 5 then 1 else if lo 8 ≤ k ∧ k < hi 8 then 2 else if lo 11 ≤ k ∧ k < hi 11 then 3 else if lo 14 ≤ k ∧ k < hi 14 then 4 else 5) = 3; rw [if_neg (by omega)]; rw [if_neg (by omega)]; rw [if_pos ⟨s1, s2⟩]⟩)
      · exact ho4.into (fun k _ s => ⟨by have s1 : lo 14 ≤ k := s.1; show W.heap.size ≤ k; omega, by have s1 : lo 14 ≤ k := s.1; have s2 : k < hi 14 := s.2; show (if lo 5 ≤ k ∧ k < hi 5 then 1 else if lo 8 ≤ k ∧ k < hi 8 then 2 else if lo 11 ≤ k ∧ k < hi 11 then 3 else if lo 14 ≤ k ∧ k < hi 14 then 4 else 5) = 4; rw [if_neg (by omega)]; rw [if_neg (by omega)]; rw [if_neg (by omega)]; rw [if_pos ⟨s1, s2⟩]⟩)
      · exact ho5.into (fun k _ s => ⟨by have s1 : lo 17 ≤ k := s.1; show W.heap.size ≤ k; omega, by have s1 : lo 17 ≤ k := s.1; have s2 : k < hi 17 := s.2; show (if lo 5 ≤ k ∧ k < hi 5 then 1 else if lo 8 ≤ k ∧ k < hi 8 then 2 else if lo 11 ≤ k ∧ k < hi 11 then 3 else if lo 14 ≤ k ∧ k < hi 14 then 4 else 5) = 5; rw [if_neg (by omega)]; rw [if_neg (by omega)]; rw [if_neg (by omega)]; rw [if_neg (by omega)]⟩)
    have HC := hidK hC
    clear hC ho1 ho2 ho3 ho4 ho5 q01 q02 q03 q04 q12 q13 q14 q23 q24 q34 hB1 hB2 hB3 hB4 hB5
    go_simp
    exact hK _ _ (Below.refl _ _) ⟨_, rfl, HC.out⟩
  refine Gi.Grow.done ?_
  intro q wz lo hi hW hf hap
  clear hap
  simp only [List.forall_mem_cons] at hf
  obtain ⟨hf20, -⟩ := hf
  obtain ⟨d', h20, ho⟩ := hf20 (by first | trivial | rfl)
  have HO := hidK ho
  have HBz := hidK (HB.out.trans (Below.mono hW HB.out.size))
  have gr := (Below.block hW _ (lt_of_some Br.out)).trans Br.out
  have hws := Below.size hW
  obtain ⟨r0, r1, r2, r3, r4, r5⟩ := cs6 gr
  have f0 := froK gr 0
  have f1 := froK gr 1
  have f2 := froK gr 2
  have f3 := froK gr 3
  have f4 := froK gr 4
  have f5 := froK gr 5
  clear gr ho hW
  intro K hK
  rw [if_pos (by rfl)]
  simp only [Gi.putsAll, List.foldr, Act.put, List.setIfInBounds_toArray, List.set_cons_zero, List.set_cons_succ, h20]
  simp only [List.getLast]
  go_simp
  refine hK _ _ ?_
  refine hK0 _ _ ?_
  clear hK hK0 K K0
  go_wp2_with fail
  refine bodyPost_ret (v := .agg #[.slice d'.a1 d'.l1 d'.c1, .slice d'.a2 d'.l2 d'.c2, .slice d'.a3 d'.l3 d'.c3, .slice d'.a4 d'.l4 d'.c4, .slice d'.a5 d'.l5 d'.c5, .int .i64 c.now]) (by simp [results, Tryz.results33, go_sem, *]) rfl ⟨d', rfl, ?_, set_below (show w.heap.size ≤ w.heap.size + 1 by omega) (set_below (show w.heap.size ≤ w.heap.size + 1 by omega) (set_below (show w.heap.size ≤ w.heap.size + 1 by omega) (set_below (show w.heap.size ≤ w.heap.size + 1 by omega) (set_below (show w.heap.size ≤ w.heap.size + 1 by omega) (set_below (show w.heap.size ≤ w.heap.size + 1 by omega) (HBz.out))))))⟩
  obtain ⟨P, hP⟩ := HO.out
  exact ⟨P, hP.keep (fun k _ s => by have s1 : W.heap.size ≤ k := s; rw [Below.heap_setCell _ _ _ _ (show k ≠ w.heap.size + 1 by omega), Below.heap_setCell _ _ _ _ (show k ≠ w.heap.size + 1 by omega), Below.heap_setCell _ _ _ _ (show k ≠ w.heap.size + 1 by omega), Below.heap_setCell _ _ _ _ (show k ≠ w.heap.size + 1 by omega), Below.heap_setCell _ _ _ _ (show k ≠ w.heap.size + 1 by omega), Below.heap_setCell _ _ _ _ (show k ≠ w.heap.size + 1 by omega)]) (fun k _ s => by have s1 : W.heap.size ≤ k := s; show w.heap.size ≤ k; omega)⟩

structure Co where
  c : Cl
  n : ByteArray
  p : Int
def cl0 : Cl := ⟨[], [], [], [], [], 0⟩
def co0 (p : Int) : Co := ⟨cl0, ⟨#[]⟩, p⟩
def ad0 : Ad := ⟨none, 0, 0, none, 0, 0, none, 0, 0, none, 0, 0, none, 0, 0⟩
theorem own0 (w : World) (S : Nat → Prop) : ClOwn w ad0 cl0.raw S := ⟨fun _ => 1, ROwn.nil _ _ _ _ _ (by decide), ROwn.nil _ _ _ _ _ (by decide), ROwn.nil _ _ _ _ _ (by decide), ROwn.nil _ _ _ _ _ (by decide), ROwn.nil _ _ _ _ _ (by decide)⟩
def OutI (Is : Co → Prop) (w : World) (e : Ending) (w' : World) : Prop := ∃ g o, e = .returned (.agg #[.slice g.a1 g.l1 g.c1, .slice g.a2 g.l2 g.c2, .slice g.a3 g.l3 g.c3, .slice g.a4 g.l4 g.c4, .slice g.a5 g.l5 g.c5, .int .i64 o.c.now, .string o.n, .int .i64 o.p]) ∧ Is o ∧ ClOwn w' g o.c.raw (fun k => w.heap.size ≤ k) ∧ Below w.heap.size w w'
def OutS (Is : Co → Prop) (w : World) (e : Ending) (w' : World) : Prop := ∃ g o, e = .returned (.agg #[.slice g.a1 g.l1 g.c1, .slice g.a2 g.l2 g.c2, .slice g.a3 g.l3 g.c3, .slice g.a4 g.l4 g.c4, .slice g.a5 g.l5 g.c5, .int .i64 o.c.now, .string o.n, .int .i64 o.p]) ∧ Is o ∧ ClRow w' g o.c.raw ∧ Below w.heap.size w w'

set_option maxRecDepth 100000 in
set_option maxHeartbeats 3200000 in
theorem eqCout_any (g g' : Ad) (o : Co) (w : World) (hr : ClRow w g o.c.raw) (hr' : ClRow w g' o.c.raw) :
    Calls Tryz.prog 9 #[.agg #[.slice g.a1 g.l1 g.c1, .slice g.a2 g.l2 g.c2, .slice g.a3 g.l3 g.c3, .slice g.a4 g.l4 g.c4, .slice g.a5 g.l5 g.c5, .int .i64 o.c.now, .string o.n, .int .i64 o.p], .agg #[.slice g'.a1 g'.l1 g'.c1, .slice g'.a2 g'.l2 g'.c2, .slice g'.a3 g'.l3 g'.c3, .slice g'.a4 g'.l4 g'.c4, .slice g'.a5 g'.l5 g'.c5, .int .i64 o.c.now, .string o.n, .int .i64 o.p]] w fun e w' => e = .returned (.bool true) ∧ Below w.heap.size w w' := by
  have HR := hidK hr
  have HR' := hidK hr'
  have HB := hidK (Below.refl w.heap.size w)
  clear hr hr'
  go_enter Tryz.func9, Tryz.ntmps9
  go_wp2_with fail
  refine (eqCluster_any g g' o.c _ (HR.out.below (HB.out.trans ((below2 _ _ _).mono HB.out.size))) (HR'.out.below (HB.out.trans ((below2 _ _ _).mono HB.out.size)))).mono ?_
  rintro e w1 ⟨rfl, hb⟩
  obtain ⟨HA0, HA1, hbx⟩ := slots2 hb
  have Ba := hidK HA0
  have Bb := hidK HA1
  replace HB := upB HB hbx
  clear hb hbx HA0 HA1
  obtain ⟨a0, a1, a2, a3, a4, a5, a6, a7⟩ := cs8 Ba.out
  have lta_1 := lt_of_some Ba.out
  obtain ⟨b0, b1, b2, b3, b4, b5, b6, b7⟩ := cs8 Bb.out
  have ltb_1 := lt_of_some Bb.out
  go_wp2
  go_ret
  exact ⟨rfl, HB.out⟩

set_option maxRecDepth 100000 in
set_option maxHeartbeats 3200000 in
theorem markCout_any (g : Ad) (o : Co) (N : Int) (S : Nat → Prop) (w : World) (ho : ClOwn w g o.c.raw S) (hS : ∀ k, S k → k < w.heap.size) (hN : 0 < N) (hb : mkCn N o.c.raw ≤ 1152921504606846976) :
    Calls Tryz.prog 12 #[.agg #[.slice g.a1 g.l1 g.c1, .slice g.a2 g.l2 g.c2, .slice g.a3 g.l3 g.c3, .slice g.a4 g.l4 g.c4, .slice g.a5 g.l5 g.c5, .int .i64 o.c.now, .string o.n, .int .i64 o.p], .int .i64 N] w fun e w' => e = .returned (.int .i64 (mkCn N o.c.raw)) ∧ ClOwn w' g (mkC N o.c.raw) S ∧ KeptS S w w' := by
  have HO := hidK (ho.below (below1 w (.cells #[.slice g.a1 g.l1 g.c1, .slice g.a2 g.l2 g.c2, .slice g.a3 g.l3 g.c3, .slice g.a4 g.l4 g.c4, .slice g.a5 g.l5 g.c5, .int .i64 o.c.now, .string o.n, .int .i64 o.p] 38)))
  have HS := hidK hS
  clear ho hS
  go_enter Tryz.func12, Tryz.ntmps12
  go_wp2_with fail
  refine (markCluster_any g o.c N S _ HO.out (fun k s => by have := HS.out k s; simp; omega) hN hb).mono ?_
  rintro e w1 ⟨rfl, ho, hk⟩
  have HO1 := hidK ho
  have HK := hidK ((KeptS.of_below (S := S) (below1 w (.cells #[.slice g.a1 g.l1 g.c1, .slice g.a2 g.l2 g.c2, .slice g.a3 g.l3 g.c3, .slice g.a4 g.l4 g.c4, .slice g.a5 g.l5 g.c5, .int .i64 o.c.now, .string o.n, .int .i64 o.p] 38))).trans hk)
  clear ho hk
  go_wp2
  go_ret
  exact ⟨rfl, HO1.out, HK.out⟩

set_option maxRecDepth 100000 in
set_option maxHeartbeats 3200000 in
theorem heldCout_any (g : Ad) (o : Co) (N : Int) (w : World) (hr : ClRow w g (mkC N o.c.raw)) (hN : 0 < N) (hb : mkCn N o.c.raw ≤ 1152921504606846976) :
    Calls Tryz.prog 13 #[.agg #[.slice g.a1 g.l1 g.c1, .slice g.a2 g.l2 g.c2, .slice g.a3 g.l3 g.c3, .slice g.a4 g.l4 g.c4, .slice g.a5 g.l5 g.c5, .int .i64 o.c.now, .string o.n, .int .i64 o.p], .int .i64 N] w fun e w' => e = .returned (.int .i64 (mkCn N o.c.raw)) ∧ Below w.heap.size w w' := by
  have HR := hidK (hr.below (below1 w (.cells #[.slice g.a1 g.l1 g.c1, .slice g.a2 g.l2 g.c2, .slice g.a3 g.l3 g.c3, .slice g.a4 g.l4 g.c4, .slice g.a5 g.l5 g.c5, .int .i64 o.c.now, .string o.n, .int .i64 o.p] 38)))
  clear hr
  obtain ⟨M, hM⟩ : ∃ M, M = mkCn N o.c.raw := ⟨_, rfl⟩
  have hM0 : ¬ M < 0 := by rw [hM]; have := mkCn_ge N o.c.raw; omega
  have HM := hidK hM
  clear hM
  go_enter Tryz.func13, Tryz.ntmps13
  go_wp2_with fail
  refine (heldCluster_any g o.c o.c.now N _ HR.out hN hb).mono ?_
  rintro e w1 ⟨rfl, hb1⟩
  rw [← HM.out]
  have HB := hidK (slots1 hb1).2
  clear hb1
  go_wp2
  go_ret
  exact ⟨by rw [← HM.out]; rfl, HB.out⟩

def wo {α : Type} (nm : α → ByteArray) (t : ByteArray) (xs : List α) : List α := xs.filter fun x => !((nm x).toList == t.toList)
theorem wo_yes {α : Type} {nm : α → ByteArray} {t : ByteArray} {xs : List α} {k : Nat} {x : α} (h : xs[k]? = some x) (hn : ((nm x).toList == t.toList) = false) : wo nm t (xs.take (k + 1)) = wo nm t (xs.take k) ++ [x] := by
  unfold wo
  rw [List.take_add_one, h, List.filter_append]
  simp [hn]
theorem wo_no {α : Type} {nm : α → ByteArray} {t : ByteArray} {xs : List α} {k : Nat} {x : α} (h : xs[k]? = some x) (hn : ((nm x).toList == t.toList) = true) : wo nm t (xs.take (k + 1)) = wo nm t (xs.take k) := by
  unfold wo
  rw [List.take_add_one, h, List.filter_append]
  simp [hn]
theorem wo_le {α : Type} (nm : α → ByteArray) (t : ByteArray) (xs : List α) : (wo nm t xs).length ≤ xs.length := List.length_filter_le _ _
structure Sel {α β : Type} (xs ys : List α) (vss ws : List β) (k : Nat) (f : Nat → Nat) : Prop where
  len : ws.length = ys.length
  y : ∀ j, j < ys.length → ys[j]? = xs[f j]?
  v : ∀ j, j < ys.length → ws[j]? = vss[f j]?
  lt : ∀ j, j < ys.length → f j < k
  inj : ∀ i j, i < ys.length → j < ys.length → f i = f j → i = j
theorem Sel.nil {α β : Type} (xs : List α) (vss : List β) (k : Nat) (f : Nat → Nat) : Sel xs [] vss [] k f := ⟨rfl, fun j h => by simp at h, fun j h => by simp at h, fun j h => by simp at h, fun i j h => by simp at h⟩
theorem Sel.up {α β : Type} {xs ys : List α} {vss ws : List β} {k : Nat} {f : Nat → Nat} (h : Sel xs ys vss ws k f) : Sel xs ys vss ws (k + 1) f := ⟨h.len, h.y, h.v, fun j hj => Nat.lt_succ_of_lt (h.lt j hj), h.inj⟩
theorem Sel.push {α β : Type} {xs ys : List α} {vss ws : List β} {k : Nat} {f : Nat → Nat} (h : Sel xs ys vss ws k f) {x : α} {u : β} (hx : xs[k]? = some x) (hu : vss[k]? = some u) : Sel xs (ys ++ [x]) vss (ws ++ [u]) (k + 1) (fun j => if j = ys.length then k else f j) := by
  have hl := h.len
  refine ⟨by simp [hl], fun j hj => ?_, fun j hj => ?_, fun j hj => ?_, fun i j hi hj e => ?_⟩
  · by_cases e : j = ys.length
    · subst e; simp [hx]
    · have hj' : j < ys.length := by simp at hj; omega
      rw [List.getElem?_append_left hj', if_neg e]
      exact h.y j hj'
  · by_cases e : j = ys.length
    · subst e
      rw [if_pos rfl, hu, List.getElem?_append_right (by omega), hl, Nat.sub_self]
      rfl
    · have hj' : j < ys.length := by simp at hj; omega
      rw [List.getElem?_append_left (by omega), if_neg e]
      exact h.v j hj'
  · by_cases e : j = ys.length
    · simp only [if_pos e]; omega
    · have hj' : j < ys.length := by simp at hj; omega
      simp only [if_neg e]
      have := h.lt j hj'
      omega
  · by_cases e1 : i = ys.length <;> by_cases e2 : j = ys.length
    · omega
    · have hj' : j < ys.length := by simp at hj; omega
      simp only [if_pos e1, if_neg e2] at e
      have := h.lt j hj'
      omega
    · have hi' : i < ys.length := by simp at hi; omega
      simp only [if_pos e2, if_neg e1] at e
      have := h.lt i hi'
      omega
    · simp only [if_neg e1, if_neg e2] at e
      exact h.inj i j (by simp at hi; omega) (by simp at hj; omega) e
theorem Sel.recs {w : World} {S : Nat → Prop} {m k : Nat} {α : Type} {F : α → List Fv} {xs ys : List α} {vss ws : List (List Value)} {H : Nat → Nat → Nat} {f : Nat → Nat} (h : Sel xs ys vss ws k f) (hv : VRecs w S m (xs.map F) vss H) : VRecs w S m (ys.map F) ws (fun j => H (f j)) :=
  hv.sel f (by rw [h.len, List.length_map]) (fun j hj => by rw [List.length_map] at hj; rw [List.getElem?_map, List.getElem?_map, h.y j hj]) (fun j hj => by rw [List.length_map] at hj; exact h.v j hj) (fun i j hi hj e => h.inj i j (by simpa using hi) (by simpa using hj) e)
theorem vals_eq6 {vs : List Value} {a0 a1 a2 a3 a4 a5 : Value} (hl : vs.length = 6) (h0 : vs[0]? = some a0) (h1 : vs[1]? = some a1) (h2 : vs[2]? = some a2) (h3 : vs[3]? = some a3) (h4 : vs[4]? = some a4) (h5 : vs[5]? = some a5) : vs = [a0, a1, a2, a3, a4, a5] := by
  apply List.ext_getElem?
  intro i
  rcases i with _ | _ | _ | _ | _ | _ | i
  · exact h0
  · exact h1
  · exact h2
  · exact h3
  · exact h4
  · exact h5
  · rw [List.getElem?_eq_none (by omega), List.getElem?_eq_none (by simp)]
theorem recs_at {w : World} {S : Nat → Prop} {m g : Nat} {rs : List (List Fv)} {vss : List (List Value)} {H : Nat → Nat → Nat} (hV : VRecs w S m rs vss H) (hc : ∀ (k : Nat) u, vss.flatten[k]? = some u → w.cell? ⟨g, k, none⟩ = some u) {k : Nat} {vs : List Value} (hk : vss[k]? = some vs) {i : Nat} {u : Value} (hi : i < m) (hu : w.cell? ⟨g, k * m + i, none⟩ = some u) : vs[i]? = some u := by
  have hl := hV.all k vs hk
  have h1 : vs[i]? = some (vs[i]'(by omega)) := List.getElem?_eq_getElem _
  have h2 := hc _ _ (flat_at hV.all hk h1)
  rw [hu] at h2
  rw [h1]
  exact h2.symm

set_option maxRecDepth 100000 in
set_option maxHeartbeats 3200000 in
theorem iwopd_any (a : Option Addr) (len cap : Nat) (xs : List Pd) (t : ByteArray) (Q : Nat → Prop) (w : World) (ho : ROwn w a len cap 6 69 (xs.map pdF) Q) (hl : len ≤ 8) :
    Calls Tryz.prog 34 #[.slice a len cap, .string t] w fun e w' => ∃ a' l' c', e = .returned (.slice a' l' c') ∧ ROwn w' a' l' c' 6 69 ((wo Pd.n t xs).map pdF) (fun k => Q k ∨ w.heap.size ≤ k) ∧ Below w.heap.size w w' := by
  have HR := hidK ho.row
  have hxl : xs.length = len := by simpa using ho.1
  obtain ⟨vss, H, hV, hcell⟩ := ho.recs
  have HV := hidK hV
  have HC := hidK hcell
  have hvl : vss.length = xs.length := by rw [hV.len, List.length_map]
  clear ho hV hcell
  obtain ⟨i0, hi, hz0, hz1, hz2⟩ := info_parts infopd
  have HI0 := hidK (And.intro hi (And.intro hz0 (And.intro hz1 hz2)))
  clear hi hz0 hz1 hz2
  have hmcalled : ∀ (v : Value) (w : World), (method 335 69 v "loop.example/g00571/impl.called").run Tryz.prog w = .ok (178, v) w := fun _ _ => by kernel_rfl
  go_enter Tryz.func34, Tryz.ntmps34
  go_wp2
  go_loopw [5, 10] (fun vo vi wr => ∃ (k : Nat) (ws : List (List Value)) (f : Nat → Nat), k ≤ len ∧ vi = .int .i64 k ∧ Hid (wr.ownsRow w.heap.size 69 6 vo (wo Pd.n t (xs.take k)).length ws.flatten) ∧ Hid (Sel xs (wo Pd.n t (xs.take k)) vss ws k f) ∧ Hid (Below w.heap.size w wr)) (fun _ vi _ => len - (intOf vi).toNat)
  case atStart => exact ⟨0, [], fun _ => 0, by omega, rfl, World.ownsRow_nil _ _ _ _, Sel.nil _ _ _ _, Below.refl _ _⟩
  case round =>
    obtain ⟨k, ws, f, hk, rfl, HO, HF, HB⟩ := hrel
    have hBs := HB.out.size
    by_cases hlt : k < len
    · obtain ⟨b, o, x, rfl, hb, hx, hat⟩ := pd_at HR.out hlt
      obtain ⟨va, vl, vc, hvr, z0, z2, z4, c0, c1, c2, c3, c4, c5⟩ := pd_cells hat
      have hvk : vss[k]? = some [.string x.n, .int .i64 x.c, .string x.z, .slice va vl vc, .string x.d, .int .i64 x.p] := by
        have hkv : k < vss.length := by omega
        have h1 := List.getElem?_eq_getElem hkv
        have hoz : o = 0 := by
          have h2 : 0 < (vss[k]).length := by rw [HV.out.all k _ h1]; decide
          obtain ⟨g, e, _, _⟩ := HC.out _ _ (flat_at HV.out.all h1 (List.getElem?_eq_getElem h2))
          cases e
          rfl
        subst hoz
        have hc2 : ∀ (j : Nat) u, vss.flatten[j]? = some u → w.cell? ⟨b, j, none⟩ = some u := fun j u hj => by
          obtain ⟨g, e, _, h3⟩ := HC.out j u hj
          cases e
          exact h3
        rw [h1]
        refine congrArg some (vals_eq6 (HV.out.all k _ h1) (recs_at HV.out hc2 h1 (by decide) (by simpa using c0)) (recs_at HV.out hc2 h1 (by decide) (by simpa using c1)) (recs_at HV.out hc2 h1 (by decide) (by simpa using c2)) (recs_at HV.out hc2 h1 (by decide) (by simpa using c3)) (recs_at HV.out hc2 h1 (by decide) (by simpa using c4)) (recs_at HV.out hc2 h1 (by decide) (by simpa using c5)))
      have HX := hidK hx
      have HVK := hidK hvk
      replace c0 := (cell_below HB.out hb).trans c0
      replace c1 := (cell_below HB.out hb).trans c1
      replace c2 := (cell_below HB.out hb).trans c2
      replace c3 := (cell_below HB.out hb).trans c3
      replace c4 := (cell_below HB.out hb).trans c4
      replace c5 := (cell_below HB.out hb).trans c5
      have hbr : b < wr.heap.size := Nat.lt_of_lt_of_le hb hBs
      clear hat hx hvk hvr z0 z2 z4
      have hn8 := wo_le Pd.n t (xs.take k)
      have hn9 : (wo Pd.n t (xs.take k)).length ≤ k := by rw [List.length_take] at hn8; omega
      go_wp2_with fail
      refine (calledpd_any x va vl vc _).mono ?_
      rintro e w1 ⟨rfl, hb1⟩
      obtain ⟨hn1, hbx⟩ := slots1 hb1
      obtain ⟨n0, n1, n2, n3, n4, n5⟩ := cs6 hn1
      have hs1 := lt_of_some hn1
      have HO1 := hidK (owns_below HO.out hbx)
      have HB1 := hidK (HB.out.trans (hbx.mono hBs))
      clear hb1 hbx hn1 c0 c1 c2 c3 c4 c5
      cases hq : (x.n.toList == t.toList)
      · have hq2 : (x.n.toList != t.toList) = true := by simp [bne, hq]
        go_wp2_with (first | (at_builtin; refine wpList_append_own _ rfl _ _ 65 rfl w.heap.size 69 i0 (.agg #[.string ⟨#[]⟩, .int .i64 0, .string ⟨#[]⟩, .slice none 0 0, .string ⟨#[]⟩, .int .i64 0]) 6 88 Tryz.underlying65 HI0.out.1 HI0.out.2.1 HI0.out.2.2.1 HI0.out.2.2.2 rfl (by decide) _ _ _ rfl (HO1.out.alloc _) ⟨w1.heap.size, 0, none⟩ 1 1 [.string x.n, .int .i64 x.c, .string x.z, .slice va vl vc, .string x.d, .int .i64 x.p] rfl rfl ?c1 ?c2 ?c3 ?c4 ?c5 ?_))
        case c1 => exact news_alloc _ _ _
        case c2 => intro u hu; simp only [List.mem_cons, List.not_mem_nil, or_false] at hu; rcases hu with rfl | rfl | rfl | rfl | rfl | rfl <;> rfl
        case c3 => unfold maxLen; omega
        case c4 => omega
        case c5 => simp; omega
        rintro v' w3 hown3 hgrow -
        have HO3 : Hid (w3.ownsRow w.heap.size 69 6 v' (wo Pd.n t (xs.take (k + 1))).length (ws ++ ([[.string x.n, .int .i64 x.c, .string x.z, .slice va vl vc, .string x.d, .int .i64 x.p]] : List (List Value))).flatten) := by
          show World.ownsRow _ _ _ _ _ _ _
          rw [wo_yes HX.out hq, List.length_append, List.flatten_append]
          simpa using hown3
        have hF := HF.out.push HX.out HVK.out
        rw [← wo_yes HX.out hq] at hF
        have HF3 := hidK hF
        have HB3 := hidK ((HB1.out.trans ((below1 _ _).mono HB1.out.size)).grown hgrow (by simp; omega) (fun g hg => (HO1.out.lt g hg).1))
        clear hown3 hgrow hF
        go_wp2
        exact ⟨⟨k + 1, _, _, by omega, by go_num, HO3, HF3, HB3⟩, by simp [intOf]; omega⟩
      · have hq2 : (x.n.toList != t.toList) = false := by simp [bne, hq]
        have HF3 := hidK HF.out.up
        rw [← wo_no HX.out hq] at HF3 HO1
        go_wp2
        exact ⟨⟨k + 1, ws, f, by omega, by go_num, HO1, HF3, HB1⟩, by simp [intOf]; omega⟩
    · obtain rfl : len = k := by omega
      have h5 := HF.out
      have HO5 := HO
      rw [List.take_of_length_le (by omega)] at h5 HO5
      have h6 := (h5.recs (HV.out.below HB.out)).keep (w' := wr) (S' := fun k => Q k ∨ w.heap.size ≤ k) (fun _ _ _ _ => rfl) (fun _ _ s => .inl s)
      obtain ⟨a', c', e, hR⟩ := h6.own HO5.out (by simp) (by decide) (fun g hg => .inr (HO5.out.lt g hg).1)
      subst e
      have HR5 := hidK hR
      clear h5 h6 hR HF HO HO5
      go_wp2
      go_ret
      exact ⟨a', _, c', rfl, by simpa using HR5.out, HB.out⟩

theorem ClOwnP.put5 {w2 w3 w4 : World} {d : Ad} {c : Cr} {B : Nat} {P : Nat → Nat} (h : ClOwnP w2 d c (fun k => B ≤ k) P) (hB : B ≤ w2.heap.size) {a : Option Addr} {l cp : Nat} {rs : List (List Fv)} (hN : ROwn w3 a l cp 6 69 rs (fun k => ((B ≤ k ∧ P k = 5) ∧ k < w2.heap.size) ∨ w2.heap.size + 1 ≤ k)) (hb : Below w2.heap.size w2 w3) (hk : ∀ k, B ≤ k → ¬ k = w2.heap.size → w4.heap[k]? = w3.heap[k]?) : ClOwn w4 ⟨d.a1, d.l1, d.c1, d.a2, d.l2, d.c2, d.a3, d.l3, d.c3, d.a4, d.l4, d.c4, a, l, cp⟩ ⟨c.n, c.k, c.v, c.x, rs⟩ (fun k => B ≤ k) := by
  refine ⟨fun k => if w2.heap.size + 1 ≤ k then 5 else P k, ?_, ?_, ?_, ?_, ?_⟩
  · exact h.n.keep (fun k hl s => (hk k s.1 (by omega)).trans (hb.block k hl)) (fun k hl s => ⟨s.1, by show (if w2.heap.size + 1 ≤ k then 5 else P k) = 1; rw [if_neg (by omega)]; exact s.2⟩)
  · exact h.k.keep (fun k hl s => (hk k s.1 (by omega)).trans (hb.block k hl)) (fun k hl s => ⟨s.1, by show (if w2.heap.size + 1 ≤ k then 5 else P k) = 2; rw [if_neg (by omega)]; exact s.2⟩)
  · exact h.v.keep (fun k hl s => (hk k s.1 (by omega)).trans (hb.block k hl)) (fun k hl s => ⟨s.1, by show (if w2.heap.size + 1 ≤ k then 5 else P k) = 3; rw [if_neg (by omega)]; exact s.2⟩)
  · exact h.x.keep (fun k hl s => (hk k s.1 (by omega)).trans (hb.block k hl)) (fun k hl s => ⟨s.1, by show (if w2.heap.size + 1 ≤ k then 5 else P k) = 4; rw [if_neg (by omega)]; exact s.2⟩)
  · refine hN.keep (fun k _ s => hk k (by rcases s with s | s; exact s.1.1; omega) (by rcases s with s | s <;> omega)) (fun k _ s => ?_)
    rcases s with s | s
    · exact ⟨s.1.1, by show (if w2.heap.size + 1 ≤ k then 5 else P k) = 5; rw [if_neg (by omega)]; exact s.1.2⟩
    · exact ⟨by show B ≤ k; omega, if_pos s⟩

def DwWhy (c : Cl) (t : ByteArray) (St : Nat → Prop) : Nat → Prop
  | 0 => 8000 < t.size
  | 1 => ¬ 8000 < t.size ∧ ¬ RightI c
  | i + 2 => ¬ 8000 < t.size ∧ RightI c ∧ St (i + 2)
def WhyI (E : Nat → Addr) (Why : Nat → Prop) (ok : Prop) (w : World) (e : Ending) (w' : World) : Prop := Below w.heap.size w w' ∧ ((∃ i, i < 9 ∧ Why i ∧ e = .returned (.iface 188 (.pointer (some (E i))))) ∨ (ok ∧ e = .returned .nilIface))
def DwOk (c : Cl) (t : ByteArray) (ok : Prop) : Prop := ¬ 8000 < t.size ∧ RightI c ∧ ok
def DropIs (c : Cl) (t : ByteArray) (St : Nat → Prop) (ok : Prop) (r : Cl) (o : Co) : Prop := (∃ i, DwWhy c t St i ∧ o = co0 (codeOf i)) ∨ (¬ 8000 < t.size ∧ RightI c ∧ ok ∧ o = ⟨r, ⟨#[]⟩, 0⟩)
theorem DropIs.same {c : Cl} {t : ByteArray} {St : Nat → Prop} {ok : Prop} {r : Cl} (h1 : ∀ i j, St i → St j → i = j) (h2 : ∀ i, St i → ¬ ok) {o o' : Co} (h : DropIs c t St ok r o) (h' : DropIs c t St ok r o') : o = o' := by
  rcases h with ⟨i, a, rfl⟩ | ⟨a1, a2, a3, rfl⟩ <;> rcases h' with ⟨j, b, rfl⟩ | ⟨b1, b2, b3, rfl⟩
  · have : i = j := by
      rcases i with _ | _ | i <;> rcases j with _ | _ | j <;> simp only [DwWhy] at a b
      · rfl
      · exact absurd a b.1
      · exact absurd a b.1
      · exact absurd b a.1
      · rfl
      · exact absurd b.2.1 a.2
      · exact absurd b a.1
      · exact absurd a.2.1 b.2
      · exact h1 _ _ a.2.2 b.2.2
    rw [this]
  · rcases i with _ | _ | i <;> simp only [DwWhy] at a
    · exact absurd a b1
    · exact absurd b2 a.2
    · exact absurd b3 (h2 _ a.2.2)
  · rcases j with _ | _ | j <;> simp only [DwWhy] at b
    · exact absurd b a1
    · exact absurd a2 b.2
    · exact absurd a3 (h2 _ b.2.2)
  · rfl
theorem co0_marks (p : Int) : mkCn 1 (co0 p).c.raw ≤ 1152921504606846976 := by simp [co0, cl0, Cl.raw, mkCn, mkNs]
theorem wo_fit {α : Type} {nm : α → ByteArray} {t : ByteArray} {xs : List α} {j : Nat} {x : α} (h : (wo nm t xs)[j]? = some x) : ∃ i : Nat, xs[i]? = some x := List.getElem?_of_mem (List.mem_filter.1 (List.mem_of_getElem? h)).1

set_option maxRecDepth 100000 in
set_option maxHeartbeats 3200000 in
theorem idwP_any (d : Ad) (c : Cl) (t : ByteArray) (E : Nat → Addr) (St : Nat → Prop) (ok : Prop) (w : World) (hr : ClRow w d c.raw) (hG : Ers w E) (hst : ∀ W, ClRow W d c.raw → RightI c → Ers W E → Calls Tryz.prog 31 #[.agg #[.slice d.a1 d.l1 d.c1, .slice d.a2 d.l2 d.c2, .slice d.a3 d.l3 d.c3, .slice d.a4 d.l4 d.c4, .slice d.a5 d.l5 d.c5, .int .i64 c.now], .string t] W (WhyI E (fun i => 2 ≤ i ∧ St i) ok W)) :
    Calls Tryz.prog 30 #[.agg #[.slice d.a1 d.l1 d.c1, .slice d.a2 d.l2 d.c2, .slice d.a3 d.l3 d.c3, .slice d.a4 d.l4 d.c4, .slice d.a5 d.l5 d.c5, .int .i64 c.now], .string t, .func (.func 31) #[] #[]] w (WhyI E (DwWhy c t St) (DwOk c t ok) w) := by
  have HR := hidK hr
  have HE := hidK hG
  have HST := hidK hst
  have HB := hidK (Below.refl w.heap.size w)
  clear hr hG hst
  by_cases hl : 8000 < t.size
  · have ev := (HE.out.below (below1 w (.cells #[.slice d.a1 d.l1 d.c1, .slice d.a2 d.l2 d.c2, .slice d.a3 d.l3 d.c3, .slice d.a4 d.l4 d.c4, .slice d.a5 d.l5 d.c5, .int .i64 c.now] 36))).v0
    have evl := cell_lt HE.out.v0
    go_enter Tryz.func30, Tryz.ntmps30
    go_wp2_with fail
    refine (long_yes t _ hl).mono ?_
    rintro e w1 ⟨rfl, rfl⟩
    go_wp2
    go_ret
    exact ⟨below1 _ _, .inl ⟨0, by decide, hl, rfl⟩⟩
  go_enter Tryz.func30, Tryz.ntmps30
  go_wp2_with fail
  refine (long_no t _ hl).mono ?_
  rintro e w1 ⟨rfl, rfl⟩
  go_wp2_with fail
  refine (iright_any d c _ (HR.out.below (HB.out.trans ((below1 _ _).mono HB.out.size))) (HE.out.below (HB.out.trans ((below1 _ _).mono HB.out.size))).ens).mono ?_
  rintro e w1 ⟨r, rfl, hi, hb⟩
  obtain ⟨HA0, hbx⟩ := slots1 hb
  have Bk := hidK HA0
  replace HB := upB HB hbx
  clear hb hbx HA0
  have HI := hidK hi
  clear hi
  cases r
  · obtain ⟨k0, k1, k2, k3, k4, k5⟩ := cs6 Bk.out
    have ltk_1 := lt_of_some Bk.out
    have ev := (HE.out.below HB.out).v1
    go_wp2
    go_ret
    exact ⟨HB.out, .inl ⟨1, by decide, ⟨hl, fun h => (by have := HI.out.2 h; cases this)⟩, rfl⟩⟩
  have HT := hidK (HI.out.1 (by first | trivial | rfl))
  clear HI
  obtain ⟨k0, k1, k2, k3, k4, k5⟩ := cs6 Bk.out
  have ltk_1 := lt_of_some Bk.out
  go_wp2_with fail
  refine (HST.out _ (HR.out.below HB.out) HT.out (HE.out.below HB.out)).mono ?_
  rintro e w2 ⟨hb, hf⟩
  clear k0 k1 k2 k3 k4 k5 ltk_1
  replace Bk := upK Bk hb
  replace HB := upB HB hb
  clear hb
  rcases hf with ⟨i, hi8, ⟨hi2, hs⟩, rfl⟩ | ⟨hok, rfl⟩
  · obtain ⟨j, rfl⟩ : ∃ j, i = j + 2 := ⟨i - 2, by omega⟩
    go_wp2
    go_ret
    exact ⟨HB.out, .inl ⟨j + 2, hi8, ⟨hl, HT.out, hs⟩, rfl⟩⟩
  · go_wp2
    go_ret
    exact ⟨HB.out, .inr ⟨⟨hl, HT.out, hok⟩, rfl⟩⟩

def podSt (c : Cl) (t : ByteArray) (i : Nat) : Prop := i = 2 ∧ hit Pd.n c.ps t = false
def dropP (c : Cl) (t : ByteArray) : Cl := ⟨c.ns, c.ks, c.vs, c.xs, wo Pd.n t c.ps, c.now⟩
def DropPodIs (c : Cl) (t : ByteArray) (o : Co) : Prop := DropIs c t (podSt c t) (hit Pd.n c.ps t = true) (dropP c t) o
theorem DropPodIs.same {c : Cl} {t : ByteArray} {o o' : Co} (h : DropPodIs c t o) (h' : DropPodIs c t o') : o = o' := DropIs.same (fun i j a b => a.1.trans b.1.symm) (fun i a q => by rw [a.2] at q; cases q) h h'
theorem DropPodIs.marks {c : Cl} {t : ByteArray} {o : Co} (h : DropPodIs c t o) (hf : ClFit c) : mkCn 1 o.c.raw ≤ 1152921504606846976 := by
  rcases h with ⟨i, _, rfl⟩ | ⟨_, _, _, rfl⟩
  · exact co0_marks _
  · refine ClFit.marks (c := dropP c t) ⟨hf.l1, hf.f1, hf.l2, hf.l3, hf.f3, hf.l4, Nat.le_trans (wo_le _ _ _) hf.l5, fun j x hx => ?_⟩
    obtain ⟨i, hi⟩ := wo_fit (show (wo Pd.n t c.ps)[j]? = some x from hx)
    exact hf.f5 i x hi

set_option maxRecDepth 100000 in
set_option maxHeartbeats 3200000 in
theorem ips_any (d : Ad) (c : Cl) (t : ByteArray) (E : Nat → Addr) (w : World) (hr : ClRow w d c.raw) (hG : Ers w E) :
    Calls Tryz.prog 31 #[.agg #[.slice d.a1 d.l1 d.c1, .slice d.a2 d.l2 d.c2, .slice d.a3 d.l3 d.c3, .slice d.a4 d.l4 d.c4, .slice d.a5 d.l5 d.c5, .int .i64 c.now], .string t] w (WhyI E (fun i => 2 ≤ i ∧ podSt c t i) (hit Pd.n c.ps t = true) w) := by
  have HR := hidK hr
  have HE := hidK hG
  have HB := hidK (Below.refl w.heap.size w)
  clear hr hG
  go_enter Tryz.func31, Tryz.ntmps31
  go_wp2_with fail
  refine (findpd_any d.a5 d.l5 d.c5 c.ps t w _ HR.out.p (below1 _ _)).mono ?_
  rintro e w1 ⟨hb, hf⟩
  obtain ⟨HA0, hbx⟩ := slots1 hb
  have Bk := hidK HA0
  replace HB := upB HB hbx
  clear hb hbx HA0
  rcases hf with ⟨hh, x, va, vl, vc, hx, hn, rfl, z0, z2, z4, hvr⟩ | ⟨hh, rfl⟩
  · have HH := hidK hh
    clear hh hx hn z0 z2 z4 hvr
    obtain ⟨k0, k1, k2, k3, k4, k5⟩ := cs6 Bk.out
    have ltk_1 := lt_of_some Bk.out
    go_wp2
    go_ret
    exact ⟨HB.out.alloc HB.out.size _, .inr ⟨HH.out, rfl⟩⟩
  · have HH := hidK hh
    clear hh
    obtain ⟨k0, k1, k2, k3, k4, k5⟩ := cs6 Bk.out
    have ltk_1 := lt_of_some Bk.out
    have ev := (HE.out.below HB.out).v2
    have evl := cell_lt ev
    go_wp2
    go_ret
    exact ⟨HB.out.alloc HB.out.size _, .inl ⟨2, by decide, ⟨by decide, rfl, HH.out⟩, rfl⟩⟩

set_option maxRecDepth 100000 in
set_option maxHeartbeats 6400000 in
theorem idropP_any (d : Ad) (c : Cl) (t : ByteArray) (E : Nat → Addr) (w : World) (hr : ClRow w d c.raw) (hG : Ers w E) :
    Calls Tryz.prog 8 #[.agg #[.slice d.a1 d.l1 d.c1, .slice d.a2 d.l2 d.c2, .slice d.a3 d.l3 d.c3, .slice d.a4 d.l4 d.c4, .slice d.a5 d.l5 d.c5, .int .i64 c.now], .string t] w (OutI (DropPodIs c t) w) := by
  have HR := hidK hr
  have HE := hidK hG
  have HB := hidK (Below.refl w.heap.size w)
  clear hr hG
  go_enter Tryz.func8, Tryz.ntmps8
  go_wp2_with fail
  refine (idwP_any d c t E (podSt c t) (hit Pd.n c.ps t = true) _ (HR.out.below (HB.out.trans ((below2 _ _ _).mono HB.out.size))) (HE.out.below (HB.out.trans ((below2 _ _ _).mono HB.out.size))) (fun W h1 h2 h3 => ips_any d c t E W h1 h3)).mono ?_
  rintro e w1 ⟨hb, hf⟩
  obtain ⟨HA0, HA1, hbx⟩ := slots2 hb
  have Bk := hidK HA0
  have Br := hidK HA1
  replace HB := upB HB hbx
  clear hb hbx HA0 HA1
  rcases hf with ⟨i, hi8, hwhy, rfl⟩ | ⟨⟨hl, hT, hok⟩, rfl⟩
  · have HV : Hid (DropPodIs c t (co0 (codeOf i))) := .inl ⟨i, hwhy, rfl⟩
    clear hwhy
    obtain ⟨cc, hcc⟩ : ∃ cc, cc = codeOf i := ⟨_, rfl⟩
    rw [← hcc] at HV
    obtain ⟨k0, k1, k2, k3, k4, k5⟩ := cs6 Bk.out
    have ltk_1 := lt_of_some Bk.out
    go_wp2_with fail
    refine (refused_any E i cc hcc _ (HE.out.below HB.out) hi8).mono ?_
    rintro e w2 ⟨rfl, hb⟩
    clear k0 k1 k2 k3 k4 k5 ltk_1
    replace Bk := upK Bk hb
    replace Br := upK Br hb
    replace HB := upB HB hb
    clear hb
    clear hcc
    obtain ⟨r0, r1, r2, r3, r4, r5, r6, r7⟩ := cs8 Br.out
    have ltr_2 := lt_of_some Br.out
    have fr0 : w2.frozen? ⟨w.heap.size + 1, 0, none⟩ = false := froK Br.out 0
    have fr1 : w2.frozen? ⟨w.heap.size + 1, 1, none⟩ = false := froK Br.out 1
    have fr2 : w2.frozen? ⟨w.heap.size + 1, 2, none⟩ = false := froK Br.out 2
    have fr3 : w2.frozen? ⟨w.heap.size + 1, 3, none⟩ = false := froK Br.out 3
    have fr4 : w2.frozen? ⟨w.heap.size + 1, 4, none⟩ = false := froK Br.out 4
    have fr5 : w2.frozen? ⟨w.heap.size + 1, 5, none⟩ = false := froK Br.out 5
    have fr6 : w2.frozen? ⟨w.heap.size + 1, 6, none⟩ = false := froK Br.out 6
    have fr7 : w2.frozen? ⟨w.heap.size + 1, 7, none⟩ = false := froK Br.out 7
    have hrl : w.heap.size + 1 < w2.heap.size := lt_of_some Br.out
    go_wp2
    exact bodyPost_ret (v := .agg #[.slice none 0 0, .slice none 0 0, .slice none 0 0, .slice none 0 0, .slice none 0 0, .int .i64 0, .string ⟨#[]⟩, .int .i64 cc]) (by simp [results, Tryz.results8, go_sem, *]) rfl ⟨ad0, co0 cc, rfl, HV.out, own0 _ _, set_below (show w.heap.size ≤ w.heap.size + 1 by omega) (set_below (show w.heap.size ≤ w.heap.size + 1 by omega) (set_below (show w.heap.size ≤ w.heap.size + 1 by omega) (set_below (show w.heap.size ≤ w.heap.size + 1 by omega) (set_below (show w.heap.size ≤ w.heap.size + 1 by omega) (set_below (show w.heap.size ≤ w.heap.size + 1 by omega) (set_below (show w.heap.size ≤ w.heap.size + 1 by omega) (set_below (show w.heap.size ≤ w.heap.size + 1 by omega) (HB.out))))))))⟩
  have HQ1 : Hid (w.heap.size + 1 < w1.heap.size) := lt_of_some Br.out
  have HV : Hid (DropPodIs c t ⟨dropP c t, ⟨#[]⟩, 0⟩) := .inr ⟨hl, hT, hok, rfl⟩
  have HS := hidK hT.sm
  clear hT hok
  obtain ⟨k0, k1, k2, k3, k4, k5⟩ := cs6 Bk.out
  have ltk_1 := lt_of_some Bk.out
  go_wp2_with fail
  refine (iownC_any d c _ (HR.out.below HB.out) HS.out).mono ?_
  rintro e w2 ⟨d', rfl, ho, hb⟩
  have HQ2 := hidK hb.size
  clear k0 k1 k2 k3 k4 k5 ltk_1
  replace Bk := upK Bk hb
  replace Br := upK Br hb
  replace HB := upB HB hb
  clear hb
  obtain ⟨P, hP⟩ := ho
  have HP := hidK hP
  have hq1 : w.heap.size + 1 < w1.heap.size := HQ1.out
  have hq2 : w1.heap.size ≤ w2.heap.size := HQ2.out
  clear hP
  obtain ⟨r0, r1, r2, r3, r4, r5, r6, r7⟩ := cs8 Br.out
  have ltr_2 := lt_of_some Br.out
  go_wp2_with fail
  have h5 := (HP.out.p.into (S' := fun k => (w1.heap.size ≤ k ∧ P k = 5) ∧ k < w2.heap.size) (fun k hk s => ⟨s, hk⟩)).below (below1 w2 (.cells #[.slice d'.a1 d'.l1 d'.c1, .slice d'.a2 d'.l2 d'.c2, .slice d'.a3 d'.l3 d'.c3, .slice d'.a4 d'.l4 d'.c4, .slice d'.a5 d'.l5 d'.c5, .int .i64 c.now] 36))
  refine (iwopd_any d'.a5 d'.l5 d'.c5 c.ps t _ _ h5 (by have h6 := HP.out.p.1; have h7 : (c.ps.map pdF).length = d'.l5 := h6; rw [List.length_map] at h7; have := HS.out.p; omega)).mono ?_
  rintro e w3 ⟨a', l', c', rfl, hN, hb⟩
  rw [size1] at hN
  have hbw23 := (slots1 hb).2
  have HN := hidK hN
  clear hN h5
  clear r0 r1 r2 r3 r4 r5 r6 r7 ltr_2
  obtain ⟨HA0, hbx⟩ := slots1 hb
  replace Bk := upK Bk hbx
  replace Br := upK Br hbx
  have Bo := hidK HA0
  replace HB := upB HB hbx
  clear hb hbx HA0
  have hq3 : w2.heap.size < w3.heap.size := lt_of_some Bo.out
  have HBX := hidK hbw23
  clear hbw23
  obtain ⟨r0, r1, r2, r3, r4, r5, r6, r7⟩ := cs8 Br.out
  have ltr_3 := lt_of_some Br.out
  obtain ⟨o0, o1, o2, o3, o4, o5⟩ := cs6 Bo.out
  have lto_3 := lt_of_some Bo.out
  have fr0 : w3.frozen? ⟨w.heap.size + 1, 0, none⟩ = false := froK Br.out 0
  have fr1 : w3.frozen? ⟨w.heap.size + 1, 1, none⟩ = false := froK Br.out 1
  have fr2 : w3.frozen? ⟨w.heap.size + 1, 2, none⟩ = false := froK Br.out 2
  have fr3 : w3.frozen? ⟨w.heap.size + 1, 3, none⟩ = false := froK Br.out 3
  have fr4 : w3.frozen? ⟨w.heap.size + 1, 4, none⟩ = false := froK Br.out 4
  have fr5 : w3.frozen? ⟨w.heap.size + 1, 5, none⟩ = false := froK Br.out 5
  have fr6 : w3.frozen? ⟨w.heap.size + 1, 6, none⟩ = false := froK Br.out 6
  have fr7 : w3.frozen? ⟨w.heap.size + 1, 7, none⟩ = false := froK Br.out 7
  have fo0 : w3.frozen? ⟨w2.heap.size, 0, none⟩ = false := froK Bo.out 0
  have fo1 : w3.frozen? ⟨w2.heap.size, 1, none⟩ = false := froK Bo.out 1
  have fo2 : w3.frozen? ⟨w2.heap.size, 2, none⟩ = false := froK Bo.out 2
  have fo3 : w3.frozen? ⟨w2.heap.size, 3, none⟩ = false := froK Bo.out 3
  have fo4 : w3.frozen? ⟨w2.heap.size, 4, none⟩ = false := froK Bo.out 4
  have fo5 : w3.frozen? ⟨w2.heap.size, 5, none⟩ = false := froK Bo.out 5
  have hrl : w.heap.size + 1 < w3.heap.size := by omega
  have hne : ¬ w.heap.size + 1 = w2.heap.size := by omega
  have hne2 : ¬ w2.heap.size = w.heap.size + 1 := by omega
  go_wp2
  refine bodyPost_ret (v := .agg #[.slice d'.a1 d'.l1 d'.c1, .slice d'.a2 d'.l2 d'.c2, .slice d'.a3 d'.l3 d'.c3, .slice d'.a4 d'.l4 d'.c4, .slice a' l' c', .int .i64 c.now, .string ⟨#[]⟩, .int .i64 0]) (by simp [results, Tryz.results8, go_sem, *]) rfl ⟨⟨d'.a1, d'.l1, d'.c1, d'.a2, d'.l2, d'.c2, d'.a3, d'.l3, d'.c3, d'.a4, d'.l4, d'.c4, a', l', c'⟩, ⟨dropP c t, ⟨#[]⟩, 0⟩, rfl, HV.out, ?_, set_below (show w.heap.size ≤ w.heap.size + 1 by omega) (set_below (show w.heap.size ≤ w.heap.size + 1 by omega) (set_below (show w.heap.size ≤ w.heap.size + 1 by omega) (set_below (show w.heap.size ≤ w.heap.size + 1 by omega) (set_below (show w.heap.size ≤ w.heap.size + 1 by omega) (set_below (show w.heap.size ≤ w.heap.size + 1 by omega) (set_below (show w.heap.size ≤ w.heap.size + 1 by omega) (set_below (show w.heap.size ≤ w.heap.size + 1 by omega) (set_below (show w.heap.size ≤ w2.heap.size by omega) (HB.out)))))))))⟩
  have h9 := HP.out.put5 hq2 HN.out HBX.out (w4 := (((((((((w3.setCell ⟨w2.heap.size, 4, none⟩ (.slice a' l' c')).setCell ⟨w.heap.size + 1, 0, none⟩ (.slice d'.a1 d'.l1 d'.c1)).setCell ⟨w.heap.size + 1, 1, none⟩ (.slice d'.a2 d'.l2 d'.c2)).setCell ⟨w.heap.size + 1, 2, none⟩ (.slice d'.a3 d'.l3 d'.c3)).setCell ⟨w.heap.size + 1, 3, none⟩ (.slice d'.a4 d'.l4 d'.c4)).setCell ⟨w.heap.size + 1, 4, none⟩ (.slice a' l' c')).setCell ⟨w.heap.size + 1, 5, none⟩ (.int .i64 c.now)).setCell ⟨w.heap.size + 1, 6, none⟩ (.string ⟨#[]⟩)).setCell ⟨w.heap.size + 1, 7, none⟩ (.int .i64 0))) (fun k h1 h2 => by rw [Below.heap_setCell _ _ _ _ (show k ≠ w.heap.size + 1 by omega), Below.heap_setCell _ _ _ _ (show k ≠ w.heap.size + 1 by omega), Below.heap_setCell _ _ _ _ (show k ≠ w.heap.size + 1 by omega), Below.heap_setCell _ _ _ _ (show k ≠ w.heap.size + 1 by omega), Below.heap_setCell _ _ _ _ (show k ≠ w.heap.size + 1 by omega), Below.heap_setCell _ _ _ _ (show k ≠ w.heap.size + 1 by omega), Below.heap_setCell _ _ _ _ (show k ≠ w.heap.size + 1 by omega), Below.heap_setCell _ _ _ _ (show k ≠ w.heap.size + 1 by omega), Below.heap_setCell _ _ _ _ (show k ≠ w2.heap.size by omega)])
  exact h9.into (fun k _ s => by have s1 : w1.heap.size ≤ k := s; show w.heap.size ≤ k; omega)

theorem row_same {w : World} {g : Nat} {cs : Array Value} {T : TypeId} {f : Nat × Nat} (h : w.heap[g]? = some (.cells cs T f)) : Below w.heap.size w (w.setRow g cs) := by
  refine ⟨rfl, rfl, rfl, by simp, fun k hk => ?_⟩
  by_cases e : k = g
  · subst e
    rw [setRow_heap w k cs cs T f h, h]
  · exact setRow_other w g k cs e

theorem run_append_empty_none {w : World} (t ty e : TypeId) (i : TypeInfo) (ht : Tryz.prog.underlying t = some (.slice e)) (hi : Tryz.prog.info? e = some i) (g cap : Nat) :
    (Builtin.append_ #[t, t] ty #[.slice (some ⟨g, 0, none⟩) 0 0, .slice none 0 cap]).run Tryz.prog w = .ok (.slice (some ⟨g, 0, none⟩) 0 0) w := by
  simp [Builtin.append_, run_underlying ht, sizeOf, typeInfo, hi, Builtin.lenOf, Builtin.firstCells, storeCells]

theorem TOwn.here {w : World} {g l c : Nat} {zs : List ByteArray} {S S' : Nat → Prop} (h : TOwn w (some ⟨g, 0, none⟩) l c zs S) (hS : S' g) : TOwn w (some ⟨g, 0, none⟩) l c zs S' :=
  ⟨h.1, h.2.imp id fun ⟨g', cur, e, _, hg⟩ => by cases e; exact ⟨g, cur, rfl, hS, hg⟩⟩

theorem run_append_texts {w : World} {g0 : Nat} {va : Option Addr} {len cap : Nat} {zs : List ByteArray} (ty : TypeId) (hg : w.heap[g0]? = some (.cells #[] 9 (0, 0))) (hr : TxRow w va len cap zs) (hl : len ≤ 8001) :
    ∃ a l c w', (Builtin.append_ #[67, 67] ty #[.slice (some ⟨g0, 0, none⟩) 0 0, .slice va len cap]).run Tryz.prog w = .ok (.slice a l c) w' ∧ TOwn w' a l c zs (fun k => k = g0 ∨ w.heap.size ≤ k) ∧ Below w.heap.size w w' := by
  obtain ⟨i0, hi, hz0, hz1, hz2⟩ := info_parts infoStr
  have hzl : zs.length = len := hr.1
  rcases Nat.eq_zero_or_pos len with h0 | h0
  · subst h0
    obtain rfl : zs = [] := List.eq_nil_of_length_eq_zero hzl
    cases va with
    | none => exact ⟨_, _, _, _, run_append_empty_none 67 ty 9 i0 Tryz.underlying67 hi g0 cap, ⟨⟨rfl, Nat.le_refl _, by omega, fun j x hx => by simp at hx, .inl rfl⟩, .inl rfl⟩, Below.refl _ _⟩
    | some ad =>
      have h := run_append_room (P := Tryz.prog) w 67 ty 9 i0 Tryz.underlying67 hi g0 0 0 #[] hg ad 0 cap [] (by simp) (fun j u hu => by simp at hu) (fun u hu => by simp at hu) (by omega) (by simp)
      exact ⟨_, _, _, _, h, ⟨⟨rfl, Nat.le_refl _, by omega, fun j x hx => by simp at hx, .inl rfl⟩, .inl rfl⟩, by simpa using row_same hg⟩
  · cases va with
    | none =>
      rcases hr.2.2.2.2 with h | ⟨b, o, e, _⟩
      · subst h; simp at hzl; omega
      · cases e
    | some ad =>
      have h := run_append_grow (P := Tryz.prog) w 67 ty 9 i0 (.string ⟨#[]⟩) Tryz.underlying67 hi hz0 ⟨g0, 0, none⟩ 0 0 [] (by simp) (fun j u hu => by simp at hu) ad len cap (zs.map Value.string) (by rw [hz1]; simpa using hzl) (Ap.news_of hr) (by omega) (by omega) (growslice_fits (by omega) (by rw [hz2]; omega))
      obtain ⟨v', w', hr2, h2, h3, h4⟩ := run_append_own (P := Tryz.prog) w (base := 0) 67 ty 9 i0 (.string ⟨#[]⟩) 1 16 Tryz.underlying67 hi hz0 hz1 hz2 rfl (by decide) (.slice (some ⟨g0, 0, none⟩) 0 0) 0 [] ⟨rfl, .inr ⟨g0, 0, #[], rfl, Nat.zero_le _, hg, Nat.le_refl _, by unfold maxLen; omega, rfl, rfl⟩⟩ ad len cap (zs.map Value.string) (by simpa using hzl) (Ap.news_of hr) (fun u hu => by obtain ⟨x, _, rfl⟩ := List.mem_map.1 hu; rfl) (by unfold maxLen; omega) (by omega) (Nat.zero_le _)
      rw [h] at hr2
      cases hr2
      rw [Nat.zero_add, List.nil_append] at h2
      obtain ⟨a', c', e, hT⟩ := TOwn.of_row h2 hr.2.2.2.1
      have hbel : Below w.heap.size w (w.drew.alloc (.cells (([] : List Value).toArray ++ (zs.map Value.string).toArray ++ Builtin.zeroCells (Value.string ⟨#[]⟩).cells (grownCap w (0 + len) 0 9 - (0 + len))) 9)) := ⟨rfl, rfl, rfl, by simp, fun k hk => heap_alloc_old w.drew _ (by simpa using hk)⟩
      simp only [Nat.zero_add] at e h hbel ⊢
      cases e
      exact ⟨_, _, _, _, h, hT.here (.inr (Nat.le_refl _)), hbel⟩
theorem wpList_texts {ops : Array Oper} {rest : List Oper} {o : Oper} {a : Act} {w : World} {Q : Exit → Act → World → Prop} (hgd : o.guard = none) (s x : Operand) (ho : o.op = .call { callee := .builtin .append, args := #[s, x], argTypes := #[67, 67] }) (g0 : Nat) (hs : a.eval s = .slice (some ⟨g0, 0, none⟩) 0 0) (hg : w.heap[g0]? = some (.cells #[] 9 (0, 0)))
    (va : Option Addr) (len cap : Nat) (hx : a.eval x = .slice va len cap) (zs : List ByteArray) (hr : TxRow w va len cap zs) (hl : len ≤ 8001)
    (h : ∀ a' l c w', TOwn w' a' l c zs (fun k => k = g0 ∨ w.heap.size ≤ k) → Below w.heap.size w w' → wpList Tryz.prog ops Q rest (a.put o.dst (.slice a' l c)) w') : wpList Tryz.prog ops Q (o :: rest) a w := by
  refine wpList_plain hgd fun K hK => ?_
  obtain ⟨a', l, c, w', hrun, h1, h2⟩ := run_append_texts o.type hg hr hl
  unfold Oper.wp execOp
  simp only [ho, resolve, invoke, builtin, Sem.run_bind, Sem.run_pure, Result.andThen_ok, List.map_toArray, List.map_cons, List.map_nil, hs, hx, hrun]
  exact hK _ _ (h a' l c w' h1 h2)

theorem run_append_recs {w : World} {g0 : Nat} {va : Option Addr} {len cap m bytes : Nat} {rs : List (List Fv)} (t ty T : TypeId) (i : TypeInfo) (z : Value) (ht : Tryz.prog.underlying t = some (.slice T)) (hi : Tryz.prog.info? T = some i) (hz : i.zero = some z) (hsize : i.size = m) (hby : i.bytes = bytes) (hzs : z.cells.size = m) (hsz : 0 < m) (hT : ¬ T = 9) (hg : w.heap[g0]? = some (.cells #[] T (0, 0)))
    (hr : RRow w va len cap m rs) (hm : ∀ (j : Nat) r, rs[j]? = some r → r.length = m ∧ FlatR r) (hl : len ≤ 8) (hb8 : bytes ≤ 1000) :
    ∃ a c w', (Builtin.append_ #[t, t] ty #[.slice (some ⟨g0, 0, none⟩) 0 0, .slice va len cap]).run Tryz.prog w = .ok (.slice a len c) w' ∧ ROwn w' a len c m T rs (fun k => k = g0 ∨ w.heap.size ≤ k) ∧ Below w.heap.size w w' := by
  rcases Nat.eq_zero_or_pos len with h0 | h0
  · subst h0
    obtain rfl : rs = [] := List.eq_nil_of_length_eq_zero hr.1
    cases va with
    | none => exact ⟨_, _, _, run_append_empty_none t ty T i ht hi g0 cap, ROwn.nil _ _ _ _ _ (by omega), Below.refl _ _⟩
    | some ad =>
      have h := run_append_room (P := Tryz.prog) w t ty T i ht hi g0 0 0 #[] hg ad 0 cap [] (by simp) (fun j u hu => by simp at hu) (fun u hu => by simp at hu) (by omega) (by simp)
      exact ⟨_, _, _, h, ROwn.nil _ _ _ _ _ (by omega), by simpa using row_same hg⟩
  · have hlen : ((rs.map flatV).flatten).length = len * m := by rw [flat_len (flat_all fun j r hj => (hm j r hj).1), List.length_map, hr.1]
    obtain ⟨ad, rfl, hnews⟩ : ∃ ad, va = some ad ∧ ∀ (j : Nat) u, ((rs.map flatV).flatten)[j]? = some u → w.cell? (ad.add j) = some u := by
      rcases hr.2.2.2 with h | ⟨b, o, rfl, _⟩
      · subst h; have := hr.1; simp at this; omega
      · exact ⟨_, rfl, flat_news hr hm⟩
    have h := run_append_grow (P := Tryz.prog) w t ty T i z ht hi hz ⟨g0, 0, none⟩ 0 0 [] (by simp) (fun j u hu => by simp at hu) ad len cap (rs.map flatV).flatten (by rw [hsize]; exact hlen) hnews (by omega) (by omega) (growslice_fits (by omega) (by rw [hby]; have : (0 + len) * bytes ≤ 8 * 1000 := Nat.mul_le_mul (by omega) hb8; omega))
    obtain ⟨v', w', hr2, h2, h3, h4⟩ := run_append_own (P := Tryz.prog) w (base := 0) t ty T i z m bytes ht hi hz hsize hby hzs hsz (.slice (some ⟨g0, 0, none⟩) 0 0) 0 [] ⟨by simp, .inr ⟨g0, 0, #[], rfl, Nat.zero_le _, hg, Nat.le_refl _, by unfold maxLen; omega, by simp, by simp⟩⟩ ad len cap (rs.map flatV).flatten hlen hnews (flat_recs hr hm w (fun _ => True)).one (by unfold maxLen; omega) (by have : (0 + len) * bytes ≤ 8 * 1000 := Nat.mul_le_mul (by omega) hb8; omega) (Nat.zero_le _)
    rw [h] at hr2
    cases hr2
    rw [Nat.zero_add, List.nil_append] at h2
    obtain ⟨a', c', e, hR⟩ := (flat_recs hr hm _ (fun k => k = g0 ∨ w.heap.size ≤ k)).own h2 hr.1.symm hT (fun g hg => by simp [Value.ownBlock] at hg; exact .inr (by omega))
    have hbel : Below w.heap.size w (w.drew.alloc (.cells (([] : List Value).toArray ++ ((rs.map flatV).flatten).toArray ++ Builtin.zeroCells z.cells (grownCap w (0 + len) 0 T - (0 + len))) T)) := ⟨rfl, rfl, rfl, by simp, fun k hk => heap_alloc_old w.drew _ (by simpa using hk)⟩
    rw [hr.1] at e hR
    simp only [Nat.zero_add] at e h hbel hR ⊢
    cases e
    exact ⟨_, _, _, h, hR, hbel⟩
theorem wp_copy0 {o : Oper} {a : Act} {w : World} {K : Act → World → Prop} {Q : Exit → Act → World → Prop} {g0 : Nat} {va : Option Addr} {len cap m bytes : Nat} {rs : List (List Fv)} (s x : Operand) (t T : TypeId) (ho : o.op = .call { callee := .builtin .append, args := #[s, x], argTypes := #[t, t] }) (i : TypeInfo) (z : Value) (ht : Tryz.prog.underlying t = some (.slice T)) (hi : Tryz.prog.info? T = some i) (hz : i.zero = some z) (hsize : i.size = m) (hby : i.bytes = bytes) (hzs : z.cells.size = m) (hsz : 0 < m) (hT : ¬ T = 9) (hs : a.eval s = .slice (some ⟨g0, 0, none⟩) 0 0) (hg : w.heap[g0]? = some (.cells #[] T (0, 0)))
    (hx : a.eval x = .slice va len cap) (hr : RRow w va len cap m rs) (hm : ∀ (j : Nat) r, rs[j]? = some r → r.length = m ∧ FlatR r) (hl : len ≤ 8) (hb8 : bytes ≤ 1000)
    (h : ∀ a' c' w', ROwn w' a' len c' m T rs (fun k => k = g0 ∨ w.heap.size ≤ k) → Below w.heap.size w w' → K (a.put o.dst (.slice a' len c')) w') : o.wp Tryz.prog a w K Q := by
  obtain ⟨a', c', w', hrun, h1, h2⟩ := run_append_recs t o.type T i z ht hi hz hsize hby hzs hsz hT hg hr hm hl hb8
  unfold Oper.wp execOp
  simp only [ho, resolve, invoke, builtin, Sem.run_bind, Sem.run_pure, Result.andThen_ok, List.map_toArray, List.map_cons, List.map_nil, hs, hx, hrun]
  exact h a' c' w' h1 h2

theorem slots2n {w w' : World} {o p : Obj} (h : Below (w.heap.size + 1 + 1) ((w.alloc o).alloc p) w') : w'.heap[w.heap.size]? = some o ∧ w'.heap[w.heap.size + 1]? = some p ∧ Below w.heap.size w w' := slots2 (by rw [size1, size1]; exact h)
theorem news_alloc_at (w : World) (n : Nat) (hn : w.heap.size = n) (vs : List Value) (T : TypeId) : ∀ (j : Nat) u, vs[j]? = some u → (w.alloc (.cells vs.toArray T)).cell? ((⟨n, 0, none⟩ : Addr).add j) = some u := by
  subst hn
  exact news_alloc w vs T
theorem put6 {w : World} {b : Nat} {T : TypeId} {u0 u1 u2 u3 u4 u5 v0 v1 v2 v3 v4 v5 : Value} (h : w.heap[b]? = some (.cells #[u0, u1, u2, u3, u4, u5] T (0, 0))) :
    ((((((w.setCell ⟨b, 0, none⟩ v0).setCell ⟨b, 1, none⟩ v1).setCell ⟨b, 2, none⟩ v2).setCell ⟨b, 3, none⟩ v3).setCell ⟨b, 4, none⟩ v4).setCell ⟨b, 5, none⟩ v5).heap[b]? = some (.cells #[v0, v1, v2, v3, v4, v5] T (0, 0)) :=
  block_set (block_set (block_set (block_set (block_set (block_set h v0) v1) v2) v3) v4) v5
theorem put6_ne {w : World} {b k : Nat} {v0 v1 v2 v3 v4 v5 : Value} (hk : ¬ k = b) :
    ((((((w.setCell ⟨b, 0, none⟩ v0).setCell ⟨b, 1, none⟩ v1).setCell ⟨b, 2, none⟩ v2).setCell ⟨b, 3, none⟩ v3).setCell ⟨b, 4, none⟩ v4).setCell ⟨b, 5, none⟩ v5).heap[k]? = w.heap[k]? := by
  rw [Below.heap_setCell _ _ _ _ hk, Below.heap_setCell _ _ _ _ hk, Below.heap_setCell _ _ _ _ hk, Below.heap_setCell _ _ _ _ hk, Below.heap_setCell _ _ _ _ hk, Below.heap_setCell _ _ _ _ hk]
theorem ROwn.away {w : World} {a : Option Addr} {len cap m : Nat} {T T' : TypeId} {rs : List (List Fv)} {S : Nat → Prop} (h : ROwn w a len cap m T rs S) {b : Nat} {cs : Array Value} (hb : w.heap[b]? = some (.cells cs T' (0, 0))) (h1 : ¬ T' = T) (h2 : ¬ T' = 9) : ROwn w a len cap m T rs (fun k => S k ∧ ¬ k = b) := by
  obtain ⟨a1, a2, a3, a4⟩ := h
  refine ⟨a1, a2, a3, a4.imp id ?_⟩
  rintro ⟨g, cur, H, e, h5⟩
  refine ⟨g, cur, H, e, h5.blk, ⟨h5.inS, fun q => ?_⟩, h5.len, fun j r hj i f hi => ?_, h5.inj⟩
  · subst q
    have := h5.blk
    rw [hb] at this
    cases this
    exact h1 rfl
  · obtain ⟨v, q1, q2⟩ := h5.cell j r hj i f hi
    refine ⟨v, q1, ?_⟩
    cases f with
    | l zs =>
      obtain ⟨a', l', c', k1, k2, k3, k4, k5, k6⟩ := q2
      refine ⟨a', l', c', k1, k2, k3, k4, k5, k6.imp id ?_⟩
      rintro ⟨z1, z2, z3, cu, z4, z5⟩
      refine ⟨z1, ⟨z2, fun q => ?_⟩, z3, cu, z4, z5⟩
      rw [q] at z4
      rw [hb] at z4
      cases z4
      exact h2 rfl
    | _ => exact q2
theorem owns_set {w : World} {base n m : Nat} {T T' : TypeId} {v u : Value} {xs : List Value} {b i : Nat} {cs : Array Value} (h : w.ownsRow base T m v n xs) (hb : w.heap[b]? = some (.cells cs T' (0, 0))) (hT : ¬ T' = T) : (w.setCell ⟨b, i, none⟩ u).ownsRow base T m v n xs := by
  refine ⟨h.1, h.2.imp id ?_⟩
  rintro ⟨g, cap, cur, h1, h2, h3, h4⟩
  refine ⟨g, cap, cur, h1, h2, (Below.heap_setCell _ _ _ _ (fun e => ?_)).trans h3, h4⟩
  subst e
  rw [hb] at h3
  cases h3
  exact hT rfl
theorem VRecs.set {w : World} {S : Nat → Prop} {m : Nat} {rs : List (List Fv)} {vss : List (List Value)} {H : Nat → Nat → Nat} (h : VRecs w S m rs vss H) {b i : Nat} {cs : Array Value} {T' : TypeId} {u : Value} (hb : w.heap[b]? = some (.cells cs T' (0, 0))) (hT : ¬ T' = 9) : VRecs (w.setCell ⟨b, i, none⟩ u) S m rs vss H :=
  h.keep (fun k cu _ q => Below.heap_setCell _ _ _ _ (fun e => by subst e; rw [hb] at q; cases q; exact hT rfl)) (fun _ _ s => s)
theorem KeptS.of_grown {S : Nat → Prop} {W w : World} {vb : Option Nat} (hg : W.grownBy w vb) (h : ∀ g, vb = some g → S g) : KeptS S W w := ⟨hg.os, hg.tape, hg.output, hg.size, fun k hk hn => hg.block k hk (fun e => hn (h k e.symm))⟩
theorem owns_slice {w : World} {base n m : Nat} {T : TypeId} {v : Value} {xs : List Value} (h : w.ownsRow base T m v n xs) : ∃ a l c, v = .slice a l c := by
  rcases h.2 with ⟨rfl, _⟩ | ⟨g, cap, cur, rfl, _⟩
  · exact ⟨_, _, _, rfl⟩
  · exact ⟨_, _, _, rfl⟩
abbrev Cps (b : Nat) (X : World) : Nat → Prop := fun k => k = b ∨ X.heap.size ≤ k
theorem cp_blk {X wr W w5 : World} {b3 k m : Nat} {T TC : TypeId} {v : Value} {xs : List Value} {cs : Array Value} (hO : wr.ownsRow X.heap.size T m v k xs) (hBo : wr.heap[b3]? = some (.cells cs TC (0, 0))) (hb3 : b3 < X.heap.size) (hb : Below wr.heap.size wr W) (hg : W.grownBy w5 v.ownBlock) : w5.heap[b3]? = some (.cells cs TC (0, 0)) :=
  (hg.block b3 (Nat.lt_of_lt_of_le (lt_of_some hBo) hb.size) (fun e => by have := (hO.lt b3 e.symm).1; omega)).trans ((hb.block _ (lt_of_some hBo)).trans hBo)
theorem cp_step {X wr W w5 : World} {b3 k m f : Nat} {T TC : TypeId} {v v' : Value} {rs : List (List Fv)} {vss : List (List Value)} {H : Nat → Nat → Nat} {cs : Array Value} {r : List Fv} {vs : List Value} {hh : Nat} (hK : KeptS (Cps b3 X) X wr) (hO : wr.ownsRow X.heap.size T m v k vss.flatten) (hV : VRecs wr (fun k => X.heap.size ≤ k) m rs vss H) (hBo : wr.heap[b3]? = some (.cells cs TC (0, 0))) (hb3 : b3 < X.heap.size)
    (hb : Below wr.heap.size wr W) (hown : w5.ownsRow X.heap.size T m v' (k + 1) (vss.flatten ++ vs)) (hg : W.grownBy w5 v.ownBlock) (hT : ¬ T = 9) (hTC : ¬ TC = T) (hTS : ¬ TC = 9) (hr : r.length = m) (hvs : vs.length = m) (hc : ∀ (i : Nat) f, r[i]? = some f → ∃ v, vs[i]? = some v ∧ f.Fr W hh (fun k => X.heap.size ≤ k) v) (hfr : ∀ (i : Nat) zs, r[i]? = some (.l zs) → zs ≠ [] → wr.heap.size ≤ hh)
    (h1 : ∀ (i i' : Nat) zs zs', r[i]? = some (.l zs) → zs ≠ [] → r[i']? = some (.l zs') → zs' ≠ [] → i = i') :
    KeptS (Cps b3 X) X (w5.setCell ⟨b3, f, none⟩ v') ∧ (w5.setCell ⟨b3, f, none⟩ v').ownsRow X.heap.size T m v' (k + 1) (vss ++ [vs]).flatten ∧ (∃ H', VRecs (w5.setCell ⟨b3, f, none⟩ v') (fun k => X.heap.size ≤ k) m (rs ++ [r]) (vss ++ [vs]) H') ∧ (w5.setCell ⟨b3, f, none⟩ v').heap[b3]? = some (.cells (cs.setIfInBounds f v') TC (0, 0)) := by
  have hb5 := cp_blk hO hBo hb3 hb hg
  refine ⟨?_, ?_, ⟨_, (hV.app hb (owns_below hO hb) hT hg hr hvs hc hfr h1).set hb5 hTS⟩, block_set hb5 v'⟩
  · exact ((hK.trans (KeptS.of_below hb)).trans (KeptS.of_grown hg (fun g e => .inr (hO.lt g e).1))).set (.inl rfl)
  · rw [List.flatten_append]
    refine owns_set ?_ hb5 hTC
    simpa using hown
structure ClFr (w : World) (d : Ad) (c : Cr) (S : Nat → Prop) : Prop where
  n : ROwn w d.a1 d.l1 d.c1 7 82 c.n S
  k : ROwn w d.a2 d.l2 d.c2 4 109 c.k S
  v : ROwn w d.a3 d.l3 d.c3 8 106 c.v S
  x : ROwn w d.a4 d.l4 d.c4 5 112 c.x S
  p : ROwn w d.a5 d.l5 d.c5 6 69 c.p S
def EmF (B : Nat) (T : TypeId) : Fact := fun v w => ∃ b, v = .slice (some ⟨b, 0, none⟩) 0 0 ∧ B ≤ b ∧ w.heap[b]? = some (.cells #[] T (0, 0))
theorem EmF.mono (B : Nat) (T : TypeId) : Fact.Mono (EmF B T) := by
  rintro v w w' ⟨b, h1, h2, h3⟩ hb
  exact ⟨b, h1, h2, (hb.block _ (lt_of_some h3)).trans h3⟩
def RwF (B len m : Nat) (T : TypeId) (rs : List (List Fv)) : Fact := fun v w => ∃ a c, v = .slice a len c ∧ ROwn w a len c m T rs (fun k => B ≤ k)
theorem RwF.mono (B len m : Nat) (T : TypeId) (rs : List (List Fv)) : Fact.Mono (RwF B len m T rs) := by
  rintro v w w' ⟨a, c, h1, h2⟩ hb
  exact ⟨a, c, h1, h2.below hb⟩
def CpF (B l2 l4 : Nat) (c : Cl) : Fact := fun v w => ∃ a2 c2 a4 c4, v = .agg #[.slice none 0 0, .slice a2 l2 c2, .slice none 0 0, .slice a4 l4 c4, .slice none 0 0, .int .i64 c.now] ∧ ROwn w a2 l2 c2 4 109 (c.ks.map kdF) (fun k => B ≤ k) ∧ ROwn w a4 l4 c4 5 112 (c.xs.map xdF) (fun k => B ≤ k)
theorem CpF.mono (B l2 l4 : Nat) (c : Cl) : Fact.Mono (CpF B l2 l4 c) := by
  rintro v w w' ⟨a2, c2, a4, c4, h1, h2, h3⟩ hb
  exact ⟨a2, c2, a4, c4, h1, h2.below hb, h3.below hb⟩
def FrF (B : Nat) : Fact := fun v w => ∃ b, v = .pointer (some ⟨b, 0, none⟩) ∧ B ≤ b ∧ w.heap[b]? = some (.cells #[.slice none 0 0, .slice none 0 0, .slice none 0 0, .slice none 0 0, .slice none 0 0, .int .i64 0] 36 (0, 0))
theorem FrF.mono (B : Nat) : Fact.Mono (FrF B) := by
  rintro v w w' ⟨b, h1, h2, h3⟩ hb
  exact ⟨b, h1, h2, (hb.block _ (lt_of_some h3)).trans h3⟩

def Rv (vb : Option Nat) (sp : Tmp) : Gi.Rs := fun s w w' => match s with
  | none => w.grownBy w' vb
  | some t => if t = sp then w.grownBy w' vb else Below w.heap.size w w'
theorem grown_of_below {w w' : World} (vb : Option Nat) (h : Below w.heap.size w w') : w.grownBy w' vb := ⟨h.os, h.tape, h.output, h.size, fun k hk _ => h.block k hk⟩
theorem Rv.below {vb : Option Nat} {sp : Tmp} {s : Option Tmp} {w w' : World} (h : Rv vb sp s w w') (h1 : ¬ s = none) (h2 : ¬ s = some sp) : Below w.heap.size w w' := by
  cases s with
  | none => exact absurd rfl h1
  | some t =>
    simp only [Rv] at h
    rw [if_neg (fun e => h2 (by rw [e]))] at h
    exact h
theorem Rv.rel (vb : Option Nat) (sp : Tmp) : Gi.Rel (Rv vb sp) sp := by
  refine ⟨fun w => grown_of_below vb (Below.refl _ _), fun {a b c} h k => ?_, fun h => World.grownBy.size h, fun w => grown_of_below vb (Below.refl _ _).drew, fun s {a b} h => ?_, fun s {a b} h1 h2 h => Rv.below h h1 h2⟩
  · have h : World.grownBy a b vb := h
    have k : World.grownBy b c vb := k
    exact ⟨k.os.trans h.os, k.tape.trans h.tape, k.output.trans h.output, Nat.le_trans h.size k.size, fun i hi hn => (k.block i (Nat.lt_of_lt_of_le hi h.size) hn).trans (h.block i hi hn)⟩
  · cases s with
    | none => exact h
    | some t =>
      show World.grownBy a b vb
      simp only [Rv] at h
      split at h
      · exact h
      · exact grown_of_below vb h
theorem Rv.other {vb : Option Nat} {sp t : Tmp} {w w' : World} (ht : ¬ t = sp) (h : Below w.heap.size w w') : Rv vb sp (some t) w w' := by
  show (if t = sp then w.grownBy w' vb else Below w.heap.size w w')
  rw [if_neg ht]
  exact h
theorem Rv.this {vb : Option Nat} {sp : Tmp} {w w' : World} (h : w.grownBy w' vb) : Rv vb sp (some sp) w w' := by
  show (if sp = sp then w.grownBy w' vb else Below w.heap.size w w')
  rw [if_pos rfl]
  exact h
theorem news_blk {w : World} {b : Nat} {vs : List Value} {T : TypeId} (h : w.heap[b]? = some (.cells vs.toArray T (0, 0))) : ∀ (j : Nat) u, vs[j]? = some u → w.cell? ((⟨b, 0, none⟩ : Addr).add j) = some u := by
  intro j u hu
  rw [Addr.add_lit, cellK h, Nat.zero_add]
  simpa using hu
def TvF (B : Nat) (x : Vd) : Gi.Fact := fun u w _ _ => ∃ a l c, u = .agg #[.string x.n, .int .i64 x.c, .string x.z, .string x.k, .bool x.x, .string x.m, .bool x.y, .slice a l c] ∧ TOwn w a l c x.zs (fun k => B ≤ k)
def BsF (B : Nat) (x : Vd) : Gi.Fact := fun u w _ _ => ∃ b a l c, u = .slice (some ⟨b, 0, none⟩) 1 1 ∧ B ≤ b ∧ w.heap[b]? = some (.cells #[.string x.n, .int .i64 x.c, .string x.z, .string x.k, .bool x.x, .string x.m, .bool x.y, .slice a l c] 106 (0, 0)) ∧ TOwn w a l c x.zs (fun k => B ≤ k)
def ApF (B k : Nat) (rs : List (List Fv)) (vss : List (List Value)) : Gi.Fact := fun u w _ _ => ∃ H' vs, w.ownsRow B 106 8 u (k + 1) (vss ++ [vs]).flatten ∧ VRecs w (fun k => B ≤ k) 8 rs (vss ++ [vs]) H'
theorem TvF.mono {vb : Option Nat} {sp : Tmp} {ex : Gi.Ex} {d : Option Tmp} {B : Nat} {x : Vd} (hv : ∀ g, vb = some g → g < B) : Gi.Fact.Mono (Rv vb sp) ex d (TvF B x) := by
  rintro s _ _ _ v w w' l h ⟨a, l, c, h1, h2⟩ hb
  have hb : w.grownBy w' vb := (Rv.rel vb sp).sub s hb
  exact ⟨a, l, c, h1, h2.keep (fun k hk s => hb.block k hk (fun e => by have s1 : B ≤ k := s; have := hv k e.symm; omega)) (fun _ _ s => s)⟩
theorem BsF.mono {vb : Option Nat} {sp : Tmp} {ex : Gi.Ex} {d : Option Tmp} {B : Nat} {x : Vd} (hv : ∀ g, vb = some g → g < B) : Gi.Fact.Mono (Rv vb sp) ex d (BsF B x) := by
  rintro s _ _ _ v w w' l h ⟨b, a, l, c, h1, h2, h3, h4⟩ hb
  have hb : w.grownBy w' vb := (Rv.rel vb sp).sub s hb
  exact ⟨b, a, l, c, h1, h2, (hb.block _ (lt_of_some h3) (fun e => by have := hv b e.symm; omega)).trans h3, h4.keep (fun k hk s => hb.block k hk (fun e => by have s1 : B ≤ k := s; have := hv k e.symm; omega)) (fun _ _ s => s)⟩
theorem ApF.mono {vb : Option Nat} {sp : Tmp} {ex : Gi.Ex} {B k : Nat} {rs : List (List Fv)} {vss : List (List Value)} : Gi.Fact.Mono (Rv vb sp) ex (some sp) (ApF B k rs vss) := by
  rintro s h1 h2 _ v w w' l h ⟨H', vs, h3, h4⟩ hb
  have hb := Rv.below hb h1 h2
  exact ⟨H', vs, owns_below h3 hb, h4.below hb⟩

set_option maxRecDepth 100000 in
set_option maxHeartbeats 12800000 in
theorem scopyC_any (d : Ad) (c : Cl) (w : World) (hr : ClRow w d c.raw) (hs : Sm c) :
    Calls Tryz.prog 24 #[.agg #[.slice d.a1 d.l1 d.c1, .slice d.a2 d.l2 d.c2, .slice d.a3 d.l3 d.c3, .slice d.a4 d.l4 d.c4, .slice d.a5 d.l5 d.c5, .int .i64 c.now]] w fun e w' => ∃ d', e = .returned (.agg #[.slice d'.a1 d'.l1 d'.c1, .slice d'.a2 d'.l2 d'.c2, .slice d'.a3 d'.l3 d'.c3, .slice d'.a4 d'.l4 d'.c4, .slice d'.a5 d'.l5 d'.c5, .int .i64 c.now]) ∧ ClFr w' d' c.raw (fun k => w.heap.size ≤ k) ∧ Below w.heap.size w w' := by
  obtain ⟨a1, l1, y1, a2, l2, y2, a3, l3, y3, a4, l4, y4, a5, l5, y5⟩ := d
  dsimp only
  have HR := hidK hr
  have hl1 : c.ns.length = l1 := by simpa using (show (c.ns.map ndF).length = l1 from hr.n.1)
  have hm1 : l1 ≤ 9223372036854775807 := Nat.le_trans hr.n.2.1 hr.n.2.2.1
  have hl2 : c.ks.length = l2 := by simpa using (show (c.ks.map kdF).length = l2 from hr.k.1)
  have hm2 : l2 ≤ 9223372036854775807 := Nat.le_trans hr.k.2.1 hr.k.2.2.1
  have hl3 : c.vs.length = l3 := by simpa using (show (c.vs.map vdF).length = l3 from hr.v.1)
  have hm3 : l3 ≤ 9223372036854775807 := Nat.le_trans hr.v.2.1 hr.v.2.2.1
  have hl4 : c.xs.length = l4 := by simpa using (show (c.xs.map xdF).length = l4 from hr.x.1)
  have hm4 : l4 ≤ 9223372036854775807 := Nat.le_trans hr.x.2.1 hr.x.2.2.1
  have hl5 : c.ps.length = l5 := by simpa using (show (c.ps.map pdF).length = l5 from hr.p.1)
  have hm5 : l5 ≤ 9223372036854775807 := Nat.le_trans hr.p.2.1 hr.p.2.2.1
  clear hr
  have HS := hidK hs
  clear hs
  obtain ⟨i2, hi2⟩ := Option.map_eq_some_iff.1 infokd
  obtain ⟨i4, hi4⟩ := Option.map_eq_some_iff.1 infoxd
  obtain ⟨i1, hi1⟩ := Option.map_eq_some_iff.1 infond
  obtain ⟨i3, hi3⟩ := Option.map_eq_some_iff.1 infovd
  obtain ⟨i5, hi5⟩ := Option.map_eq_some_iff.1 infopd
  have HI1 := hidK hi1
  have HI2 := hidK hi2
  have HI3 := hidK hi3
  have HI4 := hidK hi4
  have HI5 := hidK hi5
  clear hi1 hi2 hi3 hi4 hi5
  obtain ⟨W, hW0⟩ : ∃ W, W = (w.alloc (.cells #[.slice a1 l1 y1, .slice a2 l2 y2, .slice a3 l3 y3, .slice a4 l4 y4, .slice a5 l5 y5, .int .i64 c.now] 36)).alloc (.cells #[.slice none 0 0, .slice none 0 0, .slice none 0 0, .slice none 0 0, .slice none 0 0, .int .i64 0] 36) := ⟨_, rfl⟩
  have HB : Hid (Below w.heap.size w W) := by rw [hW0]; exact below2 _ _ _
  have Bk : Hid (W.heap[w.heap.size]? = some (.cells #[.slice a1 l1 y1, .slice a2 l2 y2, .slice a3 l3 y3, .slice a4 l4 y4, .slice a5 l5 y5, .int .i64 c.now] 36 (0, 0))) := by rw [hW0]; exact heap2_0 _ _ _
  have Br : Hid (W.heap[w.heap.size + 1]? = some (.cells #[.slice none 0 0, .slice none 0 0, .slice none 0 0, .slice none 0 0, .slice none 0 0, .int .i64 0] 36 (0, 0))) := by rw [hW0]; exact heap2_1 _ _ _
  have hWs : W.heap.size = w.heap.size + 1 + 1 := by rw [hW0]; simp
  go_enter Tryz.func24, Tryz.ntmps24
  go_wp2_with fail
  rw [← hW0]
  clear hW0
  rename_i K0 hK0
  refine wp_region_grow_last (by kernel_rfl) rfl rfl (by kernel_rfl) ?_
  refine Grow.step (EmF W.heap.size 109) rfl (EmF.mono _ _) ?_ ?_
  · refine Obl.plain rfl ?_
    intro ac wg K hsz hW hf hK; clear hsz
    clear hf
    go_simp
    exact hK _ _ (below1 _ _) ⟨_, rfl, hW.size, Array.getElem?_push_size⟩
  refine' Grow.stepC _ rfl ?_ ?_
  rotate_left 1
  · refine Obl.plain rfl ?_
    intro ac wg K hsz hW hf hK; clear hsz
    have e1 := hf 1 (by decide)
    simp [slotFact, List.lookup] at e1
    clear hf
    go_simp
    refine hK _ _ (Below.refl _ _) ?_
    with_reducible rfl
  refine' Grow.stepC _ rfl ?_ ?_
  rotate_left 1
  · refine Obl.plain rfl ?_
    intro ac wg K hsz hW hf hK; clear hsz
    have e10 := hf 10 (by decide)
    simp [slotFact, List.lookup] at e10
    clear hf
    obtain ⟨k0, k1, k2, k3, k4, k5⟩ := cs6 ((hW.block _ (lt_of_some Bk.out)).trans Bk.out)
    go_simp
    refine hK _ _ (Below.refl _ _) ?_
    with_reducible rfl
  refine Grow.step (RwF W.heap.size l2 4 109 (c.ks.map kdF)) rfl (RwF.mono _ _ _ _ _) ?_ ?_
  · refine Obl.plain rfl ?_
    intro ac wg K hsz hW hf hK; clear hsz
    have e9 := hf 9 (by decide)
    simp [slotFact, List.lookup] at e9
    have e11 := hf 11 (by decide)
    simp [slotFact, List.lookup] at e11
    clear hf
    obtain ⟨b0, e9, hB0, hg0⟩ := e9
    have hz : i2.zero = some (.agg #[.string ⟨#[]⟩, .bool false, .bool false, .string ⟨#[]⟩]) ∧ i2.size = 4 ∧ i2.bytes = 40 := by have := HI2.out.2; simp only [Prod.mk.injEq] at this; exact this
    refine wp_copy0 (.tmp 9) (.tmp 11) 31 109 rfl i2 (.agg #[.string ⟨#[]⟩, .bool false, .bool false, .string ⟨#[]⟩]) Tryz.underlying31 HI2.out.1 hz.1 hz.2.1 hz.2.2 rfl (by decide) (by decide) (by simpa [Act.eval] using e9) hg0 (by simpa [Act.eval] using e11) (HR.out.k.below (HB.out.trans (hW.mono HB.out.size))) (map_flat kd_flat _) (show l2 ≤ 8 by have := HS.out.k; omega) (by decide) ?_
    intro a' c' w' hR hb6
    have hsw := hW.size
    exact hK _ _ hb6 ⟨a', c', rfl, hR.into (fun k _ s => by show W.heap.size ≤ k; rcases s with rfl | s <;> omega)⟩
  refine Grow.step (EmF W.heap.size 112) rfl (EmF.mono _ _) ?_ ?_
  · refine Obl.plain rfl ?_
    intro ac wg K hsz hW hf hK; clear hsz
    clear hf
    go_simp
    exact hK _ _ (below1 _ _) ⟨_, rfl, hW.size, Array.getElem?_push_size⟩
  refine' Grow.stepC _ rfl ?_ ?_
  rotate_left 1
  · refine Obl.plain rfl ?_
    intro ac wg K hsz hW hf hK; clear hsz
    have e1 := hf 1 (by decide)
    simp [slotFact, List.lookup] at e1
    clear hf
    go_simp
    refine hK _ _ (Below.refl _ _) ?_
    with_reducible rfl
  refine' Grow.stepC _ rfl ?_ ?_
  rotate_left 1
  · refine Obl.plain rfl ?_
    intro ac wg K hsz hW hf hK; clear hsz
    have e14 := hf 14 (by decide)
    simp [slotFact, List.lookup] at e14
    clear hf
    obtain ⟨k0, k1, k2, k3, k4, k5⟩ := cs6 ((hW.block _ (lt_of_some Bk.out)).trans Bk.out)
    go_simp
    refine hK _ _ (Below.refl _ _) ?_
    with_reducible rfl
  refine Grow.step (RwF W.heap.size l4 5 112 (c.xs.map xdF)) rfl (RwF.mono _ _ _ _ _) ?_ ?_
  · refine Obl.plain rfl ?_
    intro ac wg K hsz hW hf hK; clear hsz
    have e13 := hf 13 (by decide)
    simp [slotFact, List.lookup] at e13
    have e15 := hf 15 (by decide)
    simp [slotFact, List.lookup] at e15
    clear hf
    obtain ⟨b0, e13, hB0, hg0⟩ := e13
    have hz : i4.zero = some (.agg #[.string ⟨#[]⟩, .int .i64 0, .string ⟨#[]⟩, .bool false, .string ⟨#[]⟩]) ∧ i4.size = 5 ∧ i4.bytes = 64 := by have := HI4.out.2; simp only [Prod.mk.injEq] at this; exact this
    refine wp_copy0 (.tmp 13) (.tmp 15) 33 112 rfl i4 (.agg #[.string ⟨#[]⟩, .int .i64 0, .string ⟨#[]⟩, .bool false, .string ⟨#[]⟩]) Tryz.underlying33 HI4.out.1 hz.1 hz.2.1 hz.2.2 rfl (by decide) (by decide) (by simpa [Act.eval] using e13) hg0 (by simpa [Act.eval] using e15) (HR.out.x.below (HB.out.trans (hW.mono HB.out.size))) (map_flat xd_flat _) (show l4 ≤ 8 by have := HS.out.x; omega) (by decide) ?_
    intro a' c' w' hR hb6
    have hsw := hW.size
    exact hK _ _ hb6 ⟨a', c', rfl, hR.into (fun k _ s => by show W.heap.size ≤ k; rcases s with rfl | s <;> omega)⟩
  refine' Grow.stepC _ rfl ?_ ?_
  rotate_left 1
  · refine Obl.plain rfl ?_
    intro ac wg K hsz hW hf hK; clear hsz
    have e1 := hf 1 (by decide)
    simp [slotFact, List.lookup] at e1
    clear hf
    go_simp
    refine hK _ _ (Below.refl _ _) ?_
    with_reducible rfl
  refine' Grow.stepC _ rfl ?_ ?_
  rotate_left 1
  · refine Obl.plain rfl ?_
    intro ac wg K hsz hW hf hK; clear hsz
    have e17 := hf 17 (by decide)
    simp [slotFact, List.lookup] at e17
    clear hf
    obtain ⟨k0, k1, k2, k3, k4, k5⟩ := cs6 ((hW.block _ (lt_of_some Bk.out)).trans Bk.out)
    go_simp
    refine hK _ _ (Below.refl _ _) ?_
    with_reducible rfl
  refine Grow.step (CpF W.heap.size l2 l4 c) rfl (CpF.mono _ _ _ _) ?_ ?_
  · refine Obl.plain rfl ?_
    intro ac wg K hsz hW hf hK; clear hsz
    have e12 := hf 12 (by decide)
    simp [slotFact, List.lookup] at e12
    have e16 := hf 16 (by decide)
    simp [slotFact, List.lookup] at e16
    have e18 := hf 18 (by decide)
    simp [slotFact, List.lookup] at e18
    clear hf
    obtain ⟨p2, q2, e12, h12⟩ := e12
    obtain ⟨p4, q4, e16, h16⟩ := e16
    have H12 := hidK h12
    have H16 := hidK h16
    clear h12 h16
    go_simp
    exact hK _ _ (Below.refl _ _) ⟨p2, q2, p4, q4, rfl, H12.out, H16.out⟩
  refine Grow.step (FrF W.heap.size) rfl (FrF.mono _) ?_ ?_
  · refine Obl.plain rfl ?_
    intro ac wg K hsz hW hf hK; clear hsz
    clear hf
    go_simp
    exact hK _ _ (below1 _ _) ⟨_, rfl, hW.size, Array.getElem?_push_size⟩
  refine Grow.done ?_
  intro q wz hW hf
  simp only [List.forall_mem_cons] at hf
  obtain ⟨⟨b3, h3, hb3, hg3⟩, ⟨p2, q2, p4, q4, h19, hR2, hR4⟩, -⟩ := hf
  obtain ⟨t0, t1, t2, t3, t4, t5⟩ := cs6 hg3
  have f0 := froK hg3 0
  have f1 := froK hg3 1
  have f2 := froK hg3 2
  have f3 := froK hg3 3
  have f4 := froK hg3 4
  have f5 := froK hg3 5
  have BoX := hidK (put6 (v0 := .slice none 0 0) (v1 := .slice p2 l2 q2) (v2 := .slice none 0 0) (v3 := .slice p4 l4 q4) (v4 := .slice none 0 0) (v5 := .int .i64 c.now) hg3)
  have HWX : Hid (Below W.heap.size W ((((((wz.setCell ⟨b3, 0, none⟩ (.slice none 0 0)).setCell ⟨b3, 1, none⟩ (.slice p2 l2 q2)).setCell ⟨b3, 2, none⟩ (.slice none 0 0)).setCell ⟨b3, 3, none⟩ (.slice p4 l4 q4)).setCell ⟨b3, 4, none⟩ (.slice none 0 0)).setCell ⟨b3, 5, none⟩ (.int .i64 c.now))) := set_below hb3 (set_below hb3 (set_below hb3 (set_below hb3 (set_below hb3 (set_below hb3 hW)))))
  have R2 : Hid (ROwn ((((((wz.setCell ⟨b3, 0, none⟩ (.slice none 0 0)).setCell ⟨b3, 1, none⟩ (.slice p2 l2 q2)).setCell ⟨b3, 2, none⟩ (.slice none 0 0)).setCell ⟨b3, 3, none⟩ (.slice p4 l4 q4)).setCell ⟨b3, 4, none⟩ (.slice none 0 0)).setCell ⟨b3, 5, none⟩ (.int .i64 c.now)) p2 l2 q2 4 109 (c.ks.map kdF) (fun k => W.heap.size ≤ k ∧ ¬ k = b3)) := (hR2.away hg3 (by decide) (by decide)).keep (fun k hk s => put6_ne s.2) (fun k _ s => s)
  have R4 : Hid (ROwn ((((((wz.setCell ⟨b3, 0, none⟩ (.slice none 0 0)).setCell ⟨b3, 1, none⟩ (.slice p2 l2 q2)).setCell ⟨b3, 2, none⟩ (.slice none 0 0)).setCell ⟨b3, 3, none⟩ (.slice p4 l4 q4)).setCell ⟨b3, 4, none⟩ (.slice none 0 0)).setCell ⟨b3, 5, none⟩ (.int .i64 c.now)) p4 l4 q4 5 112 (c.xs.map xdF) (fun k => W.heap.size ≤ k ∧ ¬ k = b3)) := (hR4.away hg3 (by decide) (by decide)).keep (fun k hk s => put6_ne s.2) (fun k _ s => s)
  clear hg3 hR2 hR4 hW
  intro K hK
  rw [if_pos (by rfl)]
  simp only [putsAll, List.foldr, Act.put, List.setIfInBounds_toArray, List.set_cons_zero, List.set_cons_succ, h3, h19]
  simp only [List.getLast]
  go_simp
  refine hK _ _ ?_
  refine hK0 _ _ ?_
  clear hK hK0 K K0
  generalize ((((((wz.setCell ⟨b3, 0, none⟩ (.slice none 0 0)).setCell ⟨b3, 1, none⟩ (.slice p2 l2 q2)).setCell ⟨b3, 2, none⟩ (.slice none 0 0)).setCell ⟨b3, 3, none⟩ (.slice p4 l4 q4)).setCell ⟨b3, 4, none⟩ (.slice none 0 0)).setCell ⟨b3, 5, none⟩ (.int .i64 c.now)) = X at BoX HWX R2 R4 ⊢
  clear t0 t1 t2 t3 t4 t5 f0 f1 f2 f3 f4 f5
  have HBX := hidK (HB.out.trans (HWX.out.mono HB.out.size))
  replace Bk := hidK ((HWX.out.block _ (lt_of_some Bk.out)).trans Bk.out)
  replace Br := hidK ((HWX.out.block _ (lt_of_some Br.out)).trans Br.out)
  have hb3X : b3 < X.heap.size := lt_of_some BoX.out
  clear HB
  go_wp2
  go_loopw [4] (fun vi wr => ∃ (k : Nat) (vss : List (List Value)) (H : Nat → Nat → Nat) (v : Value), k ≤ l1 ∧ vi = .int .i64 k ∧ Hid (KeptS (Cps b3 X) X wr) ∧ Hid (wr.ownsRow X.heap.size 82 7 v k vss.flatten) ∧ Hid (VRecs wr (fun k => X.heap.size ≤ k) 7 ((c.ns.take k).map ndF) vss H) ∧ Hid (wr.heap[b3]? = some (.cells #[v, .slice p2 l2 q2, .slice none 0 0, .slice p4 l4 q4, .slice none 0 0, .int .i64 c.now] 36 (0, 0)))) (fun vi _ => l1 - (intOf vi).toNat)
  case atStart => exact ⟨0, [], fun _ _ => 0, .slice none 0 0, by omega, rfl, KeptS.refl _ _, World.ownsRow_nil _ _ _ _, VRecs.nil _ _ _ _, BoX⟩
  case round =>
    obtain ⟨k, vss, H, v, hk, rfl, HK, HO, HV, Bo⟩ := hrel
    have hXs := HBX.out.size
    have HBW := hidK (HBX.out.trans (HK.out.low (X := w.heap.size) hXs (fun k s => by rcases s with rfl | s <;> omega)))
    have BkR := hidK ((HK.out.block w.heap.size (by omega) (fun s => by rcases s with s | s <;> omega)).trans Bk.out)
    have hKs := HK.out.size
    by_cases hlt : k < l1
    · obtain ⟨b, o, x, rfl, hb0, hx, hat⟩ := nd_at HR.out.n hlt
      obtain ⟨va, vl, vc, hvr, z0, z1, c0, c1, c2, c3, c4, c5, c6⟩ := nd_cells hat
      have hz8 : vl ≤ 8001 := by have h1 := hvr.1; have h2 := HS.out.ns k x hx; omega
      have HX := hidK hx
      have HT := hidK hvr
      have HZz0 := hidK z0
      have HZz1 := hidK z1
      clear hat hx hvr z0 z1
      replace c0 := (cell_below HBW.out hb0).trans c0
      replace c1 := (cell_below HBW.out hb0).trans c1
      replace c2 := (cell_below HBW.out hb0).trans c2
      replace c3 := (cell_below HBW.out hb0).trans c3
      replace c4 := (cell_below HBW.out hb0).trans c4
      replace c5 := (cell_below HBW.out hb0).trans c5
      replace c6 := (cell_below HBW.out hb0).trans c6
      have hbr : b < wr.heap.size := Nat.lt_of_lt_of_le hb0 HBW.out.size
      have hkr := lt_of_some BkR.out
      have hor := lt_of_some Bo.out
      have hz : i1.zero = some (.agg #[.string ⟨#[]⟩, .string ⟨#[]⟩, .int .i64 0, .int .i64 0, .int .i64 0, .bool false, .slice none 0 0]) ∧ i1.size = 7 ∧ i1.bytes = 88 := by have := HI1.out.2; simp only [Prod.mk.injEq] at this; exact this
      obtain ⟨k0, k1, k2, k3, k4, k5⟩ := cs6 BkR.out
      go_wp2_with (first | (at_builtin; refine wpList_texts rfl _ _ rfl (wr.heap.size + 1) rfl (heap2_1 _ _ _) va vl vc rfl x.zs (HT.out.below (HBW.out.trans ((below2 _ _ _).mono HBW.out.size))) hz8 ?_))
      intro a' l' c' w2 hT2 hb2
      obtain ⟨hn2, -, hbx⟩ := slots2n hb2
      obtain ⟨g, hg⟩ := hT2.fr
      have hs2 : wr.heap.size + 1 < w2.heap.size := by have := hb2.size; simp at this; omega
      have hsl : ∀ k, (k = wr.heap.size + 1 ∨ wr.heap.size + 1 + 1 ≤ k) → wr.heap.size + 1 ≤ k := fun k s => by omega
      have hb4 : Below wr.heap.size wr ((w2.setCell ⟨wr.heap.size, 6, none⟩ (.slice a' l' c')).alloc (.cells #[.string x.n, .string x.z, .int .i64 x.c, .int .i64 x.s, .int .i64 x.u, .bool x.d, .slice a' l' c'] 82)) := (set_below (Nat.le_refl _) hbx).alloc (by simp [World.setCell]; omega) _
      have HF4 : Hid (LFr ((w2.setCell ⟨wr.heap.size, 6, none⟩ (.slice a' l' c')).alloc (.cells #[.string x.n, .string x.z, .int .i64 x.c, .int .i64 x.s, .int .i64 x.u, .bool x.d, .slice a' l' c'] 82)) g (fun k => X.heap.size ≤ k) x.zs (.slice a' l' c')) := hg.keep (fun cu _ q => (Below.heap_alloc _ _ _ (by simp [World.setCell]; exact lt_of_some q)).trans (Below.heap_setCell _ _ _ _ (fun e => by subst e; rw [hn2] at q; cases q))) (fun _ s => by have := hsl _ s; show X.heap.size ≤ g; omega)
      have HG : Hid (∀ zs : List ByteArray, x.zs = zs → zs ≠ [] → wr.heap.size ≤ g) := fun zs e hz => by subst e; have := hsl _ (hg.lt hz).1; omega
      have HB4 := hidK hb4
      have HO4 := hidK (owns_below HO.out hb4)
      obtain ⟨n0, n1, n2, n3, n4, n5, n6⟩ := cs7 hn2
      have fn0 := froK hn2 0
      have fn1 := froK hn2 1
      have fn2 := froK hn2 2
      have fn3 := froK hn2 3
      have fn4 := froK hn2 4
      have fn5 := froK hn2 5
      have fn6 := froK hn2 6
      have bo2 := (hbx.block _ hor).trans Bo.out
      obtain ⟨o0, o1, o2, o3, o4, o5⟩ := cs6 bo2
      have hor2 : b3 < w2.heap.size := lt_of_some bo2
      have hne3 : ¬ b3 = wr.heap.size := by omega
      clear hn2 hbx hT2 hg hb2 hsl hb4 bo2 k0 k1 k2 k3 k4 k5 c0 c1 c2 c3 c4 c5 c6
      go_wp2_with (first | (at_builtin; refine wpList_append_own _ rfl _ _ 30 rfl X.heap.size 82 i1 (.agg #[.string ⟨#[]⟩, .string ⟨#[]⟩, .int .i64 0, .int .i64 0, .int .i64 0, .bool false, .slice none 0 0]) 7 88 Tryz.underlying30 HI1.out.1 hz.1 hz.2.1 hz.2.2 rfl (by decide) _ _ _ rfl HO4.out ⟨w2.heap.size, 0, none⟩ 1 1 [.string x.n, .string x.z, .int .i64 x.c, .int .i64 x.s, .int .i64 x.u, .bool x.d, .slice a' l' c'] rfl rfl ?c1 ?c2 ?c3 ?c4 ?c5 ?_))
      case c1 => exact news_alloc_at _ _ (by simp [World.setCell]) _ _
      case c2 => intro u hu; simp only [List.mem_cons, List.not_mem_nil, or_false] at hu; rcases hu with rfl | rfl | rfl | rfl | rfl | rfl | rfl <;> rfl
      case c3 => unfold maxLen; have := HS.out.n; omega
      case c4 => have := HS.out.n; omega
      case c5 => simp [World.setCell]; omega
      rintro v' w5 hown5 hgrow -
      obtain ⟨v1', v2', v3', rfl⟩ := owns_slice hown5
      clear n0 fn0 n1 fn1 n2 fn2 n3 fn3 n4 fn4 n5 fn5 n6 fn6 o0 o1 o2 o3 o4 o5
      have bo5 := cp_blk HO.out Bo.out hb3X HB4.out hgrow
      obtain ⟨hs1, hs2', ⟨H', hs3⟩, hs4⟩ := cp_step (f := 0) (r := ndF x) (vs := [.string x.n, .string x.z, .int .i64 x.c, .int .i64 x.s, .int .i64 x.u, .bool x.d, .slice a' l' c']) (hh := g) HK.out HO.out HV.out Bo.out hb3X HB4.out hown5 hgrow (by decide) (by decide) (by decide) rfl rfl (nd_fr HZz0.out HZz1.out HF4.out) (fun i zs hi hz => HG.out zs (nd_l hi).2.symm hz) (fun i i' zs zs' h1 _ h2 _ => (nd_l h1).1.trans (nd_l h2).1.symm)
      have e1 : (c.ns.take (k + 1)).map ndF = (c.ns.take k).map ndF ++ [ndF x] := by rw [List.take_add_one, HX.out]; simp
      rw [← e1] at hs3
      have HS1 := hidK hs1
      have HS2 := hidK hs2'
      have HS3 := hidK hs3
      have HS4 := hidK hs4
      obtain ⟨o0, o1, o2, o3, o4, o5⟩ := cs6 bo5
      have fo0 := froK bo5 0
      have fo1 := froK bo5 1
      have fo2 := froK bo5 2
      have fo3 := froK bo5 3
      have fo4 := froK bo5 4
      have fo5 := froK bo5 5
      clear hs1 hs2' hs3 hs4 bo5 hown5 hgrow e1
      go_wp2
      exact ⟨⟨k + 1, _, H', _, by omega, by go_num, HS1, HS2, HS3, HS4⟩, by simp [intOf]; omega⟩
    · have hkl : k = l1 := by omega
      have h5 := HV.out
      rw [List.take_of_length_le (by omega)] at h5
      obtain ⟨p1, q1, hv, hR⟩ := h5.own HO.out (by simp; omega) (by decide) (fun g hg => (HO.out.lt g hg).1)
      have hl5 : (c.ns.map ndF).length = l1 := by simpa using hl1
      rw [hl5] at hv hR
      subst hv
      have R1 := hidK (hR.away Bo.out (by decide) (by decide))
      replace R2 := hidK (R2.out.keep (fun k hk s => HK.out.block k hk (fun q9 => by rcases q9 with q9 | q9; exact s.2 q9; omega)) (fun _ _ s => s))
      replace R4 := hidK (R4.out.keep (fun k hk s => HK.out.block k hk (fun q9 => by rcases q9 with q9 | q9; exact s.2 q9; omega)) (fun _ _ s => s))
      replace Br := hidK ((HK.out.block (w.heap.size + 1) (by omega) (fun s => by rcases s with s | s <;> omega)).trans Br.out)
      replace Bk := BkR
      replace BoX := Bo
      replace HBX := HBW
      have hb3X1 : b3 < wr.heap.size := lt_of_some BoX.out
      clear BkR Bo HBW h5 hR HV HO HK hl5 hkl hk hKs hXs
      generalize wr = X1 at *
      obtain ⟨k0, k1, k2, k3, k4, k5⟩ := cs6 Bk.out
      go_wp2
      clear k0 k1 k2 k3 k4 k5 hlt
      go_loopw [6] (fun vi wr => ∃ (k : Nat) (vss : List (List Value)) (H : Nat → Nat → Nat) (v : Value), k ≤ l3 ∧ vi = .int .i64 k ∧ Hid (KeptS (Cps b3 X1) X1 wr) ∧ Hid (wr.ownsRow X1.heap.size 106 8 v k vss.flatten) ∧ Hid (VRecs wr (fun k => X1.heap.size ≤ k) 8 ((c.vs.take k).map vdF) vss H) ∧ Hid (wr.heap[b3]? = some (.cells #[.slice p1 l1 q1, .slice p2 l2 q2, v, .slice p4 l4 q4, .slice none 0 0, .int .i64 c.now] 36 (0, 0)))) (fun vi _ => l3 - (intOf vi).toNat)
      case atStart => exact ⟨0, [], fun _ _ => 0, .slice none 0 0, by omega, rfl, KeptS.refl _ _, World.ownsRow_nil _ _ _ _, VRecs.nil _ _ _ _, BoX⟩
      case round =>
        obtain ⟨k, vss, H, v, hk, rfl, HK, HO, HV, Bo⟩ := hrel
        have hXs := HBX.out.size
        have HBW := hidK (HBX.out.trans (HK.out.low (X := w.heap.size) hXs (fun k s => by rcases s with rfl | s <;> omega)))
        have BkR := hidK ((HK.out.block w.heap.size (by omega) (fun s => by rcases s with s | s <;> omega)).trans Bk.out)
        have hKs := HK.out.size
        by_cases hlt : k < l3
        · obtain ⟨b, o, x, rfl, hb0, hx, hat⟩ := vd_at HR.out.v hlt
          obtain ⟨va, vl, vc, hvr, z0, z2, z3, z5, c0, c1, c2, c3, c4, c5, c6, c7⟩ := vd_cells hat
          have hz8 : vl ≤ 8001 := by have h1 := hvr.1; have h2 := HS.out.vs k x hx; omega
          have HX := hidK hx
          have HT := hidK hvr
          have HZz0 := hidK z0
          have HZz2 := hidK z2
          have HZz3 := hidK z3
          have HZz5 := hidK z5
          clear hat hx hvr z0 z2 z3 z5
          replace c0 := (cell_below HBW.out hb0).trans c0
          replace c1 := (cell_below HBW.out hb0).trans c1
          replace c2 := (cell_below HBW.out hb0).trans c2
          replace c3 := (cell_below HBW.out hb0).trans c3
          replace c4 := (cell_below HBW.out hb0).trans c4
          replace c5 := (cell_below HBW.out hb0).trans c5
          replace c6 := (cell_below HBW.out hb0).trans c6
          replace c7 := (cell_below HBW.out hb0).trans c7
          have hbr : b < wr.heap.size := Nat.lt_of_lt_of_le hb0 HBW.out.size
          have hkr := lt_of_some BkR.out
          have hor := lt_of_some Bo.out
          have hz : i3.zero = some (.agg #[.string ⟨#[]⟩, .int .i64 0, .string ⟨#[]⟩, .string ⟨#[]⟩, .bool false, .string ⟨#[]⟩, .bool false, .slice none 0 0]) ∧ i3.size = 8 ∧ i3.bytes = 112 := by have := HI3.out.2; simp only [Prod.mk.injEq] at this; exact this
          obtain ⟨k0, k1, k2, k3, k4, k5⟩ := cs6 BkR.out
          have hvb : ∀ g, v.ownBlock = some g → g < wr.heap.size := fun g hg => (HO.out.lt g hg).2
          have hb0w : b < w.heap.size := hb0
          go_wp2_with fail
          clear k0 k1 k2 k3 k4 k5
          rename_i K0 hK0
          refine Gi.wp_region_grow_last (R := Rv v.ownBlock 59) (ex := fun _ => none) (Rv.rel _ _) (by kernel_rfl) rfl rfl (by kernel_rfl) (by kernel_rfl) ?_
          refine' Gi.Grow.stepC _ rfl ?_ ?_
          rotate_left 1
          · refine Gi.Obl.plain rfl ?_
            intro ac wg K lo hi hsz hW hpr hf hap hK; clear hsz hap hpr
            have hW : wr.grownBy wg v.ownBlock := hW
            have e3 := hf 3 (by decide)
            simp [Gi.slotFact, List.lookup] at e3
            clear hf
            go_simp
            refine hK _ _ (Rv.other (by decide) (Below.refl _ _)) ?_
            with_reducible rfl
          refine' Gi.Grow.stepC _ rfl ?_ ?_
          rotate_left 1
          · refine Gi.Obl.plain rfl ?_
            intro ac wg K lo hi hsz hW hpr hf hap hK; clear hsz hap hpr
            have hW : wr.grownBy wg v.ownBlock := hW
            have e50 := hf 50 (by decide)
            simp [Gi.slotFact, List.lookup] at e50
            clear hf
            obtain ⟨o0, o1, o2, o3, o4, o5⟩ := cs6 ((hW.block b3 hor (fun e => by have := (HO.out.lt _ e.symm).1; omega)).trans Bo.out)
            go_simp
            refine hK _ _ (Rv.other (by decide) (Below.refl _ _)) ?_
            with_reducible rfl
          refine' Gi.Grow.stepC _ rfl ?_ ?_
          rotate_left 1
          · refine Gi.Obl.plain rfl ?_
            intro ac wg K lo hi hsz hW hpr hf hap hK; clear hsz hap hpr
            have hW : wr.grownBy wg v.ownBlock := hW
            have e1 := hf 1 (by decide)
            simp [Gi.slotFact, List.lookup] at e1
            clear hf
            go_simp
            refine hK _ _ (Rv.other (by decide) (Below.refl _ _)) ?_
            with_reducible rfl
          refine' Gi.Grow.stepC _ rfl ?_ ?_
          rotate_left 1
          · refine Gi.Obl.plain rfl ?_
            intro ac wg K lo hi hsz hW hpr hf hap hK; clear hsz hap hpr
            have hW : wr.grownBy wg v.ownBlock := hW
            have e52 := hf 52 (by decide)
            simp [Gi.slotFact, List.lookup] at e52
            clear hf
            obtain ⟨k0, k1, k2, k3, k4, k5⟩ := cs6 ((hW.block w.heap.size hkr (fun e => by have := (HO.out.lt _ e.symm).1; omega)).trans BkR.out)
            go_simp
            refine hK _ _ (Rv.other (by decide) (Below.refl _ _)) ?_
            with_reducible rfl
          refine' Gi.Grow.stepC _ rfl ?_ ?_
          rotate_left 1
          · refine Gi.Obl.plain rfl ?_
            intro ac wg K lo hi hsz hW hpr hf hap hK; clear hsz hap hpr
            have hW : wr.grownBy wg v.ownBlock := hW
            have e6 := hf 6 (by decide)
            simp [Gi.slotFact, List.lookup] at e6
            clear hf
            go_simp
            refine hK _ _ (Rv.other (by decide) (Below.refl _ _)) ?_
            with_reducible rfl
          refine' Gi.Grow.stepC _ rfl ?_ ?_
          rotate_left 1
          · refine Gi.Obl.plain rfl ?_
            intro ac wg K lo hi hsz hW hpr hf hap hK; clear hsz hap hpr
            have hW : wr.grownBy wg v.ownBlock := hW
            have e53 := hf 53 (by decide)
            simp [Gi.slotFact, List.lookup] at e53
            have e54 := hf 54 (by decide)
            simp [Gi.slotFact, List.lookup] at e54
            clear hf
            go_simp
            refine hK _ _ (Rv.other (by decide) (Below.refl _ _)) ?_
            with_reducible rfl
          refine' Gi.Grow.stepC _ rfl ?_ ?_
          rotate_left 1
          · refine Gi.Obl.plain rfl ?_
            intro ac wg K lo hi hsz hW hpr hf hap hK; clear hsz hap hpr
            have hW : wr.grownBy wg v.ownBlock := hW
            have e55 := hf 55 (by decide)
            simp [Gi.slotFact, List.lookup] at e55
            clear hf
            have c0g := (World.cell?_of_block (hW.block b hbr (fun e => by have := (HO.out.lt _ e.symm).1; omega))).trans c0
            have c1g := (World.cell?_of_block (hW.block b hbr (fun e => by have := (HO.out.lt _ e.symm).1; omega))).trans c1
            have c2g := (World.cell?_of_block (hW.block b hbr (fun e => by have := (HO.out.lt _ e.symm).1; omega))).trans c2
            have c3g := (World.cell?_of_block (hW.block b hbr (fun e => by have := (HO.out.lt _ e.symm).1; omega))).trans c3
            have c4g := (World.cell?_of_block (hW.block b hbr (fun e => by have := (HO.out.lt _ e.symm).1; omega))).trans c4
            have c5g := (World.cell?_of_block (hW.block b hbr (fun e => by have := (HO.out.lt _ e.symm).1; omega))).trans c5
            have c6g := (World.cell?_of_block (hW.block b hbr (fun e => by have := (HO.out.lt _ e.symm).1; omega))).trans c6
            have c7g := (World.cell?_of_block (hW.block b hbr (fun e => by have := (HO.out.lt _ e.symm).1; omega))).trans c7
            go_simp
            refine hK _ _ (Rv.other (by decide) (Below.refl _ _)) ?_
            with_reducible rfl
          refine Gi.Grow.step (TvF wr.heap.size x) rfl (TvF.mono hvb) ?_ ?_
          · refine Gi.Obl.plain rfl ?_
            intro ac wg K lo hi hsz hW hpr hf hap hK; clear hsz hap hpr
            have hW : wr.grownBy wg v.ownBlock := hW
            have e56 := hf 56 (by decide)
            simp [Gi.slotFact, List.lookup] at e56
            clear hf
            have hBg := HBW.out.grown hW HBW.out.size (fun g hg => by have := (HO.out.lt g hg).1; omega)
            go_simp
            refine (Ap.scopy_any x.n x.c x.z x.k x.x x.m x.y va vl vc x.zs _ (HT.out.below hBg) hz8).mono ?_
            rintro e w6 ⟨a', l', c', rfl, ho1, ho2, hb6⟩
            have hws := hW.size
            exact hK _ _ (Rv.other (by decide) hb6) ⟨a', l', c', rfl, TOwn.into ⟨ho1, ho2⟩ (fun k _ s => Nat.le_trans hws s)⟩
          refine Gi.Grow.step (BsF wr.heap.size x) rfl (BsF.mono hvb) ?_ ?_
          · refine Gi.Obl.plain rfl ?_
            intro ac wg K lo hi hsz hW hpr hf hap hK; clear hsz hap hpr
            have hW : wr.grownBy wg v.ownBlock := hW
            have e57 := hf 57 (by decide)
            simp [Gi.slotFact, List.lookup] at e57
            clear hf
            obtain ⟨a', l', c', e57, ho⟩ := e57
            have HO7 := hidK ho
            clear ho
            go_simp
            exact hK _ _ (Rv.other (by decide) (below1 _ _)) ⟨_, a', l', c', rfl, hW.size, Array.getElem?_push_size, HO7.out.below (below1 _ _)⟩
          refine Gi.Grow.step (ApF X1.heap.size k ((c.vs.take (k + 1)).map vdF) vss) rfl (ApF.mono) ?_ ?_
          · refine Gi.Obl.plain rfl ?_
            intro ac wg K lo hi hsz hW hpr hf hap hK; clear hsz hap
            have hW : wr.grownBy wg v.ownBlock := hW
            have e51 := hf 51 (by decide)
            simp [Gi.slotFact, List.lookup] at e51
            have e58 := hf 58 (by decide)
            simp [Gi.slotFact, List.lookup] at e58
            clear hf
            have hbW : Below wr.heap.size wr wg := hpr rfl
            clear hpr
            obtain ⟨b5, a', l', c', e58, hb5, hg5, ho5⟩ := e58
            obtain ⟨g, hg⟩ := ho5.fr
            have hws := hW.size
            refine wp_append_own wg (.tmp 51) (.tmp 58) 32 rfl X1.heap.size 106 i3 (.agg #[.string ⟨#[]⟩, .int .i64 0, .string ⟨#[]⟩, .string ⟨#[]⟩, .bool false, .string ⟨#[]⟩, .bool false, .slice none 0 0]) 8 112 Tryz.underlying32 HI3.out.1 hz.1 hz.2.1 hz.2.2 rfl (by decide) v k vss.flatten (by simpa [Act.eval] using e51) (owns_below HO.out hbW) ⟨b5, 0, none⟩ 1 1 [.string x.n, .int .i64 x.c, .string x.z, .string x.k, .bool x.x, .string x.m, .bool x.y, .slice a' l' c'] (by simpa [Act.eval] using e58) rfl (news_blk hg5) (by intro u hu; simp only [List.mem_cons, List.not_mem_nil, or_false] at hu; rcases hu with rfl | rfl | rfl | rfl | rfl | rfl | rfl | rfl <;> rfl) (by unfold maxLen; have := HS.out.v; omega) (by have := HS.out.v; omega) (by omega) ?_
            intro v' w' hown hgr _
            have hV := HV.out.app (r := vdF x) (vs := [.string x.n, .int .i64 x.c, .string x.z, .string x.k, .bool x.x, .string x.m, .bool x.y, .slice a' l' c']) (hh := g) hbW (owns_below HO.out hbW) (by decide) hgr rfl rfl (vd_fr HZz0.out HZz2.out HZz3.out HZz5.out (hg.keep (S' := fun k => X1.heap.size ≤ k) (fun cu _ q => rfl) (fun _ s => by have s1 : wr.heap.size ≤ g := s; show X1.heap.size ≤ g; omega))) (fun i zs hi hz => by obtain ⟨_, rfl⟩ := vd_l hi; exact (hg.lt hz).1) (fun i i' zs zs' h1 _ h2 _ => (vd_l h1).1.trans (vd_l h2).1.symm)
            have e1 : (c.vs.take (k + 1)).map vdF = (c.vs.take k).map vdF ++ [vdF x] := by rw [List.take_add_one, HX.out]; simp
            rw [← e1] at hV
            exact hK _ _ (Rv.this hgr) ⟨_, [.string x.n, .int .i64 x.c, .string x.z, .string x.k, .bool x.x, .string x.m, .bool x.y, .slice a' l' c'], by rw [List.flatten_append]; simpa using hown, hV⟩
          refine' Gi.Grow.stepC _ rfl ?_ ?_
          rotate_left 1
          · refine Gi.Obl.plain rfl ?_
            intro ac wg K lo hi hsz hW hpr hf hap hK; clear hsz hap hpr
            have hW : wr.grownBy wg v.ownBlock := hW
            have e3 := hf 3 (by decide)
            simp [Gi.slotFact, List.lookup] at e3
            clear hf
            go_simp
            refine hK _ _ (Rv.other (by decide) (Below.refl _ _)) ?_
            with_reducible rfl
          refine Gi.Grow.done ?_
          intro q wz lo hi hW hf hap
          clear hap
          have hW : wr.grownBy wz v.ownBlock := hW
          simp only [List.forall_mem_cons] at hf
          obtain ⟨h60, h59, -⟩ := hf
          have h60 := h60 (by first | trivial | rfl)
          obtain ⟨H', vs', hs2, hs3⟩ := h59 (by first | trivial | rfl)
          obtain ⟨v', hv'⟩ : ∃ v', q 59 = v' := ⟨_, rfl⟩
          rw [hv'] at hs2
          obtain ⟨v1', v2', v3', rfl⟩ := owns_slice hs2
          have bo5 := (hW.block b3 hor (fun e => by have := (HO.out.lt _ e.symm).1; omega)).trans Bo.out
          have HS1 := hidK (((HK.out.trans (KeptS.of_grown hW (fun g e => .inr (HO.out.lt g e).1))).set (i := 2) (v := .slice v1' v2' v3') (.inl rfl)))
          have HS2 := hidK (owns_set (i := 2) (u := .slice v1' v2' v3') hs2 bo5 (by decide))
          have HS3 := hidK (hs3.set (i := 2) (u := .slice v1' v2' v3') bo5 (by decide))
          have HS4 := hidK (block_set (i := 2) bo5 (.slice v1' v2' v3'))
          obtain ⟨o0, o1, o2, o3, o4, o5⟩ := cs6 bo5
          have fo0 := froK bo5 0
          have fo1 := froK bo5 1
          have fo2 := froK bo5 2
          have fo3 := froK bo5 3
          have fo4 := froK bo5 4
          have fo5 := froK bo5 5
          clear bo5 hs2 hs3 hW c0 c1 c2 c3 c4 c5 c6 c7
          intro K hK
          rw [if_pos (by rfl)]
          simp only [Gi.putsAll, List.foldr, Act.put, List.setIfInBounds_toArray, List.set_cons_zero, List.set_cons_succ, h60, hv']
          simp only [List.getLast]
          go_simp
          refine hK _ _ ?_
          refine hK0 _ _ ?_
          clear hK hK0 K K0
          go_wp2
          exact ⟨⟨k + 1, _, H', _, by omega, by go_num, HS1, HS2, HS3, HS4⟩, by simp [intOf]; omega⟩
        · have hkl : k = l3 := by omega
          have h5 := HV.out
          rw [List.take_of_length_le (by omega)] at h5
          obtain ⟨p3, q3, hv, hR⟩ := h5.own HO.out (by simp; omega) (by decide) (fun g hg => (HO.out.lt g hg).1)
          have hl5 : (c.vs.map vdF).length = l3 := by simpa using hl3
          rw [hl5] at hv hR
          subst hv
          have R3 := hidK (hR.away Bo.out (by decide) (by decide))
          replace R2 := hidK (R2.out.keep (fun k hk s => HK.out.block k hk (fun q9 => by rcases q9 with q9 | q9; exact s.2 q9; omega)) (fun _ _ s => s))
          replace R4 := hidK (R4.out.keep (fun k hk s => HK.out.block k hk (fun q9 => by rcases q9 with q9 | q9; exact s.2 q9; omega)) (fun _ _ s => s))
          replace R1 := hidK (R1.out.keep (fun k hk s => HK.out.block k hk (fun q9 => by rcases q9 with q9 | q9; exact s.2 q9; omega)) (fun _ _ s => s))
          replace Br := hidK ((HK.out.block (w.heap.size + 1) (by omega) (fun s => by rcases s with s | s <;> omega)).trans Br.out)
          replace Bk := BkR
          replace BoX := Bo
          replace HBX := HBW
          have hb3X2 : b3 < wr.heap.size := lt_of_some BoX.out
          clear BkR Bo HBW h5 hR HV HO HK hl5 hkl hk hKs hXs
          generalize wr = X2 at *
          obtain ⟨k0, k1, k2, k3, k4, k5⟩ := cs6 Bk.out
          go_wp2
          clear k0 k1 k2 k3 k4 k5 hlt
          go_loopw [7] (fun vi wr => ∃ (k : Nat) (vss : List (List Value)) (H : Nat → Nat → Nat) (v : Value), k ≤ l5 ∧ vi = .int .i64 k ∧ Hid (KeptS (Cps b3 X2) X2 wr) ∧ Hid (wr.ownsRow X2.heap.size 69 6 v k vss.flatten) ∧ Hid (VRecs wr (fun k => X2.heap.size ≤ k) 6 ((c.ps.take k).map pdF) vss H) ∧ Hid (wr.heap[b3]? = some (.cells #[.slice p1 l1 q1, .slice p2 l2 q2, .slice p3 l3 q3, .slice p4 l4 q4, v, .int .i64 c.now] 36 (0, 0)))) (fun vi _ => l5 - (intOf vi).toNat)
          case atStart => exact ⟨0, [], fun _ _ => 0, .slice none 0 0, by omega, rfl, KeptS.refl _ _, World.ownsRow_nil _ _ _ _, VRecs.nil _ _ _ _, BoX⟩
          case round =>
            obtain ⟨k, vss, H, v, hk, rfl, HK, HO, HV, Bo⟩ := hrel
            have hXs := HBX.out.size
            have HBW := hidK (HBX.out.trans (HK.out.low (X := w.heap.size) hXs (fun k s => by rcases s with rfl | s <;> omega)))
            have BkR := hidK ((HK.out.block w.heap.size (by omega) (fun s => by rcases s with s | s <;> omega)).trans Bk.out)
            have hKs := HK.out.size
            by_cases hlt : k < l5
            · obtain ⟨b, o, x, rfl, hb0, hx, hat⟩ := pd_at HR.out.p hlt
              obtain ⟨va, vl, vc, hvr, z0, z2, z4, c0, c1, c2, c3, c4, c5⟩ := pd_cells hat
              have hz8 : vl ≤ 8001 := by have h1 := hvr.1; have h2 := HS.out.ps k x hx; omega
              have HX := hidK hx
              have HT := hidK hvr
              have HZz0 := hidK z0
              have HZz2 := hidK z2
              have HZz4 := hidK z4
              clear hat hx hvr z0 z2 z4
              replace c0 := (cell_below HBW.out hb0).trans c0
              replace c1 := (cell_below HBW.out hb0).trans c1
              replace c2 := (cell_below HBW.out hb0).trans c2
              replace c3 := (cell_below HBW.out hb0).trans c3
              replace c4 := (cell_below HBW.out hb0).trans c4
              replace c5 := (cell_below HBW.out hb0).trans c5
              have hbr : b < wr.heap.size := Nat.lt_of_lt_of_le hb0 HBW.out.size
              have hkr := lt_of_some BkR.out
              have hor := lt_of_some Bo.out
              have hz : i5.zero = some (.agg #[.string ⟨#[]⟩, .int .i64 0, .string ⟨#[]⟩, .slice none 0 0, .string ⟨#[]⟩, .int .i64 0]) ∧ i5.size = 6 ∧ i5.bytes = 88 := by have := HI5.out.2; simp only [Prod.mk.injEq] at this; exact this
              obtain ⟨k0, k1, k2, k3, k4, k5⟩ := cs6 BkR.out
              go_wp2_with (first | (at_builtin; refine wpList_texts rfl _ _ rfl (wr.heap.size + 1) rfl (heap2_1 _ _ _) va vl vc rfl x.zs (HT.out.below (HBW.out.trans ((below2 _ _ _).mono HBW.out.size))) hz8 ?_))
              intro a' l' c' w2 hT2 hb2
              obtain ⟨hn2, -, hbx⟩ := slots2n hb2
              obtain ⟨g, hg⟩ := hT2.fr
              have hs2 : wr.heap.size + 1 < w2.heap.size := by have := hb2.size; simp at this; omega
              have hsl : ∀ k, (k = wr.heap.size + 1 ∨ wr.heap.size + 1 + 1 ≤ k) → wr.heap.size + 1 ≤ k := fun k s => by omega
              have hb4 : Below wr.heap.size wr ((w2.setCell ⟨wr.heap.size, 3, none⟩ (.slice a' l' c')).alloc (.cells #[.string x.n, .int .i64 x.c, .string x.z, .slice a' l' c', .string x.d, .int .i64 x.p] 69)) := (set_below (Nat.le_refl _) hbx).alloc (by simp [World.setCell]; omega) _
              have HF4 : Hid (LFr ((w2.setCell ⟨wr.heap.size, 3, none⟩ (.slice a' l' c')).alloc (.cells #[.string x.n, .int .i64 x.c, .string x.z, .slice a' l' c', .string x.d, .int .i64 x.p] 69)) g (fun k => X2.heap.size ≤ k) x.zs (.slice a' l' c')) := hg.keep (fun cu _ q => (Below.heap_alloc _ _ _ (by simp [World.setCell]; exact lt_of_some q)).trans (Below.heap_setCell _ _ _ _ (fun e => by subst e; rw [hn2] at q; cases q))) (fun _ s => by have := hsl _ s; show X2.heap.size ≤ g; omega)
              have HG : Hid (∀ zs : List ByteArray, x.zs = zs → zs ≠ [] → wr.heap.size ≤ g) := fun zs e hz => by subst e; have := hsl _ (hg.lt hz).1; omega
              have HB4 := hidK hb4
              have HO4 := hidK (owns_below HO.out hb4)
              obtain ⟨n0, n1, n2, n3, n4, n5⟩ := cs6 hn2
              have fn0 := froK hn2 0
              have fn1 := froK hn2 1
              have fn2 := froK hn2 2
              have fn3 := froK hn2 3
              have fn4 := froK hn2 4
              have fn5 := froK hn2 5
              have bo2 := (hbx.block _ hor).trans Bo.out
              obtain ⟨o0, o1, o2, o3, o4, o5⟩ := cs6 bo2
              have hor2 : b3 < w2.heap.size := lt_of_some bo2
              have hne3 : ¬ b3 = wr.heap.size := by omega
              clear hn2 hbx hT2 hg hb2 hsl hb4 bo2 k0 k1 k2 k3 k4 k5 c0 c1 c2 c3 c4 c5
              go_wp2_with (first | (at_builtin; refine wpList_append_own _ rfl _ _ 34 rfl X2.heap.size 69 i5 (.agg #[.string ⟨#[]⟩, .int .i64 0, .string ⟨#[]⟩, .slice none 0 0, .string ⟨#[]⟩, .int .i64 0]) 6 88 Tryz.underlying34 HI5.out.1 hz.1 hz.2.1 hz.2.2 rfl (by decide) _ _ _ rfl HO4.out ⟨w2.heap.size, 0, none⟩ 1 1 [.string x.n, .int .i64 x.c, .string x.z, .slice a' l' c', .string x.d, .int .i64 x.p] rfl rfl ?c1 ?c2 ?c3 ?c4 ?c5 ?_))
              case c1 => exact news_alloc_at _ _ (by simp [World.setCell]) _ _
              case c2 => intro u hu; simp only [List.mem_cons, List.not_mem_nil, or_false] at hu; rcases hu with rfl | rfl | rfl | rfl | rfl | rfl <;> rfl
              case c3 => unfold maxLen; have := HS.out.p; omega
              case c4 => have := HS.out.p; omega
              case c5 => simp [World.setCell]; omega
              rintro v' w5 hown5 hgrow -
              obtain ⟨v1', v2', v3', rfl⟩ := owns_slice hown5
              clear n0 fn0 n1 fn1 n2 fn2 n3 fn3 n4 fn4 n5 fn5 o0 o1 o2 o3 o4 o5
              have bo5 := cp_blk HO.out Bo.out hb3X2 HB4.out hgrow
              obtain ⟨hs1, hs2', ⟨H', hs3⟩, hs4⟩ := cp_step (f := 4) (r := pdF x) (vs := [.string x.n, .int .i64 x.c, .string x.z, .slice a' l' c', .string x.d, .int .i64 x.p]) (hh := g) HK.out HO.out HV.out Bo.out hb3X2 HB4.out hown5 hgrow (by decide) (by decide) (by decide) rfl rfl (pd_fr HZz0.out HZz2.out HZz4.out HF4.out) (fun i zs hi hz => HG.out zs (pd_l hi).2.symm hz) (fun i i' zs zs' h1 _ h2 _ => (pd_l h1).1.trans (pd_l h2).1.symm)
              have e1 : (c.ps.take (k + 1)).map pdF = (c.ps.take k).map pdF ++ [pdF x] := by rw [List.take_add_one, HX.out]; simp
              rw [← e1] at hs3
              have HS1 := hidK hs1
              have HS2 := hidK hs2'
              have HS3 := hidK hs3
              have HS4 := hidK hs4
              obtain ⟨o0, o1, o2, o3, o4, o5⟩ := cs6 bo5
              have fo0 := froK bo5 0
              have fo1 := froK bo5 1
              have fo2 := froK bo5 2
              have fo3 := froK bo5 3
              have fo4 := froK bo5 4
              have fo5 := froK bo5 5
              clear hs1 hs2' hs3 hs4 bo5 hown5 hgrow e1
              go_wp2
              exact ⟨⟨k + 1, _, H', _, by omega, by go_num, HS1, HS2, HS3, HS4⟩, by simp [intOf]; omega⟩
            · have hkl : k = l5 := by omega
              have h5 := HV.out
              rw [List.take_of_length_le (by omega)] at h5
              obtain ⟨p5, q5, hv, hR⟩ := h5.own HO.out (by simp; omega) (by decide) (fun g hg => (HO.out.lt g hg).1)
              have hl5 : (c.ps.map pdF).length = l5 := by simpa using hl5
              rw [hl5] at hv hR
              subst hv
              have R5 := hidK (hR.away Bo.out (by decide) (by decide))
              replace R2 := hidK (R2.out.keep (fun k hk s => HK.out.block k hk (fun q9 => by rcases q9 with q9 | q9; exact s.2 q9; omega)) (fun _ _ s => s))
              replace R4 := hidK (R4.out.keep (fun k hk s => HK.out.block k hk (fun q9 => by rcases q9 with q9 | q9; exact s.2 q9; omega)) (fun _ _ s => s))
              replace R1 := hidK (R1.out.keep (fun k hk s => HK.out.block k hk (fun q9 => by rcases q9 with q9 | q9; exact s.2 q9; omega)) (fun _ _ s => s))
              replace R3 := hidK (R3.out.keep (fun k hk s => HK.out.block k hk (fun q9 => by rcases q9 with q9 | q9; exact s.2 q9; omega)) (fun _ _ s => s))
              replace Br := hidK ((HK.out.block (w.heap.size + 1) (by omega) (fun s => by rcases s with s | s <;> omega)).trans Br.out)
              replace Bk := BkR
              replace BoX := Bo
              replace HBX := HBW
              have hb3X3 : b3 < wr.heap.size := lt_of_some BoX.out
              clear BkR Bo HBW h5 hR HV HO HK hl5 hkl hk hKs hXs
              generalize wr = X3 at *
              obtain ⟨k0, k1, k2, k3, k4, k5⟩ := cs6 Bk.out
              obtain ⟨o0, o1, o2, o3, o4, o5⟩ := cs6 BoX.out
              obtain ⟨r0, r1, r2, r3, r4, r5⟩ := cs6 Br.out
              have hXs := HBX.out.size
              have fr0 := froK Br.out 0
              have fr1 := froK Br.out 1
              have fr2 := froK Br.out 2
              have fr3 := froK Br.out 3
              have fr4 := froK Br.out 4
              have fr5 := froK Br.out 5
              go_wp2
              refine bodyPost_ret (v := .agg #[.slice p1 l1 q1, .slice p2 l2 q2, .slice p3 l3 q3, .slice p4 l4 q4, .slice p5 l5 q5, .int .i64 c.now]) (by simp [results, Tryz.results24, go_sem, *]) rfl ⟨⟨p1, l1, q1, p2, l2, q2, p3, l3, q3, p4, l4, q4, p5, l5, q5⟩, rfl, ⟨?_, ?_, ?_, ?_, ?_⟩, set_below (show w.heap.size ≤ w.heap.size + 1 by omega) (set_below (show w.heap.size ≤ w.heap.size + 1 by omega) (set_below (show w.heap.size ≤ w.heap.size + 1 by omega) (set_below (show w.heap.size ≤ w.heap.size + 1 by omega) (set_below (show w.heap.size ≤ w.heap.size + 1 by omega) (set_below (show w.heap.size ≤ w.heap.size + 1 by omega) (HBX.out))))))⟩
              · exact (R1.out.keep (S' := fun k => w.heap.size ≤ k) (fun k hk s => put6_ne (by have s1 : X.heap.size ≤ k := s.1; omega)) (fun k _ s => by have s1 : X.heap.size ≤ k := s.1; show w.heap.size ≤ k; omega))
              · exact (R2.out.keep (S' := fun k => w.heap.size ≤ k) (fun k hk s => put6_ne (by have s1 : W.heap.size ≤ k := s.1; omega)) (fun k _ s => by have s1 : W.heap.size ≤ k := s.1; show w.heap.size ≤ k; omega))
              · exact (R3.out.keep (S' := fun k => w.heap.size ≤ k) (fun k hk s => put6_ne (by have s1 : X1.heap.size ≤ k := s.1; omega)) (fun k _ s => by have s1 : X1.heap.size ≤ k := s.1; show w.heap.size ≤ k; omega))
              · exact (R4.out.keep (S' := fun k => w.heap.size ≤ k) (fun k hk s => put6_ne (by have s1 : W.heap.size ≤ k := s.1; omega)) (fun k _ s => by have s1 : W.heap.size ≤ k := s.1; show w.heap.size ≤ k; omega))
              · exact (R5.out.keep (S' := fun k => w.heap.size ≤ k) (fun k hk s => put6_ne (by have s1 : X2.heap.size ≤ k := s.1; omega)) (fun k _ s => by have s1 : X2.heap.size ≤ k := s.1; show w.heap.size ≤ k; omega))

theorem take_flat {m : Nat} {vss : List (List Value)} (hl : ∀ (j : Nat) vs, vss[j]? = some vs → vs.length = m) {k : Nat} (hk : k ≤ vss.length) : (vss.take k).flatten.length = k * m := by
  rw [flat_len (m := m) (fun j vs h => ?_), List.length_take, Nat.min_eq_left hk]
  rw [List.getElem?_take] at h
  split at h
  · exact hl j vs h
  · cases h
theorem drop_flat {m : Nat} {vss : List (List Value)} (hl : ∀ (j : Nat) vs, vss[j]? = some vs → vs.length = m) {k : Nat} : (vss.drop k).flatten.length = (vss.length - k) * m := by
  rw [flat_len (m := m) (fun j vs h => ?_), List.length_drop]
  rw [List.getElem?_drop] at h
  exact hl _ vs h
theorem take_at {vss : List (List Value)} {k i : Nat} {u : Value} (h : (vss.take k).flatten[i]? = some u) : vss.flatten[i]? = some u := by
  have h1 : vss.flatten = (vss.take k).flatten ++ (vss.drop k).flatten := by rw [← List.flatten_append, List.take_append_drop]
  rw [h1, List.getElem?_append_left (List.getElem?_eq_some_iff.1 h).1]
  exact h
theorem drop_at {m : Nat} {vss : List (List Value)} (hl : ∀ (j : Nat) vs, vss[j]? = some vs → vs.length = m) {k i : Nat} {u : Value} (hk : k ≤ vss.length) (h : (vss.drop k).flatten[i]? = some u) : vss.flatten[k * m + i]? = some u := by
  have h1 : vss.flatten = (vss.take k).flatten ++ (vss.drop k).flatten := by rw [← List.flatten_append, List.take_append_drop]
  rw [h1, List.getElem?_append_right (by rw [take_flat hl hk]; omega), take_flat hl hk, Nat.add_sub_cancel_left]
  exact h
theorem mem_take_one {P : Value → Prop} {vss : List (List Value)} (h : ∀ u ∈ vss.flatten, P u) (k : Nat) : (∀ u ∈ (vss.take k).flatten, P u) ∧ ∀ u ∈ (vss.drop k).flatten, P u := by
  have h1 : vss.flatten = (vss.take k).flatten ++ (vss.drop k).flatten := by rw [← List.flatten_append, List.take_append_drop]
  exact ⟨fun u hu => h u (by rw [h1]; exact List.mem_append_left _ hu), fun u hu => h u (by rw [h1]; exact List.mem_append_right _ hu)⟩

set_option maxRecDepth 100000 in
set_option maxHeartbeats 3200000 in
theorem sill_any (p : Int) (w : World) :
    Calls Tryz.prog 22 #[.int .i64 p] w fun e w' => e = .returned (.agg #[.slice none 0 0, .slice none 0 0, .slice none 0 0, .slice none 0 0, .slice none 0 0, .int .i64 0, .string ⟨#[]⟩, .int .i64 p]) ∧ Below w.heap.size w w' := by
  go_enter Tryz.func22, Tryz.ntmps22
  go_wp2
  exact bodyPost_ret (v := .agg #[.slice none 0 0, .slice none 0 0, .slice none 0 0, .slice none 0 0, .slice none 0 0, .int .i64 0, .string ⟨#[]⟩, .int .i64 p]) (by simp [results, Tryz.results22, go_sem]) rfl ⟨rfl, below1 _ _⟩

theorem wo_erase {α : Type} {nm : α → ByteArray} {t : ByteArray} {xs : List α} {k : Nat} {x : α} (hr : RisBy nm xs) (hx : xs[k]? = some x) (hn : nm x = t) : wo nm t xs = xs.take k ++ xs.drop (k + 1) := by
  have hk : k < xs.length := (List.getElem?_eq_some_iff.1 hx).1
  have e : xs = xs.take k ++ x :: xs.drop (k + 1) := by
    have h1 : xs.drop k = x :: xs.drop (k + 1) := by rw [List.drop_eq_getElem_cons hk]; congr 1; exact (List.getElem?_eq_some_iff.1 hx).2
    rw [← h1, List.take_append_drop]
  have hno : ∀ (j : Nat) y, xs[j]? = some y → ¬ j = k → (!((nm y).toList == t.toList)) = true := fun j y hj hne => by
    have : ¬ nm y = t := fun q => hne (hr.inj hj hx (q.trans hn.symm)).1
    simp [tl_no this]
  have h1 : (xs.take k).filter (fun x => !((nm x).toList == t.toList)) = xs.take k := List.filter_eq_self.2 fun y hy => by
    obtain ⟨j, hj⟩ := List.getElem?_of_mem hy
    rw [List.getElem?_take] at hj
    split at hj
    · exact hno j y hj (by omega)
    · cases hj
  have h2 : (xs.drop (k + 1)).filter (fun x => !((nm x).toList == t.toList)) = xs.drop (k + 1) := List.filter_eq_self.2 fun y hy => by
    obtain ⟨j, hj⟩ := List.getElem?_of_mem hy
    rw [List.getElem?_drop] at hj
    exact hno _ y hj (by omega)
  unfold wo
  conv => lhs; rw [e]
  rw [List.filter_append, List.filter_cons, h1, h2, tl_yes hn]
  rfl
theorem Sel.erase {α β : Type} {xs : List α} {vss : List β} (hl : vss.length = xs.length) {k : Nat} (hk : k < xs.length) : Sel xs (xs.take k ++ xs.drop (k + 1)) vss (vss.take k ++ vss.drop (k + 1)) xs.length (fun j => if j < k then j else j + 1) := by
  have hat : ∀ {γ : Type} {l : List γ} (j : Nat), k < l.length → j < (l.take k ++ l.drop (k + 1)).length → (l.take k ++ l.drop (k + 1))[j]? = l[if j < k then j else j + 1]? := by
    intro γ l j hk hj
    have h1 : (l.take k).length = k := by rw [List.length_take]; omega
    by_cases e : j < k
    · rw [List.getElem?_append_left (by omega), List.getElem?_take, if_pos e, if_pos e]
    · rw [List.getElem?_append_right (by omega), List.getElem?_drop, if_neg e, h1]
      congr 1
      omega
  refine ⟨by simp [hl], fun j hj => hat j hk hj, fun j hj => hat j (by omega) (by simp [hl] at hj ⊢; omega), fun j hj => ?_, fun i j hi hj e => ?_⟩
  · have : (xs.take k ++ xs.drop (k + 1)).length = xs.length - 1 := by simp; omega
    split <;> omega
  · split at e <;> split at e <;> omega

set_option maxRecDepth 100000 in
set_option maxHeartbeats 12800000 in
theorem sdropP_any (d : Ad) (c : Cl) (t : ByteArray) (w : World) (hr : ClRow w d c.raw) :
    Calls Tryz.prog 6 #[.agg #[.slice d.a1 d.l1 d.c1, .slice d.a2 d.l2 d.c2, .slice d.a3 d.l3 d.c3, .slice d.a4 d.l4 d.c4, .slice d.a5 d.l5 d.c5, .int .i64 c.now], .string t] w (OutS (DropPodIs c t) w) := by
  obtain ⟨a1, l1, y1, a2, l2, y2, a3, l3, y3, a4, l4, y4, a5, l5, y5⟩ := d
  dsimp only
  have HR := hidK hr
  have hl1 : c.ns.length = l1 := by simpa using (show (c.ns.map ndF).length = l1 from hr.n.1)
  have hm1 : l1 ≤ 9223372036854775807 := Nat.le_trans hr.n.2.1 hr.n.2.2.1
  have hl2 : c.ks.length = l2 := by simpa using (show (c.ks.map kdF).length = l2 from hr.k.1)
  have hm2 : l2 ≤ 9223372036854775807 := Nat.le_trans hr.k.2.1 hr.k.2.2.1
  have hl3 : c.vs.length = l3 := by simpa using (show (c.vs.map vdF).length = l3 from hr.v.1)
  have hm3 : l3 ≤ 9223372036854775807 := Nat.le_trans hr.v.2.1 hr.v.2.2.1
  have hl4 : c.xs.length = l4 := by simpa using (show (c.xs.map xdF).length = l4 from hr.x.1)
  have hm4 : l4 ≤ 9223372036854775807 := Nat.le_trans hr.x.2.1 hr.x.2.2.1
  have hl5 : c.ps.length = l5 := by simpa using (show (c.ps.map pdF).length = l5 from hr.p.1)
  have hm5 : l5 ≤ 9223372036854775807 := Nat.le_trans hr.p.2.1 hr.p.2.2.1
  clear hr
  have HB := hidK (Below.refl w.heap.size w)
  go_enter Tryz.func6, Tryz.ntmps6
  go_wp2_with fail
  refine (sbeg_any ⟨a1, l1, y1, a2, l2, y2, a3, l3, y3, a4, l4, y4, a5, l5, y5⟩ c t _ (HR.out.below (HB.out.trans ((below2 _ _ _).mono HB.out.size)))).mono ?_
  rintro e w1 ⟨p, rfl, hp, hb⟩
  obtain ⟨HA0, HA1, hbx⟩ := slots2 hb
  have Bk := hidK HA0
  have Br := hidK HA1
  replace HB := upB HB hbx
  clear hb hbx HA0 HA1
  have hp0 : (¬ p = 0 ∧ DropPodIs c t (co0 p)) ∨ (p = 0 ∧ ¬ 8000 < t.size ∧ RightI c) := by
    rcases hp with ⟨h1, rfl⟩ | ⟨h1, h2, rfl⟩ | ⟨h1, h2, rfl⟩
    · exact .inl ⟨by decide, .inl ⟨0, h1, rfl⟩⟩
    · exact .inl ⟨by decide, .inl ⟨1, ⟨h1, h2⟩, rfl⟩⟩
    · exact .inr ⟨rfl, h1, h2⟩
  clear hp
  rcases hp0 with ⟨hp0, hV⟩ | ⟨rfl, hl, hT⟩
  · have HV := hidK hV
    clear hV
    have hp1 : (p == 0) = false := by simpa using hp0
    obtain ⟨k0, k1, k2, k3, k4, k5⟩ := cs6 Bk.out
    have ltk_1 := lt_of_some Bk.out
    go_wp2_with fail
    refine (sill_any p _).mono ?_
    rintro e w2 ⟨rfl, hb⟩
    clear k0 k1 k2 k3 k4 k5 ltk_1
    replace Bk := upK Bk hb
    replace Br := upK Br hb
    replace HB := upB HB hb
    clear hb
    obtain ⟨r0, r1, r2, r3, r4, r5, r6, r7⟩ := cs8 Br.out
    have ltr_2 := lt_of_some Br.out
    have fr0 : w2.frozen? ⟨w.heap.size + 1, 0, none⟩ = false := froK Br.out 0
    have fr1 : w2.frozen? ⟨w.heap.size + 1, 1, none⟩ = false := froK Br.out 1
    have fr2 : w2.frozen? ⟨w.heap.size + 1, 2, none⟩ = false := froK Br.out 2
    have fr3 : w2.frozen? ⟨w.heap.size + 1, 3, none⟩ = false := froK Br.out 3
    have fr4 : w2.frozen? ⟨w.heap.size + 1, 4, none⟩ = false := froK Br.out 4
    have fr5 : w2.frozen? ⟨w.heap.size + 1, 5, none⟩ = false := froK Br.out 5
    have fr6 : w2.frozen? ⟨w.heap.size + 1, 6, none⟩ = false := froK Br.out 6
    have fr7 : w2.frozen? ⟨w.heap.size + 1, 7, none⟩ = false := froK Br.out 7
    have hrl : w.heap.size + 1 < w2.heap.size := lt_of_some Br.out
    go_wp2
    exact bodyPost_ret (v := .agg #[.slice none 0 0, .slice none 0 0, .slice none 0 0, .slice none 0 0, .slice none 0 0, .int .i64 0, .string ⟨#[]⟩, .int .i64 p]) (by simp [results, Tryz.results6, go_sem, *]) rfl ⟨ad0, co0 p, rfl, HV.out, (own0 _ (fun _ => True)).row, set_below (show w.heap.size ≤ w.heap.size + 1 by omega) (set_below (show w.heap.size ≤ w.heap.size + 1 by omega) (set_below (show w.heap.size ≤ w.heap.size + 1 by omega) (set_below (show w.heap.size ≤ w.heap.size + 1 by omega) (set_below (show w.heap.size ≤ w.heap.size + 1 by omega) (set_below (show w.heap.size ≤ w.heap.size + 1 by omega) (set_below (show w.heap.size ≤ w.heap.size + 1 by omega) (set_below (show w.heap.size ≤ w.heap.size + 1 by omega) (HB.out))))))))⟩
  have HT := hidK hT
  clear hT
  obtain ⟨k0, k1, k2, k3, k4, k5⟩ := cs6 Bk.out
  have ltk_1 := lt_of_some Bk.out
  go_wp2_with fail
  refine (sxpd_any ⟨a1, l1, y1, a2, l2, y2, a3, l3, y3, a4, l4, y4, a5, l5, y5⟩ c.now c.ps t _ (HR.out.p.below HB.out)).mono ?_
  rintro e w2 ⟨hb, hf⟩
  clear k0 k1 k2 k3 k4 k5 ltk_1
  replace Bk := upK Bk hb
  replace Br := upK Br hb
  replace HB := upB HB hb
  clear hb
  rcases hf with ⟨i, x, hx, hn, rfl⟩ | ⟨hno, rfl⟩
  rotate_left
  · have HV : Hid (DropPodIs c t (co0 6)) := .inl ⟨2, ⟨hl, HT.out, rfl, hit_no hno⟩, rfl⟩
    clear hno
    obtain ⟨k0, k1, k2, k3, k4, k5⟩ := cs6 Bk.out
    have ltk_2 := lt_of_some Bk.out
    go_wp2_with fail
    refine (sill_any 6 _).mono ?_
    rintro e w3 ⟨rfl, hb⟩
    clear k0 k1 k2 k3 k4 k5 ltk_2
    replace Bk := upK Bk hb
    replace Br := upK Br hb
    replace HB := upB HB hb
    clear hb
    obtain ⟨r0, r1, r2, r3, r4, r5, r6, r7⟩ := cs8 Br.out
    have ltr_3 := lt_of_some Br.out
    have fr0 : w3.frozen? ⟨w.heap.size + 1, 0, none⟩ = false := froK Br.out 0
    have fr1 : w3.frozen? ⟨w.heap.size + 1, 1, none⟩ = false := froK Br.out 1
    have fr2 : w3.frozen? ⟨w.heap.size + 1, 2, none⟩ = false := froK Br.out 2
    have fr3 : w3.frozen? ⟨w.heap.size + 1, 3, none⟩ = false := froK Br.out 3
    have fr4 : w3.frozen? ⟨w.heap.size + 1, 4, none⟩ = false := froK Br.out 4
    have fr5 : w3.frozen? ⟨w.heap.size + 1, 5, none⟩ = false := froK Br.out 5
    have fr6 : w3.frozen? ⟨w.heap.size + 1, 6, none⟩ = false := froK Br.out 6
    have fr7 : w3.frozen? ⟨w.heap.size + 1, 7, none⟩ = false := froK Br.out 7
    have hrl : w.heap.size + 1 < w3.heap.size := lt_of_some Br.out
    go_wp2
    exact bodyPost_ret (v := .agg #[.slice none 0 0, .slice none 0 0, .slice none 0 0, .slice none 0 0, .slice none 0 0, .int .i64 0, .string ⟨#[]⟩, .int .i64 6]) (by simp [results, Tryz.results6, go_sem, *]) rfl ⟨ad0, co0 6, rfl, HV.out, (own0 _ (fun _ => True)).row, set_below (show w.heap.size ≤ w.heap.size + 1 by omega) (set_below (show w.heap.size ≤ w.heap.size + 1 by omega) (set_below (show w.heap.size ≤ w.heap.size + 1 by omega) (set_below (show w.heap.size ≤ w.heap.size + 1 by omega) (set_below (show w.heap.size ≤ w.heap.size + 1 by omega) (set_below (show w.heap.size ≤ w.heap.size + 1 by omega) (set_below (show w.heap.size ≤ w.heap.size + 1 by omega) (set_below (show w.heap.size ≤ w.heap.size + 1 by omega) (HB.out))))))))⟩
  have HQ20 : Hid (w.heap.size + 1 < w2.heap.size) := lt_of_some Br.out
  have hri := HT.out.2.1.2.2.2.2.2.2
  have HW := hidK (wo_erase hri hx hn)
  have HV : Hid (DropPodIs c t ⟨dropP c t, ⟨#[]⟩, 0⟩) := .inr ⟨hl, HT.out, (hit_at hri hx hn).2, rfl⟩
  have hi5 : i < l5 := by have := (List.getElem?_eq_some_iff.1 hx).1; omega
  have hi0 : ¬ (i : Int) < 0 := by omega
  have h58 : l5 ≤ 8 := by have := HT.out.sm.p; omega
  clear hx hn hri
  obtain ⟨k0, k1, k2, k3, k4, k5⟩ := cs6 Bk.out
  have ltk_2 := lt_of_some Bk.out
  go_wp2_with fail
  refine (scopyC_any ⟨a1, l1, y1, a2, l2, y2, a3, l3, y3, a4, l4, y4, a5, l5, y5⟩ c _ (HR.out.below HB.out) HT.out.sm).mono ?_
  rintro e w3 ⟨d', rfl, ho, hb⟩
  have HQ3 := hidK hb.size
  clear k0 k1 k2 k3 k4 k5 ltk_2
  replace Bk := upK Bk hb
  replace Br := upK Br hb
  replace HB := upB HB hb
  clear hb
  obtain ⟨x1, m1, n1, x2, m2, n2, x3, m3, n3, x4, m4, n4, x5, m5, n5⟩ := d'
  have HQ2 : Hid (w.heap.size + 1 < w2.heap.size) := HQ20.out
  have hm5 : m5 = l5 := by have h6 : (c.ps.map pdF).length = m5 := ho.p.1; rw [List.length_map] at h6; omega
  subst hm5
  have hmn : m5 ≤ n5 := ho.p.2.1
  have hmx : n5 ≤ 9223372036854775807 := ho.p.2.2.1
  obtain ⟨vss, H, hV, hcell⟩ := (ho.p.into (S' := fun k => w2.heap.size ≤ k ∧ k < w3.heap.size) (fun k hk s => ⟨s, hk⟩)).recs
  have hvl : vss.length = m5 := by have h6 : vss.length = (c.ps.map pdF).length := hV.len; rw [List.length_map] at h6; omega
  obtain ⟨b, hx5, hbS⟩ : ∃ b, x5 = some ⟨b, 0, none⟩ ∧ b < w3.heap.size := by
    have h1 : vss[i]? = some (vss[i]'(by omega)) := List.getElem?_eq_getElem _
    have h2 : 0 < (vss[i]'(by omega)).length := by rw [hV.all i _ h1]; decide
    obtain ⟨g, e, _, h3⟩ := hcell _ _ (flat_at hV.all h1 (List.getElem?_eq_getElem h2))
    exact ⟨g, e, cell_lt h3⟩
  subst hx5
  have HC : Hid (∀ (j : Nat) u, vss.flatten[j]? = some u → w3.cell? ⟨b, j, none⟩ = some u) := fun j u hj => by
    obtain ⟨g, e, _, h3⟩ := hcell j u hj
    cases e
    exact h3
  have HVR := hidK hV
  have HO := hidK ho
  clear hV hcell ho
  obtain ⟨i5, hi5', hz0, hz1, hz2⟩ := info_parts infopd
  have HI0 := hidK (And.intro hi5' (And.intro hz0 (And.intro hz1 hz2)))
  clear hi5' hz0 hz1 hz2
  have hq2 := HQ2.out
  have hq3 := HQ3.out
  have hown0 : World.ownsRow ((w3.alloc (.cells #[.slice x1 m1 n1, .slice x2 m2 n2, .slice x3 m3 n3, .slice x4 m4 n4, .slice (some ⟨b, 0, none⟩) m5 n5, .int .i64 c.now] 36)).alloc (.cells #[] 69)) (w3.heap.size + 1) 69 6 (.slice (some ⟨w3.heap.size + 1, 0, none⟩) 0 0) 0 [] := ⟨by simp, .inr ⟨w3.heap.size + 1, 0, #[], rfl, Nat.le_refl _, heap2_1 _ _ _, Nat.le_refl _, by unfold maxLen; omega, by simp, by simp⟩⟩
  have HOW := hidK hown0
  clear hown0
  have hik : (i : Int) ≤ n5 := by omega
  go_wp2_with (first | (at_builtin; refine wpList_append_own _ rfl _ _ 34 rfl (w3.heap.size + 1) 69 i5 (.agg #[.string ⟨#[]⟩, .int .i64 0, .string ⟨#[]⟩, .slice none 0 0, .string ⟨#[]⟩, .int .i64 0]) 6 88 Tryz.underlying34 HI0.out.1 HI0.out.2.1 HI0.out.2.2.1 HI0.out.2.2.2 rfl (by decide) _ 0 [] rfl (HOW.out) ⟨b, 0, none⟩ i n5 (vss.take i).flatten rfl ?c1 ?c2 ?c3 ?c4 ?c5 ?c6 ?_))
  case c1 => exact take_flat HVR.out.all (by omega)
  case c2 =>
    intro j u hu
    rw [Addr.add_lit, Nat.zero_add]
    exact (cell_below (below2 w3 _ _) hbS).trans (HC.out _ _ (take_at hu))
  case c3 => exact (mem_take_one HVR.out.one i).1
  case c4 => unfold maxLen; omega
  case c5 => omega
  case c6 => simp
  rintro v1 w4 hown4 hgr4 -
  replace hown4 : w4.ownsRow (w3.heap.size + 1) 69 6 v1 i (vss.take i).flatten := by simpa using hown4
  have hb4 : Below (w3.heap.size + 1) (w3.alloc (.cells #[.slice x1 m1 n1, .slice x2 m2 n2, .slice x3 m3 n3, .slice x4 m4 n4, .slice (some ⟨b, 0, none⟩) m5 n5, .int .i64 c.now] 36)) w4 := ((Below.refl (w3.heap.size + 1) _).alloc (by simp) _).grown hgr4 (by simp) (fun g hg => by simp [Value.ownBlock] at hg; omega)
  obtain ⟨s1, s2, s3, rfl⟩ := owns_slice hown4
  have Bo4 := hidK ((hb4.block w3.heap.size (by omega)).trans (heap_alloc_new w3 (.cells #[.slice x1 m1 n1, .slice x2 m2 n2, .slice x3 m3 n3, .slice x4 m4 n4, .slice (some ⟨b, 0, none⟩) m5 n5, .int .i64 c.now] 36)))
  have HB34 := hidK ((below1 w3 (.cells #[.slice x1 m1 n1, .slice x2 m2 n2, .slice x3 m3 n3, .slice x4 m4 n4, .slice (some ⟨b, 0, none⟩) m5 n5, .int .i64 c.now] 36)).trans (hb4.mono (by omega)))
  have HO4 := hidK hown4
  have Br4 := upK Br HB34.out
  have hs4 := HB34.out.size
  obtain ⟨o0, o1, o2, o3, o4, o5⟩ := cs6 Bo4.out
  have hol := lt_of_some Bo4.out
  clear hown4 hgr4 hb4 HOW
  have hik1 : ((i : Int) + 1) ≤ m5 := by omega
  by_cases hcap : n5 = i + 1
  · subst hcap
    have hmi : m5 = i + 1 := by omega
    have hd0 : m5 - (i + 1) = 0 := by omega
    have hvd : vss.drop (i + 1) = [] := List.drop_eq_nil_of_le (by omega)
    go_wp2_with (first | (at_builtin; refine wpList_append_own _ rfl _ _ 34 rfl (w3.heap.size + 1) 69 i5 (.agg #[.string ⟨#[]⟩, .int .i64 0, .string ⟨#[]⟩, .slice none 0 0, .string ⟨#[]⟩, .int .i64 0]) 6 88 Tryz.underlying34 HI0.out.1 HI0.out.2.1 HI0.out.2.2.1 HI0.out.2.2.2 rfl (by decide) _ _ _ rfl (HO4.out) ⟨b, 0, none⟩ 0 0 [] rfl ?c1 ?c2 ?c3 ?c4 ?c5 ?c6 ?_))
    case c1 => rfl
    case c2 => intro j u hu; simp at hu
    case c3 => intro u hu; simp at hu
    case c4 => unfold maxLen; omega
    case c5 => omega
    case c6 => omega
    rintro v2 w5 hown5 hgr5 -
    have hlen5 : (wo Pd.n t c.ps).length = m5 - 1 := by rw [HW.out]; simp; omega
    replace hown5 : w5.ownsRow (w3.heap.size + 1) 69 6 v2 (wo Pd.n t c.ps).length (vss.take i ++ vss.drop (i + 1)).flatten := by
      rw [hlen5, List.flatten_append]
      rw [hvd]; simpa [hmi] using hown5
      
    have hb5 : Below (w3.heap.size + 1) w4 w5 := (Below.refl (w3.heap.size + 1) w4).grown hgr5 (by omega) (fun g hg => (HO4.out.lt g hg).1)
    obtain ⟨t1, t2, t3, rfl⟩ := owns_slice hown5
    have Bo5 := hidK ((hb5.block w3.heap.size (by omega)).trans Bo4.out)
    have Br5 := hidK ((hb5.block (w.heap.size + 1) (by omega)).trans Br4.out)
    have H35 := hidK (HB34.out.trans (hb5.mono (by omega)))
    have HB5 := hidK (HB.out.trans (H35.out.mono (by omega)))
    have hsel := Sel.erase (xs := c.ps) (vss := vss) (by omega) (k := i) (by omega)
    rw [← HW.out] at hsel
    have hrec := (hsel.recs (HVR.out.below H35.out)).keep (w' := w5) (S' := fun k => (w2.heap.size ≤ k ∧ k < w3.heap.size) ∨ w3.heap.size + 1 ≤ k) (fun _ _ _ _ => rfl) (fun k _ s => .inl s)
    obtain ⟨q1, q2, hq, hR⟩ := hrec.own hown5 (by simp) (by decide) (fun g hg => .inr (hown5.lt g hg).1)
    rw [List.length_map] at hq hR
    simp only [Value.slice.injEq] at hq
    obtain ⟨rfl, ht2, rfl⟩ := hq
    rw [← ht2] at hR
    have HT2 := hidK ht2
    have HR5 := hidK hR
    have hs5 := hb5.size
    obtain ⟨o0, o1, o2, o3, o4, o5⟩ := cs6 Bo5.out
    obtain ⟨r0, r1, r2, r3, r4, r5, r6, r7⟩ := cs8 Br5.out
    have fo0 := froK Bo5.out 0
    have fo1 := froK Bo5.out 1
    have fo2 := froK Bo5.out 2
    have fo3 := froK Bo5.out 3
    have fo4 := froK Bo5.out 4
    have fo5 := froK Bo5.out 5
    have fr0 := froK Br5.out 0
    have fr1 := froK Br5.out 1
    have fr2 := froK Br5.out 2
    have fr3 := froK Br5.out 3
    have fr4 := froK Br5.out 4
    have fr5 := froK Br5.out 5
    have fr6 := froK Br5.out 6
    have fr7 := froK Br5.out 7
    have hne : ¬ w.heap.size + 1 = w3.heap.size := by omega
    have hne2 : ¬ w3.heap.size = w.heap.size + 1 := by omega
    have hol5 := lt_of_some Bo5.out
    have hrl5 := lt_of_some Br5.out
    clear hown5 hgr5 hb5 hsel hrec hR ht2 hlen5 hik hik1 hmi hd0 hvd hmn
    go_wp2
    refine bodyPost_ret (v := .agg #[.slice x1 m1 n1, .slice x2 m2 n2, .slice x3 m3 n3, .slice x4 m4 n4, .slice t1 t2 t3, .int .i64 c.now, .string ⟨#[]⟩, .int .i64 0]) (by simp [results, Tryz.results6, go_sem, *]) rfl ⟨⟨x1, m1, n1, x2, m2, n2, x3, m3, n3, x4, m4, n4, t1, t2, t3⟩, ⟨dropP c t, ⟨#[]⟩, 0⟩, rfl, HV.out, ?_, set_below (show w.heap.size ≤ w.heap.size + 1 by omega) (set_below (show w.heap.size ≤ w.heap.size + 1 by omega) (set_below (show w.heap.size ≤ w.heap.size + 1 by omega) (set_below (show w.heap.size ≤ w.heap.size + 1 by omega) (set_below (show w.heap.size ≤ w.heap.size + 1 by omega) (set_below (show w.heap.size ≤ w.heap.size + 1 by omega) (set_below (show w.heap.size ≤ w.heap.size + 1 by omega) (set_below (show w.heap.size ≤ w.heap.size + 1 by omega) (set_below (show w.heap.size ≤ w3.heap.size by omega) (HB5.out)))))))))⟩
    have hkeep : ∀ k, w2.heap.size ≤ k → ¬ k = w3.heap.size → (((((((((w5.setCell ⟨w3.heap.size, 4, none⟩ (.slice t1 t2 t3)).setCell ⟨w.heap.size + 1, 0, none⟩ (.slice x1 m1 n1)).setCell ⟨w.heap.size + 1, 1, none⟩ (.slice x2 m2 n2)).setCell ⟨w.heap.size + 1, 2, none⟩ (.slice x3 m3 n3)).setCell ⟨w.heap.size + 1, 3, none⟩ (.slice x4 m4 n4)).setCell ⟨w.heap.size + 1, 4, none⟩ (.slice t1 t2 t3)).setCell ⟨w.heap.size + 1, 5, none⟩ (.int .i64 c.now)).setCell ⟨w.heap.size + 1, 6, none⟩ (.string ⟨#[]⟩)).setCell ⟨w.heap.size + 1, 7, none⟩ (.int .i64 0)).heap[k]? = w5.heap[k]? := fun k h1 h2 => by rw [Below.heap_setCell _ _ _ _ (show k ≠ w.heap.size + 1 by omega), Below.heap_setCell _ _ _ _ (show k ≠ w.heap.size + 1 by omega), Below.heap_setCell _ _ _ _ (show k ≠ w.heap.size + 1 by omega), Below.heap_setCell _ _ _ _ (show k ≠ w.heap.size + 1 by omega), Below.heap_setCell _ _ _ _ (show k ≠ w.heap.size + 1 by omega), Below.heap_setCell _ _ _ _ (show k ≠ w.heap.size + 1 by omega), Below.heap_setCell _ _ _ _ (show k ≠ w.heap.size + 1 by omega), Below.heap_setCell _ _ _ _ (show k ≠ w.heap.size + 1 by omega), Below.heap_setCell _ _ _ _ (show k ≠ w3.heap.size by omega)]
    refine ⟨?_, ?_, ?_, ?_, ?_⟩
    · exact (HO.out.n.keep (w' := (((((((((w5.setCell ⟨w3.heap.size, 4, none⟩ (.slice t1 t2 t3)).setCell ⟨w.heap.size + 1, 0, none⟩ (.slice x1 m1 n1)).setCell ⟨w.heap.size + 1, 1, none⟩ (.slice x2 m2 n2)).setCell ⟨w.heap.size + 1, 2, none⟩ (.slice x3 m3 n3)).setCell ⟨w.heap.size + 1, 3, none⟩ (.slice x4 m4 n4)).setCell ⟨w.heap.size + 1, 4, none⟩ (.slice t1 t2 t3)).setCell ⟨w.heap.size + 1, 5, none⟩ (.int .i64 c.now)).setCell ⟨w.heap.size + 1, 6, none⟩ (.string ⟨#[]⟩)).setCell ⟨w.heap.size + 1, 7, none⟩ (.int .i64 0))) (S' := fun _ => True) (fun k hk s => (hkeep k s (by omega)).trans (H35.out.block k hk)) (fun _ _ _ => trivial)).row
    · exact (HO.out.k.keep (w' := (((((((((w5.setCell ⟨w3.heap.size, 4, none⟩ (.slice t1 t2 t3)).setCell ⟨w.heap.size + 1, 0, none⟩ (.slice x1 m1 n1)).setCell ⟨w.heap.size + 1, 1, none⟩ (.slice x2 m2 n2)).setCell ⟨w.heap.size + 1, 2, none⟩ (.slice x3 m3 n3)).setCell ⟨w.heap.size + 1, 3, none⟩ (.slice x4 m4 n4)).setCell ⟨w.heap.size + 1, 4, none⟩ (.slice t1 t2 t3)).setCell ⟨w.heap.size + 1, 5, none⟩ (.int .i64 c.now)).setCell ⟨w.heap.size + 1, 6, none⟩ (.string ⟨#[]⟩)).setCell ⟨w.heap.size + 1, 7, none⟩ (.int .i64 0))) (S' := fun _ => True) (fun k hk s => (hkeep k s (by omega)).trans (H35.out.block k hk)) (fun _ _ _ => trivial)).row
    · exact (HO.out.v.keep (w' := (((((((((w5.setCell ⟨w3.heap.size, 4, none⟩ (.slice t1 t2 t3)).setCell ⟨w.heap.size + 1, 0, none⟩ (.slice x1 m1 n1)).setCell ⟨w.heap.size + 1, 1, none⟩ (.slice x2 m2 n2)).setCell ⟨w.heap.size + 1, 2, none⟩ (.slice x3 m3 n3)).setCell ⟨w.heap.size + 1, 3, none⟩ (.slice x4 m4 n4)).setCell ⟨w.heap.size + 1, 4, none⟩ (.slice t1 t2 t3)).setCell ⟨w.heap.size + 1, 5, none⟩ (.int .i64 c.now)).setCell ⟨w.heap.size + 1, 6, none⟩ (.string ⟨#[]⟩)).setCell ⟨w.heap.size + 1, 7, none⟩ (.int .i64 0))) (S' := fun _ => True) (fun k hk s => (hkeep k s (by omega)).trans (H35.out.block k hk)) (fun _ _ _ => trivial)).row
    · exact (HO.out.x.keep (w' := (((((((((w5.setCell ⟨w3.heap.size, 4, none⟩ (.slice t1 t2 t3)).setCell ⟨w.heap.size + 1, 0, none⟩ (.slice x1 m1 n1)).setCell ⟨w.heap.size + 1, 1, none⟩ (.slice x2 m2 n2)).setCell ⟨w.heap.size + 1, 2, none⟩ (.slice x3 m3 n3)).setCell ⟨w.heap.size + 1, 3, none⟩ (.slice x4 m4 n4)).setCell ⟨w.heap.size + 1, 4, none⟩ (.slice t1 t2 t3)).setCell ⟨w.heap.size + 1, 5, none⟩ (.int .i64 c.now)).setCell ⟨w.heap.size + 1, 6, none⟩ (.string ⟨#[]⟩)).setCell ⟨w.heap.size + 1, 7, none⟩ (.int .i64 0))) (S' := fun _ => True) (fun k hk s => (hkeep k s (by omega)).trans (H35.out.block k hk)) (fun _ _ _ => trivial)).row
    · exact (HR5.out.keep (w' := (((((((((w5.setCell ⟨w3.heap.size, 4, none⟩ (.slice t1 t2 t3)).setCell ⟨w.heap.size + 1, 0, none⟩ (.slice x1 m1 n1)).setCell ⟨w.heap.size + 1, 1, none⟩ (.slice x2 m2 n2)).setCell ⟨w.heap.size + 1, 2, none⟩ (.slice x3 m3 n3)).setCell ⟨w.heap.size + 1, 3, none⟩ (.slice x4 m4 n4)).setCell ⟨w.heap.size + 1, 4, none⟩ (.slice t1 t2 t3)).setCell ⟨w.heap.size + 1, 5, none⟩ (.int .i64 c.now)).setCell ⟨w.heap.size + 1, 6, none⟩ (.string ⟨#[]⟩)).setCell ⟨w.heap.size + 1, 7, none⟩ (.int .i64 0))) (S' := fun _ => True) (fun k hk s => hkeep k (by rcases s with s | s <;> omega) (by rcases s with s | s <;> omega)) (fun _ _ _ => trivial)).row
  · go_wp2_with (first | (at_builtin; refine wpList_append_own _ rfl _ _ 34 rfl (w3.heap.size + 1) 69 i5 (.agg #[.string ⟨#[]⟩, .int .i64 0, .string ⟨#[]⟩, .slice none 0 0, .string ⟨#[]⟩, .int .i64 0]) 6 88 Tryz.underlying34 HI0.out.1 HI0.out.2.1 HI0.out.2.2.1 HI0.out.2.2.2 rfl (by decide) _ _ _ rfl (HO4.out) ⟨b, (i + 1) * 6, none⟩ (m5 - (i + 1)) (n5 - (i + 1)) (vss.drop (i + 1)).flatten rfl ?c1 ?c2 ?c3 ?c4 ?c5 ?c6 ?_))
    case c1 => rw [drop_flat HVR.out.all, hvl]
    case c2 =>
      intro j u hu
      rw [Addr.add_lit]
      exact (cell_below HB34.out hbS).trans (HC.out _ _ (drop_at HVR.out.all (by omega) hu))
    case c3 => exact (mem_take_one HVR.out.one (i + 1)).2
    case c4 => unfold maxLen; omega
    case c5 => omega
    case c6 => omega
    rintro v2 w5 hown5 hgr5 -
    have hlen5 : (wo Pd.n t c.ps).length = m5 - 1 := by rw [HW.out]; simp; omega
    replace hown5 : w5.ownsRow (w3.heap.size + 1) 69 6 v2 (wo Pd.n t c.ps).length (vss.take i ++ vss.drop (i + 1)).flatten := by
      rw [hlen5, List.flatten_append]
      have e9 : m5 - 1 = i + (m5 - (i + 1)) := by omega
      rw [e9]; exact hown5
    have hb5 : Below (w3.heap.size + 1) w4 w5 := (Below.refl (w3.heap.size + 1) w4).grown hgr5 (by omega) (fun g hg => (HO4.out.lt g hg).1)
    obtain ⟨t1, t2, t3, rfl⟩ := owns_slice hown5
    have Bo5 := hidK ((hb5.block w3.heap.size (by omega)).trans Bo4.out)
    have Br5 := hidK ((hb5.block (w.heap.size + 1) (by omega)).trans Br4.out)
    have H35 := hidK (HB34.out.trans (hb5.mono (by omega)))
    have HB5 := hidK (HB.out.trans (H35.out.mono (by omega)))
    have hsel := Sel.erase (xs := c.ps) (vss := vss) (by omega) (k := i) (by omega)
    rw [← HW.out] at hsel
    have hrec := (hsel.recs (HVR.out.below H35.out)).keep (w' := w5) (S' := fun k => (w2.heap.size ≤ k ∧ k < w3.heap.size) ∨ w3.heap.size + 1 ≤ k) (fun _ _ _ _ => rfl) (fun k _ s => .inl s)
    obtain ⟨q1, q2, hq, hR⟩ := hrec.own hown5 (by simp) (by decide) (fun g hg => .inr (hown5.lt g hg).1)
    rw [List.length_map] at hq hR
    simp only [Value.slice.injEq] at hq
    obtain ⟨rfl, ht2, rfl⟩ := hq
    rw [← ht2] at hR
    have HT2 := hidK ht2
    have HR5 := hidK hR
    have hs5 := hb5.size
    obtain ⟨o0, o1, o2, o3, o4, o5⟩ := cs6 Bo5.out
    obtain ⟨r0, r1, r2, r3, r4, r5, r6, r7⟩ := cs8 Br5.out
    have fo0 := froK Bo5.out 0
    have fo1 := froK Bo5.out 1
    have fo2 := froK Bo5.out 2
    have fo3 := froK Bo5.out 3
    have fo4 := froK Bo5.out 4
    have fo5 := froK Bo5.out 5
    have fr0 := froK Br5.out 0
    have fr1 := froK Br5.out 1
    have fr2 := froK Br5.out 2
    have fr3 := froK Br5.out 3
    have fr4 := froK Br5.out 4
    have fr5 := froK Br5.out 5
    have fr6 := froK Br5.out 6
    have fr7 := froK Br5.out 7
    have hne : ¬ w.heap.size + 1 = w3.heap.size := by omega
    have hne2 : ¬ w3.heap.size = w.heap.size + 1 := by omega
    have hol5 := lt_of_some Bo5.out
    have hrl5 := lt_of_some Br5.out
    clear hown5 hgr5 hb5 hsel hrec hR ht2 hlen5 hik hik1 hcap hmn
    go_wp2
    refine bodyPost_ret (v := .agg #[.slice x1 m1 n1, .slice x2 m2 n2, .slice x3 m3 n3, .slice x4 m4 n4, .slice t1 t2 t3, .int .i64 c.now, .string ⟨#[]⟩, .int .i64 0]) (by simp [results, Tryz.results6, go_sem, *]) rfl ⟨⟨x1, m1, n1, x2, m2, n2, x3, m3, n3, x4, m4, n4, t1, t2, t3⟩, ⟨dropP c t, ⟨#[]⟩, 0⟩, rfl, HV.out, ?_, set_below (show w.heap.size ≤ w.heap.size + 1 by omega) (set_below (show w.heap.size ≤ w.heap.size + 1 by omega) (set_below (show w.heap.size ≤ w.heap.size + 1 by omega) (set_below (show w.heap.size ≤ w.heap.size + 1 by omega) (set_below (show w.heap.size ≤ w.heap.size + 1 by omega) (set_below (show w.heap.size ≤ w.heap.size + 1 by omega) (set_below (show w.heap.size ≤ w.heap.size + 1 by omega) (set_below (show w.heap.size ≤ w.heap.size + 1 by omega) (set_below (show w.heap.size ≤ w3.heap.size by omega) (HB5.out)))))))))⟩
    have hkeep : ∀ k, w2.heap.size ≤ k → ¬ k = w3.heap.size → (((((((((w5.setCell ⟨w3.heap.size, 4, none⟩ (.slice t1 t2 t3)).setCell ⟨w.heap.size + 1, 0, none⟩ (.slice x1 m1 n1)).setCell ⟨w.heap.size + 1, 1, none⟩ (.slice x2 m2 n2)).setCell ⟨w.heap.size + 1, 2, none⟩ (.slice x3 m3 n3)).setCell ⟨w.heap.size + 1, 3, none⟩ (.slice x4 m4 n4)).setCell ⟨w.heap.size + 1, 4, none⟩ (.slice t1 t2 t3)).setCell ⟨w.heap.size + 1, 5, none⟩ (.int .i64 c.now)).setCell ⟨w.heap.size + 1, 6, none⟩ (.string ⟨#[]⟩)).setCell ⟨w.heap.size + 1, 7, none⟩ (.int .i64 0)).heap[k]? = w5.heap[k]? := fun k h1 h2 => by rw [Below.heap_setCell _ _ _ _ (show k ≠ w.heap.size + 1 by omega), Below.heap_setCell _ _ _ _ (show k ≠ w.heap.size + 1 by omega), Below.heap_setCell _ _ _ _ (show k ≠ w.heap.size + 1 by omega), Below.heap_setCell _ _ _ _ (show k ≠ w.heap.size + 1 by omega), Below.heap_setCell _ _ _ _ (show k ≠ w.heap.size + 1 by omega), Below.heap_setCell _ _ _ _ (show k ≠ w.heap.size + 1 by omega), Below.heap_setCell _ _ _ _ (show k ≠ w.heap.size + 1 by omega), Below.heap_setCell _ _ _ _ (show k ≠ w.heap.size + 1 by omega), Below.heap_setCell _ _ _ _ (show k ≠ w3.heap.size by omega)]
    refine ⟨?_, ?_, ?_, ?_, ?_⟩
    · exact (HO.out.n.keep (w' := (((((((((w5.setCell ⟨w3.heap.size, 4, none⟩ (.slice t1 t2 t3)).setCell ⟨w.heap.size + 1, 0, none⟩ (.slice x1 m1 n1)).setCell ⟨w.heap.size + 1, 1, none⟩ (.slice x2 m2 n2)).setCell ⟨w.heap.size + 1, 2, none⟩ (.slice x3 m3 n3)).setCell ⟨w.heap.size + 1, 3, none⟩ (.slice x4 m4 n4)).setCell ⟨w.heap.size + 1, 4, none⟩ (.slice t1 t2 t3)).setCell ⟨w.heap.size + 1, 5, none⟩ (.int .i64 c.now)).setCell ⟨w.heap.size + 1, 6, none⟩ (.string ⟨#[]⟩)).setCell ⟨w.heap.size + 1, 7, none⟩ (.int .i64 0))) (S' := fun _ => True) (fun k hk s => (hkeep k s (by omega)).trans (H35.out.block k hk)) (fun _ _ _ => trivial)).row
    · exact (HO.out.k.keep (w' := (((((((((w5.setCell ⟨w3.heap.size, 4, none⟩ (.slice t1 t2 t3)).setCell ⟨w.heap.size + 1, 0, none⟩ (.slice x1 m1 n1)).setCell ⟨w.heap.size + 1, 1, none⟩ (.slice x2 m2 n2)).setCell ⟨w.heap.size + 1, 2, none⟩ (.slice x3 m3 n3)).setCell ⟨w.heap.size + 1, 3, none⟩ (.slice x4 m4 n4)).setCell ⟨w.heap.size + 1, 4, none⟩ (.slice t1 t2 t3)).setCell ⟨w.heap.size + 1, 5, none⟩ (.int .i64 c.now)).setCell ⟨w.heap.size + 1, 6, none⟩ (.string ⟨#[]⟩)).setCell ⟨w.heap.size + 1, 7, none⟩ (.int .i64 0))) (S' := fun _ => True) (fun k hk s => (hkeep k s (by omega)).trans (H35.out.block k hk)) (fun _ _ _ => trivial)).row
    · exact (HO.out.v.keep (w' := (((((((((w5.setCell ⟨w3.heap.size, 4, none⟩ (.slice t1 t2 t3)).setCell ⟨w.heap.size + 1, 0, none⟩ (.slice x1 m1 n1)).setCell ⟨w.heap.size + 1, 1, none⟩ (.slice x2 m2 n2)).setCell ⟨w.heap.size + 1, 2, none⟩ (.slice x3 m3 n3)).setCell ⟨w.heap.size + 1, 3, none⟩ (.slice x4 m4 n4)).setCell ⟨w.heap.size + 1, 4, none⟩ (.slice t1 t2 t3)).setCell ⟨w.heap.size + 1, 5, none⟩ (.int .i64 c.now)).setCell ⟨w.heap.size + 1, 6, none⟩ (.string ⟨#[]⟩)).setCell ⟨w.heap.size + 1, 7, none⟩ (.int .i64 0))) (S' := fun _ => True) (fun k hk s => (hkeep k s (by omega)).trans (H35.out.block k hk)) (fun _ _ _ => trivial)).row
    · exact (HO.out.x.keep (w' := (((((((((w5.setCell ⟨w3.heap.size, 4, none⟩ (.slice t1 t2 t3)).setCell ⟨w.heap.size + 1, 0, none⟩ (.slice x1 m1 n1)).setCell ⟨w.heap.size + 1, 1, none⟩ (.slice x2 m2 n2)).setCell ⟨w.heap.size + 1, 2, none⟩ (.slice x3 m3 n3)).setCell ⟨w.heap.size + 1, 3, none⟩ (.slice x4 m4 n4)).setCell ⟨w.heap.size + 1, 4, none⟩ (.slice t1 t2 t3)).setCell ⟨w.heap.size + 1, 5, none⟩ (.int .i64 c.now)).setCell ⟨w.heap.size + 1, 6, none⟩ (.string ⟨#[]⟩)).setCell ⟨w.heap.size + 1, 7, none⟩ (.int .i64 0))) (S' := fun _ => True) (fun k hk s => (hkeep k s (by omega)).trans (H35.out.block k hk)) (fun _ _ _ => trivial)).row
    · exact (HR5.out.keep (w' := (((((((((w5.setCell ⟨w3.heap.size, 4, none⟩ (.slice t1 t2 t3)).setCell ⟨w.heap.size + 1, 0, none⟩ (.slice x1 m1 n1)).setCell ⟨w.heap.size + 1, 1, none⟩ (.slice x2 m2 n2)).setCell ⟨w.heap.size + 1, 2, none⟩ (.slice x3 m3 n3)).setCell ⟨w.heap.size + 1, 3, none⟩ (.slice x4 m4 n4)).setCell ⟨w.heap.size + 1, 4, none⟩ (.slice t1 t2 t3)).setCell ⟨w.heap.size + 1, 5, none⟩ (.int .i64 c.now)).setCell ⟨w.heap.size + 1, 6, none⟩ (.string ⟨#[]⟩)).setCell ⟨w.heap.size + 1, 7, none⟩ (.int .i64 0))) (S' := fun _ => True) (fun k hk s => hkeep k (by rcases s with s | s <;> omega) (by rcases s with s | s <;> omega)) (fun _ _ _ => trivial)).row

end Rc
end Go.Proofs.YtpibkpofdbjdaaaGreatDoor

namespace Go.Proofs.YtpibkpofdbjdaaaGreatDoor
open Go.RowKit Rc Mk

def DropPodClV (c : Cl) : Fact := fun v w => ∃ d : Ad, v = .agg #[.slice d.a1 d.l1 d.c1, .slice d.a2 d.l2 d.c2, .slice d.a3 d.l3 d.c3, .slice d.a4 d.l4 d.c4, .slice d.a5 d.l5 d.c5, .int .i64 c.now] ∧ ClRow w d c.raw
theorem DropPodClV.mono (c : Cl) : Fact.Mono (DropPodClV c) := by
  rintro v w w' ⟨d, h1, h2⟩ hb
  exact ⟨d, h1, h2.below hb⟩

set_option linter.unusedVariables false in
set_option maxRecDepth 100000 in
set_option maxHeartbeats 6400000 in
theorem dropPod_walk (d : Ad) (c : Cl) (t : ByteArray) (E : Nat → Addr) (w : World) (hr : ClRow w d c.raw) (ht : t.size ≤ maxLen) (hG : Ers w E) :
    Calls Tryz.prog 3 #[.agg #[.slice d.a1 d.l1 d.c1, .slice d.a2 d.l2 d.c2, .slice d.a3 d.l3 d.c3, .slice d.a4 d.l4 d.c4, .slice d.a5 d.l5 d.c5, .int .i64 c.now], .string t] w fun e w' => e = .returned (.bool true) ∧ Below w.heap.size w w' := by
  have HR := hidK hr
  have HE := hidK hG
  have HB := hidK (Below.refl w.heap.size w)
  clear hr hG
  by_cases hlongt : 1048576 < t.size
  · go_enter Tryz.func3, Tryz.ntmps3
    go_wp2
    go_ret
    exact ⟨rfl, below1 _ _⟩
  go_enter Tryz.func3, Tryz.ntmps3
  go_wp2_with fail
  refine (szCluster_any d c _ (HR.out.below (HB.out.trans ((below1 _ _).mono HB.out.size)))).mono ?_
  rintro e w1 ⟨r, rfl, hi, hb⟩
  obtain ⟨HA0, hbx⟩ := slots1 hb
  have Bk := hidK HA0
  replace HB := upB HB hbx
  clear hb hbx HA0
  rcases hi with rfl | ⟨hr0, -, hft⟩
  · obtain ⟨k0, k1, k2, k3, k4, k5⟩ := cs6 Bk.out
    have ltk_1 := lt_of_some Bk.out
    go_wp2
    go_ret
    exact ⟨rfl, HB.out⟩
  have HF := hidK hft
  clear hft
  obtain ⟨k0, k1, k2, k3, k4, k5⟩ := cs6 Bk.out
  have ltk_1 := lt_of_some Bk.out
  go_wp2_with fail
  refine (toCluster_any d c _ (HR.out.below HB.out) HF.out).mono ?_
  rintro e w2 ⟨d1, rfl, ho, hb⟩
  clear k0 k1 k2 k3 k4 k5 ltk_1
  replace Bk := upK Bk hb
  replace HB := upB HB hb
  clear hb
  have HO := hidK ho.row
  clear ho
  go_wp2_with fail
  refine (sdropP_any d1 c t _ HO.out).mono ?_
  rintro e w3 ⟨dg0, o, rfl, hI, ho, hb⟩
  have R0 := hidK ho
  have HIS := hidK hI
  clear ho hI HO
  replace Bk := upK Bk hb
  replace HB := upB HB hb
  clear hb
  have HY := hidK (Bw.refl w3)
  have HQ3 := hidK (show w.heap.size < w3.heap.size from lt_of_some Bk.out)
  obtain ⟨k0, k1, k2, k3, k4, k5⟩ := cs6 Bk.out
  have ltk_3 := lt_of_some Bk.out
  go_wp2_with fail
  refine (toCluster_any d c _ (HR.out.below (HB.out.trans ((below1 _ _).mono HB.out.size))) HF.out).mono ?_
  rintro e w4 ⟨d2, rfl, ho, hb⟩
  clear k0 k1 k2 k3 k4 k5 ltk_3
  obtain ⟨HA0, hbx⟩ := slots1 hb
  replace Bk := upK Bk hbx
  have Ba := hidK HA0
  replace HY := hidK (HY.out.below hbx)
  replace HB := upB HB hbx
  clear hb hbx HA0
  have HQ4 : Hid (w3.heap.size + 1 ≤ w4.heap.size) := by have := HY.out.le; have := lt_of_some Ba.out; show w3.heap.size + 1 ≤ _; omega
  have HO2 := hidK (ho.into (S' := fun k => w3.heap.size + 1 ≤ k ∧ k < w4.heap.size) (fun k hk s => ⟨(show w3.heap.size + 1 ≤ k by simpa using s), hk⟩))
  clear ho
  obtain ⟨k0, k1, k2, k3, k4, k5⟩ := cs6 Bk.out
  have ltk_4 := lt_of_some Bk.out
  obtain ⟨a0, a1, a2, a3, a4, a5, a6, a7⟩ := cs8 Ba.out
  have lta_4 := lt_of_some Ba.out
  go_wp2_with fail
  have HOX := hidK (HO2.out.below (below1 w4 (.cells #[.slice d2.a1 d2.l1 d2.c1, .slice d2.a2 d2.l2 d2.c2, .slice d2.a3 d2.l3 d2.c3, .slice d2.a4 d2.l4 d2.c4, .slice d2.a5 d2.l5 d2.c5, .int .i64 c.now] 36)))
  refine (idropP_any d2 c t E _ HOX.out.row (HE.out.below (HB.out.trans ((below1 _ _).mono HB.out.size)))).mono ?_
  rintro e w5 ⟨dg1, o1, rfl, hI, ho, hb⟩
  clear HOX
  obtain rfl := HIS.out.same hI
  clear hI
  clear k0 k1 k2 k3 k4 k5 ltk_4 a0 a1 a2 a3 a4 a5 a6 a7 lta_4
  obtain ⟨HA0, hbx⟩ := slots1 hb
  replace Bk := upK Bk hbx
  replace Ba := upK Ba hbx
  have Bx := hidK HA0
  replace HY := hidK (HY.out.below hbx)
  replace HO2 := hidK (HO2.out.below hbx)
  replace HB := upB HB hbx
  clear hb hbx HA0
  have HQ5 : Hid (w4.heap.size < w5.heap.size) := lt_of_some Bx.out
  have HO1 := hidK (ho.into (S' := fun k => w4.heap.size + 1 ≤ k ∧ k < w5.heap.size) (fun k hk s => ⟨(show w4.heap.size + 1 ≤ k by simpa using s), hk⟩))
  clear ho
  have hlz : mkCn 1 o.c.raw ≤ 1152921504606846976 := HIS.out.marks HF.out
  have HH := hidK (fun (W : World) (hr : ClRow W dg1 (mkC 1 o.c.raw)) => heldCout_any dg1 o 1 W hr (by decide) hlz)
  obtain ⟨M, hM⟩ : ∃ M : Int, M = mkCn 1 o.c.raw := ⟨_, rfl⟩
  have hM0 : (0 : Int) < M := by rw [hM]; have := mkCn_ge 1 o.c.raw; omega
  rw [← hM] at HH
  have HMM := hidK hM
  clear hM
  obtain ⟨k0, k1, k2, k3, k4, k5⟩ := cs6 Bk.out
  have ltk_5 := lt_of_some Bk.out
  obtain ⟨a0, a1, a2, a3, a4, a5, a6, a7⟩ := cs8 Ba.out
  have lta_5 := lt_of_some Ba.out
  obtain ⟨x0, x1, x2, x3, x4, x5⟩ := cs6 Bx.out
  have ltx_5 := lt_of_some Bx.out
  go_wp2_with fail
  refine (eqCout_any dg1 dg0 o _ (HO1.out.row.below (below1 _ _)) (R0.out.below (HY.out.below (below1 _ _)).out)).mono ?_
  rintro e w6 ⟨rfl, hb⟩
  clear k0 k1 k2 k3 k4 k5 ltk_5 a0 a1 a2 a3 a4 a5 a6 a7 lta_5 x0 x1 x2 x3 x4 x5 ltx_5
  obtain ⟨HA0, hbx⟩ := slots1 hb
  replace Bk := upK Bk hbx
  replace Ba := upK Ba hbx
  replace Bx := upK Bx hbx
  have Bg := hidK HA0
  replace HY := hidK (HY.out.below hbx)
  replace HO2 := hidK (HO2.out.below hbx)
  replace HO1 := hidK (HO1.out.below hbx)
  replace HB := upB HB hbx
  clear hb hbx HA0
  obtain ⟨W, hW0⟩ : ∃ W, W = w6 := ⟨_, rfl⟩
  rw [← hW0] at HB HY HO2 HO1 Bk Ba Bx Bg
  go_wp2_with fail
  rw [← hW0]
  clear hW0
  rename_i K0 hK0
  refine wp_region_grow (back := none) (by kernel_rfl) (List.append_nil _).symm (by kernel_rfl) ?_
  refine' Grow.stepC _ rfl ?_ ?_
  rotate_left 1
  · refine Obl.plain rfl ?_
    intro ac wg K hsz hW hf hK; clear hsz
    have e7 := hf 7 (by decide)
    simp [slotFact, List.lookup] at e7
    clear hf
    obtain ⟨k0, k1, k2, k3, k4, k5⟩ := cs6 ((hW.block _ (lt_of_some Bx.out)).trans Bx.out)
    go_simp
    refine hK _ _ (Below.refl _ _) ?_
    with_reducible rfl
  refine' Grow.stepC _ rfl ?_ ?_
  rotate_left 1
  · refine Obl.plain rfl ?_
    intro ac wg K hsz hW hf hK; clear hsz
    have e2 := hf 2 (by decide)
    simp [slotFact, List.lookup] at e2
    clear hf
    obtain ⟨k0, k1, k2, k3, k4, k5⟩ := cs6 ((hW.block _ (lt_of_some Bk.out)).trans Bk.out)
    go_simp
    refine hK _ _ (Below.refl _ _) ?_
    with_reducible rfl
  refine Grow.step (DropPodClV c) rfl (DropPodClV.mono c) ?_ ?_
  · refine Obl.plain rfl ?_
    intro ac wg K hsz hW hf hK; clear hsz
    have e35 := hf 35 (by decide)
    simp [slotFact, List.lookup] at e35
    clear hf
    go_simp
    refine (toCluster_any d c _ (HR.out.below (HB.out.trans (hW.mono HB.out.size))) HF.out).mono ?_
    rintro e w6 ⟨d3, rfl, ho, hb6⟩
    exact hK _ _ hb6 ⟨d3, rfl, ho.row⟩
  refine' Grow.stepC (.bool true) rfl ?_ ?_
  · refine Obl.plain rfl ?_
    intro ac wg K hsz hW hf hK; clear hsz
    have e34 := hf 34 (by decide)
    simp [slotFact, List.lookup] at e34
    have e36 := hf 36 (by decide)
    simp [slotFact, List.lookup] at e36
    obtain ⟨d3, e36, hrow⟩ := e36
    clear hf
    go_simp
    refine (eqCluster_any d2 d3 c _ (HO2.out.row.below hW) hrow).mono ?_
    rintro e w6 ⟨rfl, hb6⟩
    exact hK _ _ hb6 rfl
  refine' Grow.stepC _ rfl ?_ ?_
  rotate_left 1
  · refine Obl.plain rfl ?_
    intro ac wg K hsz hW hf hK; clear hsz
    have e37 := hf 37 (by decide)
    simp [slotFact, List.lookup] at e37
    clear hf
    go_simp
    refine hK _ _ (Below.refl _ _) ?_
    with_reducible rfl
  refine Grow.done ?_
  intro q wz hW hf
  simp only [List.forall_mem_cons] at hf
  obtain ⟨h38, -⟩ := hf
  have hb := hW
  refine hK0 _ _ ?_
  simp only [putsAll, List.foldr, Act.put, List.setIfInBounds_toArray, List.set_cons_zero, List.set_cons_succ, h38]
  clear hK0
  replace Bk := upK Bk hb
  replace Ba := upK Ba hb
  replace Bx := upK Bx hb
  replace Bg := upK Bg hb
  replace HY := hidK (HY.out.below hb)
  replace HO2 := hidK (HO2.out.below hb)
  replace HO1 := hidK (HO1.out.below hb)
  replace HB := upB HB hb
  clear hb
  clear hW
  obtain ⟨rk, hrk⟩ : ∃ r : Int, r = mkCn 1 c.raw := ⟨_, rfl⟩
  have hrk0 : decide (rk < 0) = false := by rw [decide_eq_false_iff_not, hrk]; have := mkCn_ge 1 c.raw; omega
  obtain ⟨k0, k1, k2, k3, k4, k5⟩ := cs6 Bk.out
  have ltk_7 := lt_of_some Bk.out
  obtain ⟨a0, a1, a2, a3, a4, a5, a6, a7⟩ := cs8 Ba.out
  have lta_7 := lt_of_some Ba.out
  obtain ⟨x0, x1, x2, x3, x4, x5⟩ := cs6 Bx.out
  have ltx_7 := lt_of_some Bx.out
  obtain ⟨g0, g1, g2, g3, g4, g5, g6, g7⟩ := cs8 Bg.out
  have ltg_7 := lt_of_some Bg.out
  go_wp2_with fail
  refine (markCluster_any d2 c 1 _ wz HO2.out (fun k s => by have s2 := s.2; have q9 := HY.out.le; have q8 := lt_of_some Bx.out; have q3 := HQ3.out; have q4 := HQ4.out; have q5 := HQ5.out; omega) (by decide) HF.out.marks).mono ?_
  rintro e w8 ⟨rfl, ho, hk⟩
  clear k0 k1 k2 k3 k4 k5 ltk_7 a0 a1 a2 a3 a4 a5 a6 a7 lta_7 x0 x1 x2 x3 x4 x5 ltx_7 g0 g1 g2 g3 g4 g5 g6 g7 ltg_7
  have Ck := hidK ((hk.block (w.heap.size) (lt_of_some Bk.out) (fun s => by have s1 := s.1; have s2 := s.2; have q3 := HQ3.out; have q4 := HQ4.out; have q5 := HQ5.out; omega)).trans Bk.out)
  have Ca := hidK ((hk.block (w3.heap.size) (lt_of_some Ba.out) (fun s => by have s1 := s.1; have s2 := s.2; have q3 := HQ3.out; have q4 := HQ4.out; have q5 := HQ5.out; omega)).trans Ba.out)
  have Cx := hidK ((hk.block (w4.heap.size) (lt_of_some Bx.out) (fun s => by have s1 := s.1; have s2 := s.2; have q3 := HQ3.out; have q4 := HQ4.out; have q5 := HQ5.out; omega)).trans Bx.out)
  have Cg := hidK ((hk.block (w5.heap.size) (lt_of_some Bg.out) (fun s => by have s1 := s.1; have s2 := s.2; have q3 := HQ3.out; have q4 := HQ4.out; have q5 := HQ5.out; omega)).trans Bg.out)
  have HB8 := hidK (HB.out.trans (hk.low (X := w.heap.size) HB.out.size (fun k s => by have s1 := s.1; have q3 := HQ3.out; have q4 := HQ4.out; have q5 := HQ5.out; omega)))
  have CHY := hidK (HY.out.kept hk (fun k s => by have s1 := s.1; have q3 := HQ3.out; have q4 := HQ4.out; have q5 := HQ5.out; omega))
  have CHO1 := hidK (HO1.out.kept hk (fun k s s' => by have s1 := s.1; have s2 := s.2; have t1 := s'.1; have t2 := s'.2; have q3 := HQ3.out; have q4 := HQ4.out; have q5 := HQ5.out; omega))
  clear HB HY hk HO2 HO1 Bk Ba Bx Bg
  have HB := HB8
  clear HB8
  have HY := CHY
  clear CHY
  have HO1 := CHO1
  clear CHO1
  have Bk := Ck
  clear Ck
  have Ba := Ca
  clear Ca
  have Bx := Cx
  clear Cx
  have Bg := Cg
  clear Cg
  clear ho
  rw [← hrk]
  clear hrk
  obtain ⟨k0, k1, k2, k3, k4, k5⟩ := cs6 Bk.out
  have ltk_8 := lt_of_some Bk.out
  obtain ⟨a0, a1, a2, a3, a4, a5, a6, a7⟩ := cs8 Ba.out
  have lta_8 := lt_of_some Ba.out
  obtain ⟨x0, x1, x2, x3, x4, x5⟩ := cs6 Bx.out
  have ltx_8 := lt_of_some Bx.out
  obtain ⟨g0, g1, g2, g3, g4, g5, g6, g7⟩ := cs8 Bg.out
  have ltg_8 := lt_of_some Bg.out
  go_wp2_with fail
  refine (eqCout_any dg1 dg0 o _ (HO1.out.row) (R0.out.below HY.out.out)).mono ?_
  rintro e w9 ⟨rfl, hb⟩
  clear k0 k1 k2 k3 k4 k5 ltk_8 a0 a1 a2 a3 a4 a5 a6 a7 lta_8 x0 x1 x2 x3 x4 x5 ltx_8 g0 g1 g2 g3 g4 g5 g6 g7 ltg_8
  replace Bk := upK Bk hb
  replace Ba := upK Ba hb
  replace Bx := upK Bx hb
  replace Bg := upK Bg hb
  replace HY := hidK (HY.out.below hb)
  replace HO1 := hidK (HO1.out.below hb)
  replace HB := upB HB hb
  clear hb
  clear hrk0
  obtain ⟨k0, k1, k2, k3, k4, k5⟩ := cs6 Bk.out
  have ltk_9 := lt_of_some Bk.out
  obtain ⟨a0, a1, a2, a3, a4, a5, a6, a7⟩ := cs8 Ba.out
  have lta_9 := lt_of_some Ba.out
  obtain ⟨x0, x1, x2, x3, x4, x5⟩ := cs6 Bx.out
  have ltx_9 := lt_of_some Bx.out
  obtain ⟨g0, g1, g2, g3, g4, g5, g6, g7⟩ := cs8 Bg.out
  have ltg_9 := lt_of_some Bg.out
  go_wp2_with fail
  refine (markCout_any dg1 o 1 _ _ HO1.out (fun k s => by have s2 := s.2; have q9 := HB.out.size; have q8 := HY.out.le; have q7 := lt_of_some Bg.out; have q3 := HQ3.out; have q4 := HQ4.out; have q5 := HQ5.out;  omega) (by decide) hlz).mono ?_
  rintro e w10 ⟨rfl, ho, hk⟩
  clear k0 k1 k2 k3 k4 k5 ltk_9 a0 a1 a2 a3 a4 a5 a6 a7 lta_9 x0 x1 x2 x3 x4 x5 ltx_9 g0 g1 g2 g3 g4 g5 g6 g7 ltg_9
  have Ck := hidK ((hk.block (w.heap.size) (lt_of_some Bk.out) (fun s => by have s1 := s.1; have s2 := s.2; have q3 := HQ3.out; have q4 := HQ4.out; have q5 := HQ5.out; omega)).trans Bk.out)
  have Ca := hidK ((hk.block (w3.heap.size) (lt_of_some Ba.out) (fun s => by have s1 := s.1; have s2 := s.2; have q3 := HQ3.out; have q4 := HQ4.out; have q5 := HQ5.out; omega)).trans Ba.out)
  have Cx := hidK ((hk.block (w4.heap.size) (lt_of_some Bx.out) (fun s => by have s1 := s.1; have s2 := s.2; have q3 := HQ3.out; have q4 := HQ4.out; have q5 := HQ5.out; omega)).trans Bx.out)
  have Cg := hidK ((hk.block (w5.heap.size) (lt_of_some Bg.out) (fun s => by have s1 := s.1; have s2 := s.2; have q3 := HQ3.out; have q4 := HQ4.out; have q5 := HQ5.out; omega)).trans Bg.out)
  have HB10 := hidK (HB.out.trans (hk.low (X := w.heap.size) HB.out.size (fun k s => by have s1 := s.1; have q3 := HQ3.out; have q4 := HQ4.out; have q5 := HQ5.out; omega)))
  have CHY := hidK (HY.out.kept hk (fun k s => by have s1 := s.1; have q3 := HQ3.out; have q4 := HQ4.out; have q5 := HQ5.out; omega))
  clear HB HY hk HO1 Bk Ba Bx Bg
  have HB := HB10
  clear HB10
  have HY := CHY
  clear CHY
  have Bk := Ck
  clear Ck
  have Ba := Ca
  clear Ca
  have Bx := Cx
  clear Cx
  have Bg := Cg
  clear Cg
  have HM1 := hidK ho
  clear ho
  rw [← HMM.out]
  obtain ⟨k0, k1, k2, k3, k4, k5⟩ := cs6 Bk.out
  have ltk_10 := lt_of_some Bk.out
  obtain ⟨a0, a1, a2, a3, a4, a5, a6, a7⟩ := cs8 Ba.out
  have lta_10 := lt_of_some Ba.out
  obtain ⟨x0, x1, x2, x3, x4, x5⟩ := cs6 Bx.out
  have ltx_10 := lt_of_some Bx.out
  obtain ⟨g0, g1, g2, g3, g4, g5, g6, g7⟩ := cs8 Bg.out
  have ltg_10 := lt_of_some Bg.out
  go_wp2_with fail
  refine (HH.out _ HM1.out.row).mono ?_
  rintro e w11 ⟨rfl, hb⟩
  clear k0 k1 k2 k3 k4 k5 ltk_10 a0 a1 a2 a3 a4 a5 a6 a7 lta_10 x0 x1 x2 x3 x4 x5 ltx_10 g0 g1 g2 g3 g4 g5 g6 g7 ltg_10
  replace Bk := upK Bk hb
  replace Ba := upK Ba hb
  replace Bx := upK Bx hb
  replace Bg := upK Bg hb
  replace HY := hidK (HY.out.below hb)
  replace HM1 := hidK (HM1.out.below hb)
  replace HB := upB HB hb
  clear hb
  obtain ⟨k0, k1, k2, k3, k4, k5⟩ := cs6 Bk.out
  have ltk_11 := lt_of_some Bk.out
  go_wp2_with fail
  refine (toCluster_any d c _ (HR.out.below HB.out) HF.out).mono ?_
  rintro e w12 ⟨d4, rfl, ho, hb⟩
  clear k0 k1 k2 k3 k4 k5 ltk_11
  replace Bk := upK Bk hb
  replace Ba := upK Ba hb
  replace Bx := upK Bx hb
  replace Bg := upK Bg hb
  replace HY := hidK (HY.out.below hb)
  replace HM1 := hidK (HM1.out.below hb)
  replace HB := upB HB hb
  clear hb
  have HO := hidK ho.row
  clear ho
  go_wp2_with fail
  refine (idropP_any d4 c t E _ HO.out (HE.out.below HB.out)).mono ?_
  rintro e w13 ⟨dg2, o2, rfl, hI, ho, hb⟩
  obtain rfl := HIS.out.same hI
  clear hI HO
  have HR2 := hidK ho.row
  clear ho
  replace Bk := upK Bk hb
  replace Ba := upK Ba hb
  replace Bx := upK Bx hb
  replace Bg := upK Bg hb
  replace HY := hidK (HY.out.below hb)
  replace HM1 := hidK (HM1.out.below hb)
  replace HB := upB HB hb
  clear hb
  obtain ⟨k0, k1, k2, k3, k4, k5⟩ := cs6 Bk.out
  have ltk_13 := lt_of_some Bk.out
  obtain ⟨a0, a1, a2, a3, a4, a5, a6, a7⟩ := cs8 Ba.out
  have lta_13 := lt_of_some Ba.out
  obtain ⟨x0, x1, x2, x3, x4, x5⟩ := cs6 Bx.out
  have ltx_13 := lt_of_some Bx.out
  obtain ⟨g0, g1, g2, g3, g4, g5, g6, g7⟩ := cs8 Bg.out
  have ltg_13 := lt_of_some Bg.out
  go_wp2_with fail
  refine (eqCout_any dg2 dg0 o _ (HR2.out.below (below1 _ _)) (R0.out.below (HY.out.below (below1 _ _)).out)).mono ?_
  rintro e w14 ⟨rfl, hb⟩
  clear k0 k1 k2 k3 k4 k5 ltk_13 a0 a1 a2 a3 a4 a5 a6 a7 lta_13 x0 x1 x2 x3 x4 x5 ltx_13 g0 g1 g2 g3 g4 g5 g6 g7 ltg_13
  obtain ⟨HA0, hbx⟩ := slots1 hb
  replace Bk := upK Bk hbx
  replace Ba := upK Ba hbx
  replace Bx := upK Bx hbx
  replace Bg := upK Bg hbx
  have Bh := hidK HA0
  replace HY := hidK (HY.out.below hbx)
  replace HM1 := hidK (HM1.out.below hbx)
  replace HB := upB HB hbx
  clear hb hbx HA0
  obtain ⟨k0, k1, k2, k3, k4, k5⟩ := cs6 Bk.out
  have ltk_14 := lt_of_some Bk.out
  obtain ⟨g0, g1, g2, g3, g4, g5, g6, g7⟩ := cs8 Bg.out
  have ltg_14 := lt_of_some Bg.out
  go_wp2_with fail
  refine (HH.out _ HM1.out.row).mono ?_
  rintro e w15 ⟨rfl, hb⟩
  clear k0 k1 k2 k3 k4 k5 ltk_14 g0 g1 g2 g3 g4 g5 g6 g7 ltg_14
  replace Bk := upK Bk hb
  replace Ba := upK Ba hb
  replace Bx := upK Bx hb
  replace Bg := upK Bg hb
  replace Bh := upK Bh hb
  replace HY := hidK (HY.out.below hb)
  replace HM1 := hidK (HM1.out.below hb)
  replace HB := upB HB hb
  clear hb
  go_wp2_with fail
  go_ret
  exact ⟨rfl, HB.out⟩

set_option linter.unusedVariables false in
theorem fnExactDropPod_walk (a1 : Option Addr) (l1 y1 : Nat) (ns : List Nd) (a2 : Option Addr) (l2 y2 : Nat) (ks : List Kd) (a3 : Option Addr) (l3 y3 : Nat) (vs : List Vd) (a4 : Option Addr) (l4 y4 : Nat) (xs : List Xd) (a5 : Option Addr) (l5 y5 : Nat) (ps : List Pd) (now : Int) (t : ByteArray) (w : World)
    (h1 : RRow w a1 l1 y1 7 (ns.map ndF)) (h2 : RRow w a2 l2 y2 4 (ks.map kdF)) (h3 : RRow w a3 l3 y3 8 (vs.map vdF)) (h4 : RRow w a4 l4 y4 5 (xs.map xdF)) (h5 : RRow w a5 l5 y5 6 (ps.map pdF)) (_ : (Lit.int .i64 now).wf = true) (ht : t.size ≤ maxLen) (hG : ∃ E, Ers w E) :
    Calls Tryz.prog 3 #[.agg #[.slice a1 l1 y1, .slice a2 l2 y2, .slice a3 l3 y3, .slice a4 l4 y4, .slice a5 l5 y5, .int .i64 now], .string t] w fun e w' => e = .returned (.bool true) ∧ Below w.heap.size w w' :=
  by obtain ⟨E, hG⟩ := hG; exact dropPod_walk ⟨a1, l1, y1, a2, l2, y2, a3, l3, y3, a4, l4, y4, a5, l5, y5⟩ ⟨ns, ks, vs, xs, ps, now⟩ t E w ⟨h1, h2, h3, h4, h5⟩ ht hG

end Go.Proofs.YtpibkpofdbjdaaaGreatDoor

namespace Go.Proofs.YtpibkpofdbjdaaaGreatDoor
open Go.RowKit
namespace Rc

theorem wordStar : "*" ++ "errors.errorString" = "*errors.errorString" := by decide
theorem wordRow (u : TypeId) (h : Tryz.prog.typeName? 3 u = some "*errors.errorString") : u = 188 :=
  typeName_ptr_named (nm := "errors.errorString") (by rw [wordStar]; kernel_rfl) (by kernel_rfl) (by decide) u (by rw [wordStar]; exact h)

theorem laid_words {P : Program} {W : World} {nm : String} {ti tp te ts : TypeId} {ms : Array (String × TypeId)} {f : Field} (hi : P.underlying ti = some (.interface ms)) (hrow : ∀ u, P.typeName? 3 u = some nm → u = tp)
    (hp : P.underlying tp = some (.pointer te)) (he : P.underlying te = some (.struct #[f])) (hft : f.type = ts) (hfo : f.offset = 0) (hs : P.underlying ts = some .string) (hc : P.cellsOf te = 1) (hcs : P.cellsOf ts = 1) :
    ∀ (l : List (String × List UInt8)) (ps : List MemPlace), (∀ x ∈ l, ∃ g, P.globalNamed x.1 = some g ∧ (P.globals[g]?).map (·.type) = some ti) →
      DataW.LaidVars P W (l.map fun x => (x.1, .iface nm (.ptr (.agg [.lit (.string x.2)])))) ps → ps.Nodup →
      (∀ b off, MemPlace.cell b off ∈ ps → (∃ c t, W.heap[b]? = some (.cells c t (0, 0))) ∧ ∀ u v, W.cell? ⟨b, off, none⟩ = some (.iface u v) → Value.okWide P W .any 0 u v) →
      ∃ E : Nat → Addr, (∀ (i : Nat) x, l[i]? = some x → W.var? P x.1 = some #[.iface tp (.pointer (some (E i)))] ∧ MemPlace.cell (E i).block (E i).off ∈ ps) ∧ ∀ i j, i < l.length → j < l.length → E i = E j → i = j
  | [], ps, _, _, _, _ => ⟨fun _ => ⟨0, 0, none⟩, fun i x h => by simp at h, fun i j h => by simp at h⟩
  | x :: l, ps, hT, hv, hnd, hrows => by
    obtain ⟨g, t, cs, fuel, p, q, hg, ht, hvar, hd, hq, rfl⟩ := hv
    obtain ⟨g', hg', ht'⟩ := hT x (by simp)
    obtain rfl := Option.some.inj (hg.symm.trans hg')
    obtain rfl := Option.some.inj (ht.symm.trans ht')
    have hsub : ∀ {y}, y ∈ q → y ∈ MemPlace.row ⟨g, 0, none⟩ cs.size ++ p ++ q := fun h => List.mem_append_right _ h
    obtain ⟨E, hE1, hE2⟩ := laid_words hi hrow hp he hft hfo hs hc hcs l q (fun y hy => hT y (by simp [hy])) hq (List.Nodup.sublist (List.sublist_append_right _ _) hnd) (fun b off hm => hrows b off (hsub hm))
    obtain ⟨l0⟩ := cs
    have ok0 : ∀ u v, l0 = [.iface u v] → Value.okWide P W .any 0 u v := fun u v e => by
      subst e
      exact (hrows g 0 (by simp [MemPlace.row])).2 u v (by simpa using World.var?_cell hg hvar 0)
    obtain ⟨a0, s0, rfl, hc0, hs0, hz0, rfl⟩ := errorString_of_trod hi hrow hp he hft hfo hs hc hcs hd ok0
    have ha : MemPlace.cell a0.block a0.off ∈ MemPlace.row a0 1 := by simp [MemPlace.row]
    have hdis : ∀ i, i < l.length → ¬ E i = a0 := fun i hi' e => by
      have h1 := (hE1 i _ (List.getElem?_eq_getElem hi')).2
      rw [e] at h1
      have h2 := (List.nodup_append.1 hnd).2.2 _ (List.mem_append_right _ ha) _ h1
      exact h2 rfl
    refine ⟨fun i => match i with | 0 => a0 | i + 1 => E i, fun i y hy => ?_, fun i j hi' hj' e => ?_⟩
    · cases i with
      | zero =>
        obtain rfl : x = y := by simpa using hy
        exact ⟨hvar, List.mem_append_left _ (List.mem_append_right _ ha)⟩
      | succ i =>
        obtain ⟨h1, h2⟩ := hE1 i y (by simpa using hy)
        exact ⟨h1, hsub h2⟩
    · cases i with
      | zero => cases j with
        | zero => rfl
        | succ j => exact absurd e.symm (hdis j (by simpa using hj'))
      | succ i => cases j with
        | zero => exact absurd e (hdis i (by simpa using hi'))
        | succ j => rw [hE2 i j (by simpa using hi') (by simpa using hj') e]

theorem vars_length {H : Type} {enc : TypeId × Value → H} {P : Program} {w : World} {sp : Nat → Bool} : ∀ (ns : List String) (gs : List (DataW H)) (ps : List MemPlace), DataW.TrodVars enc P w sp ns gs ps → gs.length = ns.length
  | [], [], _, _ => rfl
  | [], _ :: _, _, h => h.elim
  | _ :: _, [], _, h => h.elim
  | _ :: ns, _ :: gs, _, h => by
    obtain ⟨_, _, _, _, _, q, _, _, _, _, h1, _⟩ := h
    simp [vars_length ns gs q h1]
theorem len10 {α : Type} : ∀ {l : List α}, l.length = 10 → ∃ a b c d e f g h i j, l = [a, b, c, d, e, f, g, h, i, j]
  | [a, b, c, d, e, f, g, h, i, j], _ => ⟨a, b, c, d, e, f, g, h, i, j, rfl⟩

end Rc
end Go.Proofs.YtpibkpofdbjdaaaGreatDoor

namespace Go.Proofs.YtpibkpofdbjdaaaGreatDoor
open Go.RowKit Go.ChangeShapes Go.WideShapes Go.Deep

theorem list6 {α : Type} {l : List α} (h : l.length = 6) : ∃ x0 x1 x2 x3 x4 x5, l = [x0, x1, x2, x3, x4, x5] := by
  match l, h with
  | [x0, x1, x2, x3, x4, x5], _ => exact ⟨_, _, _, _, _, _, rfl⟩
section
variable {H : Type} {enc : TypeId × Value → H} {P : Program} {w : World} {base : Nat} {spare : Nat → Bool} {held : Bool}

theorem open_aggN {r : Reach} {b0 : Nat} {t : TypeId} {fs : Array Field} {v : Value} {d : DataW H} {p : List MemPlace} (hs : P.underlying t = some (.struct fs)) (hone : oneCellFields P fs = true) (hC : P.cellsOf t = fs.size)
    (hv : Value.okWide P w r b0 t v) (h : DataW.Trod enc P w base spare held t v d p) :
    ∃ (cs : List Value) (n : Nat), v = .agg cs.toArray ∧ cs.length = fs.size ∧ ∀ (i : Nat) (f : Field), fs[i]? = some f → ∃ c y, cs[i]? = some c ∧ DataW.trod enc P w base spare held n f.type [c] = some y := by
  obtain ⟨cs, rfl, hsz⟩ := okWide_struct hs hv
  obtain ⟨fuel, hf⟩ := h
  obtain ⟨xs, n, _, hx, hl, hlen, hf'⟩ := DataW.trod_struct hs hf
  refine ⟨cs.toList, n, rfl, by rw [Array.length_toList]; exact hsz.trans hC, fun i f hi => ?_⟩
  obtain ⟨o, k⟩ := hone_of hone i f hi
  have hlt : i < fs.size := (Array.getElem?_eq_some_iff.1 hi).1
  have hlc : i < cs.toList.length := by rw [Array.length_toList, hsz, hC]; exact hlt
  have g := hf' i f hi
  rw [o, k] at g
  have e : ((Value.agg cs).cells.toList.drop i).take 1 = [cs.toList[i]'hlc] := by
    show (cs.toList.drop i).take 1 = _
    rw [List.drop_eq_getElem_cons hlc]
    rfl
  rw [e] at g
  exact ⟨_, xs[i]'(by omega), List.getElem?_eq_getElem hlc, by rw [g, List.getElem?_eq_getElem]⟩

theorem row_of_trod {t e : TypeId} {n : Nat} {c : Value} {y : DataW H × List MemPlace} (ht : P.underlying t = some (.slice e)) (he : P.underlying e = some .string) (hc : P.cellsOf e = 1)
    (h : DataW.trod enc P w base spare held n t [c] = some y) : ∃ a len cap zs, c = .slice a len cap ∧ TxRow w a len cap zs := by
  rcases open_strs ht he hc h with ⟨hcs, _⟩ | ⟨a, len, cap, m, Sx, hcs, hb, hl, hm, hmm, _, hx⟩
  · exact ⟨none, 0, 0, [], by simpa using hcs, rfl, Nat.le_refl _, by omega, fun j x hx => by simp at hx, Or.inl rfl⟩
  · have hlm : len ≤ m := by rw [hmm]; split <;> omega
    have hm' : cap ≤ 9223372036854775807 := by unfold maxLen at hm; omega
    refine ⟨some a, len, cap, (List.range len).map Sx, by simpa using hcs, by simp, hl, hm', fun j x hj => ?_, ?_⟩
    · rw [List.getElem?_map] at hj
      by_cases hjl : j < len
      · rw [List.getElem?_range hjl] at hj
        obtain rfl := Option.some.inj hj
        have := (hx j (by omega)).2
        unfold maxLen at this
        omega
      · rw [List.getElem?_eq_none (by simp; omega)] at hj
        cases hj
    · by_cases h0 : len = 0
      · subst h0; exact Or.inl rfl
      right
      obtain ⟨b, o, spot⟩ := a
      have h0' := (hx 0 (by omega)).1
      have hspot : spot = none := by simpa [Addr.add] using World.cell?_spot h0'
      subst hspot
      refine ⟨b, o, rfl, ?_, fun j x hj => ?_⟩
      · rw [Addr.add_lit] at h0'
        rcases Nat.lt_or_ge b w.heap.size with h1 | h1
        · exact h1
        · simp [World.cell?, Array.getElem?_eq_none h1] at h0'
      · rw [List.getElem?_map] at hj
        by_cases hjl : j < len
        · rw [List.getElem?_range hjl] at hj
          obtain rfl := Option.some.inj hj
          have := (hx j (by omega)).1
          rw [Addr.add_lit] at this
          exact this
        · rw [List.getElem?_eq_none (by simp; omega)] at hj
          cases hj
end

section
variable {H : Type} {enc : TypeId × Value → H} {w : World} {base : Nat} {spare : Nat → Bool} {held : Bool}

theorem open_aggC {P : Program} {n : Nat} {t : TypeId} {fs : Array Field} {cs : List Value} {x : DataW H × List MemPlace} (hs : P.underlying t = some (.struct fs)) (hone : oneCellFields P fs = true) (hC : P.cellsOf t = fs.size)
    (h : DataW.trod enc P w base spare held n t cs = some x) :
    ∃ (n : Nat), cs.length = fs.size ∧ ∀ (i : Nat) (f : Field), fs[i]? = some f → ∃ c y, cs[i]? = some c ∧ DataW.trod enc P w base spare held n f.type [c] = some y := by
  obtain ⟨xs, n, _, hx, hl, hlen, hf'⟩ := DataW.trod_struct hs h
  refine ⟨n, hl.trans hC, fun i f hi => ?_⟩
  obtain ⟨o, k⟩ := hone_of hone i f hi
  have hlt : i < fs.size := (Array.getElem?_eq_some_iff.1 hi).1
  have hlc : i < cs.length := by rw [hl, hC]; exact hlt
  have g := hf' i f hi
  rw [o, k] at g
  have e : (cs.drop i).take 1 = [cs[i]'hlc] := by
    rw [List.drop_eq_getElem_cons hlc]
    rfl
  rw [e] at g
  exact ⟨_, xs[i]'(by omega), List.getElem?_eq_getElem hlc, by rw [g, List.getElem?_eq_getElem]⟩

end

end Go.Proofs.YtpibkpofdbjdaaaGreatDoor

namespace Go.Proofs.YtpibkpofdbjdaaaGreatDoor
open Go.RowKit Go.ChangeShapes Go.WideShapes Go.Deep
namespace Rc

section
variable {H : Type} {enc : TypeId × Value → H} {w : World} {base : Nat} {spare : Nat → Bool} {held : Bool}

theorem nd_of_trod {b o n : Nat} {cs : List Value} {x : DataW H × List MemPlace} (hc : ∀ i, i < 7 → w.cell? ⟨b, o + i, none⟩ = cs[i]?) (h : DataW.trod enc Tryz.prog w base spare held n 93 cs = some x) : ∃ v : Nd, RAt w b o (ndF v) := by
  obtain ⟨m, hl, hf⟩ := open_aggC Tryz.underlying93 (by kernel_rfl) (by kernel_rfl) h
  obtain ⟨c0, y0, e0, t0⟩ := hf 0 _ rfl
  obtain ⟨b0, q0, -, s0⟩ := DataW.trod_string Tryz.underlying9 t0
  obtain rfl : c0 = .string b0 := by simpa using q0
  obtain ⟨c1, y1, e1, t1⟩ := hf 1 _ rfl
  obtain ⟨b1, q1, -, s1⟩ := DataW.trod_string Tryz.underlying9 t1
  obtain rfl : c1 = .string b1 := by simpa using q1
  obtain ⟨c2, y2, e2, t2⟩ := hf 2 _ rfl
  obtain ⟨b2, q2, -, s2⟩ := DataW.trod_int Tryz.underlying2 t2
  obtain rfl : c2 = .int .i64 b2 := by simpa using q2
  obtain ⟨c3, y3, e3, t3⟩ := hf 3 _ rfl
  obtain ⟨b3, q3, -, s3⟩ := DataW.trod_int Tryz.underlying2 t3
  obtain rfl : c3 = .int .i64 b3 := by simpa using q3
  obtain ⟨c4, y4, e4, t4⟩ := hf 4 _ rfl
  obtain ⟨b4, q4, -, s4⟩ := DataW.trod_int Tryz.underlying2 t4
  obtain rfl : c4 = .int .i64 b4 := by simpa using q4
  obtain ⟨c5, y5, e5, t5⟩ := hf 5 _ rfl
  obtain ⟨b5, q5, -⟩ := DataW.trod_bool Tryz.underlying4 t5
  obtain rfl : c5 = .bool b5 := by simpa using q5
  obtain ⟨c6, y6, e6, t6⟩ := hf 6 _ rfl
  obtain ⟨b6, l6, p6, zz, rfl, r6⟩ := row_of_trod Tryz.underlying67 Tryz.underlying9 (by kernel_rfl) t6
  unfold maxLen at s0 s1
  refine ⟨⟨b0, b1, b2, b3, b4, b5, zz⟩, fun i f hi => ?_⟩
  rcases i with _ | _ | _ | _ | _ | _ | _ | i
  · cases hi
    exact ⟨_, (hc 0 (by omega)).trans e0, rfl, show b0.size ≤ _ by omega⟩
  · cases hi
    exact ⟨_, (hc 1 (by omega)).trans e1, rfl, show b1.size ≤ _ by omega⟩
  · cases hi
    exact ⟨_, (hc 2 (by omega)).trans e2, rfl⟩
  · cases hi
    exact ⟨_, (hc 3 (by omega)).trans e3, rfl⟩
  · cases hi
    exact ⟨_, (hc 4 (by omega)).trans e4, rfl⟩
  · cases hi
    exact ⟨_, (hc 5 (by omega)).trans e5, rfl⟩
  · cases hi
    exact ⟨_, (hc 6 (by omega)).trans e6, b6, l6, p6, rfl, r6⟩
  · first | (cases hi; done) | (simp [ndF] at hi; done)

theorem ndrow_of_trod {n : Nat} {c : Value} {y : DataW H × List MemPlace} (h : DataW.trod enc Tryz.prog w base spare held n 22 [c] = some y) : ∃ a len cap, ∃ xs : List Nd, c = .slice a len cap ∧ RRow w a len cap 7 (xs.map ndF) := by
  rcases open_slice Tryz.underlying22 h with ⟨hcs, _⟩ | ⟨a, len, cap, m, n', D, Pl, hcs, hb, hl, hm, hmm, _, hx⟩
  · exact ⟨none, 0, 0, [], by simpa using hcs, rfl, Nat.le_refl _, by omega, .inl rfl⟩
  have hlm : len ≤ m := by rw [hmm]; split <;> omega
  have hm' : cap ≤ 9223372036854775807 := by unfold maxLen at hm; omega
  have hce : Tryz.prog.cellsOf 93 = 7 := by kernel_rfl
  rw [hce] at hx
  by_cases h0 : len = 0
  · subst h0
    exact ⟨some a, 0, cap, [], by simpa using hcs, rfl, hl, hm', .inl rfl⟩
  obtain ⟨b, o, spot⟩ := a
  obtain ⟨cs0, k1, k2⟩ := hx 0 (by omega)
  have hspot : spot = none := by
    obtain ⟨_, hl0, hc0⟩ := World.cells?_some k1
    have := hc0 0 (by omega)
    rw [List.getElem?_eq_getElem (by omega)] at this
    simpa [Addr.add] using World.cell?_spot this
  subst hspot
  have hblt : b < w.heap.size := by
    obtain ⟨_, hl0, hc0⟩ := World.cells?_some k1
    have := hc0 0 (by omega)
    rw [List.getElem?_eq_getElem (by omega)] at this
    rcases Nat.lt_or_ge b w.heap.size with h1 | h1
    · exact h1
    · simp [Addr.add, World.cell?, Array.getElem?_eq_none h1] at this
  have each : ∀ i, i < len → ∃ v : Nd, RAt w b (o + i * 7) (ndF v) := fun i hi => by
    obtain ⟨cs, k1, k2⟩ := hx i (by omega)
    obtain ⟨_, hl0, hc0⟩ := World.cells?_some k1
    refine nd_of_trod (fun j hj => ?_) k2
    have := hc0 j hj
    rw [add_add, Addr.add_lit] at this
    rw [Nat.add_assoc]
    exact this
  have hin : Inhabited Nd := ⟨⟨⟨#[]⟩, ⟨#[]⟩, 0, 0, 0, false, []⟩⟩
  obtain ⟨f, hf⟩ := choose_lt each
  refine ⟨some ⟨b, o, none⟩, len, cap, (List.range len).map f, by simpa using hcs, by simp, hl, hm', .inr ⟨b, o, rfl, hblt, fun j r hj => ?_⟩⟩
  rw [List.getElem?_map, List.getElem?_map] at hj
  by_cases hjl : j < len
  · rw [List.getElem?_range hjl] at hj
    obtain rfl := Option.some.inj hj
    exact hf j hjl
  · rw [List.getElem?_eq_none (by simp; omega)] at hj
    cases hj

theorem kd_of_trod {b o n : Nat} {cs : List Value} {x : DataW H × List MemPlace} (hc : ∀ i, i < 4 → w.cell? ⟨b, o + i, none⟩ = cs[i]?) (h : DataW.trod enc Tryz.prog w base spare held n 96 cs = some x) : ∃ v : Kd, RAt w b o (kdF v) := by
  obtain ⟨m, hl, hf⟩ := open_aggC Tryz.underlying96 (by kernel_rfl) (by kernel_rfl) h
  obtain ⟨c0, y0, e0, t0⟩ := hf 0 _ rfl
  obtain ⟨b0, q0, -, s0⟩ := DataW.trod_string Tryz.underlying9 t0
  obtain rfl : c0 = .string b0 := by simpa using q0
  obtain ⟨c1, y1, e1, t1⟩ := hf 1 _ rfl
  obtain ⟨b1, q1, -⟩ := DataW.trod_bool Tryz.underlying4 t1
  obtain rfl : c1 = .bool b1 := by simpa using q1
  obtain ⟨c2, y2, e2, t2⟩ := hf 2 _ rfl
  obtain ⟨b2, q2, -⟩ := DataW.trod_bool Tryz.underlying4 t2
  obtain rfl : c2 = .bool b2 := by simpa using q2
  obtain ⟨c3, y3, e3, t3⟩ := hf 3 _ rfl
  obtain ⟨b3, q3, -, s3⟩ := DataW.trod_string Tryz.underlying9 t3
  obtain rfl : c3 = .string b3 := by simpa using q3
  unfold maxLen at s0 s3
  refine ⟨⟨b0, b1, b2, b3⟩, fun i f hi => ?_⟩
  rcases i with _ | _ | _ | _ | i
  · cases hi
    exact ⟨_, (hc 0 (by omega)).trans e0, rfl, show b0.size ≤ _ by omega⟩
  · cases hi
    exact ⟨_, (hc 1 (by omega)).trans e1, rfl⟩
  · cases hi
    exact ⟨_, (hc 2 (by omega)).trans e2, rfl⟩
  · cases hi
    exact ⟨_, (hc 3 (by omega)).trans e3, rfl, show b3.size ≤ _ by omega⟩
  · first | (cases hi; done) | (simp [kdF] at hi; done)

theorem kdrow_of_trod {n : Nat} {c : Value} {y : DataW H × List MemPlace} (h : DataW.trod enc Tryz.prog w base spare held n 23 [c] = some y) : ∃ a len cap, ∃ xs : List Kd, c = .slice a len cap ∧ RRow w a len cap 4 (xs.map kdF) := by
  rcases open_slice Tryz.underlying23 h with ⟨hcs, _⟩ | ⟨a, len, cap, m, n', D, Pl, hcs, hb, hl, hm, hmm, _, hx⟩
  · exact ⟨none, 0, 0, [], by simpa using hcs, rfl, Nat.le_refl _, by omega, .inl rfl⟩
  have hlm : len ≤ m := by rw [hmm]; split <;> omega
  have hm' : cap ≤ 9223372036854775807 := by unfold maxLen at hm; omega
  have hce : Tryz.prog.cellsOf 96 = 4 := by kernel_rfl
  rw [hce] at hx
  by_cases h0 : len = 0
  · subst h0
    exact ⟨some a, 0, cap, [], by simpa using hcs, rfl, hl, hm', .inl rfl⟩
  obtain ⟨b, o, spot⟩ := a
  obtain ⟨cs0, k1, k2⟩ := hx 0 (by omega)
  have hspot : spot = none := by
    obtain ⟨_, hl0, hc0⟩ := World.cells?_some k1
    have := hc0 0 (by omega)
    rw [List.getElem?_eq_getElem (by omega)] at this
    simpa [Addr.add] using World.cell?_spot this
  subst hspot
  have hblt : b < w.heap.size := by
    obtain ⟨_, hl0, hc0⟩ := World.cells?_some k1
    have := hc0 0 (by omega)
    rw [List.getElem?_eq_getElem (by omega)] at this
    rcases Nat.lt_or_ge b w.heap.size with h1 | h1
    · exact h1
    · simp [Addr.add, World.cell?, Array.getElem?_eq_none h1] at this
  have each : ∀ i, i < len → ∃ v : Kd, RAt w b (o + i * 4) (kdF v) := fun i hi => by
    obtain ⟨cs, k1, k2⟩ := hx i (by omega)
    obtain ⟨_, hl0, hc0⟩ := World.cells?_some k1
    refine kd_of_trod (fun j hj => ?_) k2
    have := hc0 j hj
    rw [add_add, Addr.add_lit] at this
    rw [Nat.add_assoc]
    exact this
  have hin : Inhabited Kd := ⟨⟨⟨#[]⟩, false, false, ⟨#[]⟩⟩⟩
  obtain ⟨f, hf⟩ := choose_lt each
  refine ⟨some ⟨b, o, none⟩, len, cap, (List.range len).map f, by simpa using hcs, by simp, hl, hm', .inr ⟨b, o, rfl, hblt, fun j r hj => ?_⟩⟩
  rw [List.getElem?_map, List.getElem?_map] at hj
  by_cases hjl : j < len
  · rw [List.getElem?_range hjl] at hj
    obtain rfl := Option.some.inj hj
    exact hf j hjl
  · rw [List.getElem?_eq_none (by simp; omega)] at hj
    cases hj

theorem vd_of_trod {b o n : Nat} {cs : List Value} {x : DataW H × List MemPlace} (hc : ∀ i, i < 8 → w.cell? ⟨b, o + i, none⟩ = cs[i]?) (h : DataW.trod enc Tryz.prog w base spare held n 99 cs = some x) : ∃ v : Vd, RAt w b o (vdF v) := by
  obtain ⟨m, hl, hf⟩ := open_aggC Tryz.underlying99 (by kernel_rfl) (by kernel_rfl) h
  obtain ⟨c0, y0, e0, t0⟩ := hf 0 _ rfl
  obtain ⟨b0, q0, -, s0⟩ := DataW.trod_string Tryz.underlying9 t0
  obtain rfl : c0 = .string b0 := by simpa using q0
  obtain ⟨c1, y1, e1, t1⟩ := hf 1 _ rfl
  obtain ⟨b1, q1, -, s1⟩ := DataW.trod_int Tryz.underlying2 t1
  obtain rfl : c1 = .int .i64 b1 := by simpa using q1
  obtain ⟨c2, y2, e2, t2⟩ := hf 2 _ rfl
  obtain ⟨b2, q2, -, s2⟩ := DataW.trod_string Tryz.underlying9 t2
  obtain rfl : c2 = .string b2 := by simpa using q2
  obtain ⟨c3, y3, e3, t3⟩ := hf 3 _ rfl
  obtain ⟨b3, q3, -, s3⟩ := DataW.trod_string Tryz.underlying9 t3
  obtain rfl : c3 = .string b3 := by simpa using q3
  obtain ⟨c4, y4, e4, t4⟩ := hf 4 _ rfl
  obtain ⟨b4, q4, -⟩ := DataW.trod_bool Tryz.underlying4 t4
  obtain rfl : c4 = .bool b4 := by simpa using q4
  obtain ⟨c5, y5, e5, t5⟩ := hf 5 _ rfl
  obtain ⟨b5, q5, -, s5⟩ := DataW.trod_string Tryz.underlying9 t5
  obtain rfl : c5 = .string b5 := by simpa using q5
  obtain ⟨c6, y6, e6, t6⟩ := hf 6 _ rfl
  obtain ⟨b6, q6, -⟩ := DataW.trod_bool Tryz.underlying4 t6
  obtain rfl : c6 = .bool b6 := by simpa using q6
  obtain ⟨c7, y7, e7, t7⟩ := hf 7 _ rfl
  obtain ⟨b7, l7, p7, zz, rfl, r7⟩ := row_of_trod Tryz.underlying67 Tryz.underlying9 (by kernel_rfl) t7
  unfold maxLen at s0 s2 s3 s5
  refine ⟨⟨b0, b1, b2, b3, b4, b5, b6, zz⟩, fun i f hi => ?_⟩
  rcases i with _ | _ | _ | _ | _ | _ | _ | _ | i
  · cases hi
    exact ⟨_, (hc 0 (by omega)).trans e0, rfl, show b0.size ≤ _ by omega⟩
  · cases hi
    exact ⟨_, (hc 1 (by omega)).trans e1, rfl⟩
  · cases hi
    exact ⟨_, (hc 2 (by omega)).trans e2, rfl, show b2.size ≤ _ by omega⟩
  · cases hi
    exact ⟨_, (hc 3 (by omega)).trans e3, rfl, show b3.size ≤ _ by omega⟩
  · cases hi
    exact ⟨_, (hc 4 (by omega)).trans e4, rfl⟩
  · cases hi
    exact ⟨_, (hc 5 (by omega)).trans e5, rfl, show b5.size ≤ _ by omega⟩
  · cases hi
    exact ⟨_, (hc 6 (by omega)).trans e6, rfl⟩
  · cases hi
    exact ⟨_, (hc 7 (by omega)).trans e7, b7, l7, p7, rfl, r7⟩
  · first | (cases hi; done) | (simp [vdF] at hi; done)

theorem vdrow_of_trod {n : Nat} {c : Value} {y : DataW H × List MemPlace} (h : DataW.trod enc Tryz.prog w base spare held n 24 [c] = some y) : ∃ a len cap, ∃ xs : List Vd, c = .slice a len cap ∧ RRow w a len cap 8 (xs.map vdF) := by
  rcases open_slice Tryz.underlying24 h with ⟨hcs, _⟩ | ⟨a, len, cap, m, n', D, Pl, hcs, hb, hl, hm, hmm, _, hx⟩
  · exact ⟨none, 0, 0, [], by simpa using hcs, rfl, Nat.le_refl _, by omega, .inl rfl⟩
  have hlm : len ≤ m := by rw [hmm]; split <;> omega
  have hm' : cap ≤ 9223372036854775807 := by unfold maxLen at hm; omega
  have hce : Tryz.prog.cellsOf 99 = 8 := by kernel_rfl
  rw [hce] at hx
  by_cases h0 : len = 0
  · subst h0
    exact ⟨some a, 0, cap, [], by simpa using hcs, rfl, hl, hm', .inl rfl⟩
  obtain ⟨b, o, spot⟩ := a
  obtain ⟨cs0, k1, k2⟩ := hx 0 (by omega)
  have hspot : spot = none := by
    obtain ⟨_, hl0, hc0⟩ := World.cells?_some k1
    have := hc0 0 (by omega)
    rw [List.getElem?_eq_getElem (by omega)] at this
    simpa [Addr.add] using World.cell?_spot this
  subst hspot
  have hblt : b < w.heap.size := by
    obtain ⟨_, hl0, hc0⟩ := World.cells?_some k1
    have := hc0 0 (by omega)
    rw [List.getElem?_eq_getElem (by omega)] at this
    rcases Nat.lt_or_ge b w.heap.size with h1 | h1
    · exact h1
    · simp [Addr.add, World.cell?, Array.getElem?_eq_none h1] at this
  have each : ∀ i, i < len → ∃ v : Vd, RAt w b (o + i * 8) (vdF v) := fun i hi => by
    obtain ⟨cs, k1, k2⟩ := hx i (by omega)
    obtain ⟨_, hl0, hc0⟩ := World.cells?_some k1
    refine vd_of_trod (fun j hj => ?_) k2
    have := hc0 j hj
    rw [add_add, Addr.add_lit] at this
    rw [Nat.add_assoc]
    exact this
  have hin : Inhabited Vd := ⟨⟨⟨#[]⟩, 0, ⟨#[]⟩, ⟨#[]⟩, false, ⟨#[]⟩, false, []⟩⟩
  obtain ⟨f, hf⟩ := choose_lt each
  refine ⟨some ⟨b, o, none⟩, len, cap, (List.range len).map f, by simpa using hcs, by simp, hl, hm', .inr ⟨b, o, rfl, hblt, fun j r hj => ?_⟩⟩
  rw [List.getElem?_map, List.getElem?_map] at hj
  by_cases hjl : j < len
  · rw [List.getElem?_range hjl] at hj
    obtain rfl := Option.some.inj hj
    exact hf j hjl
  · rw [List.getElem?_eq_none (by simp; omega)] at hj
    cases hj

theorem xd_of_trod {b o n : Nat} {cs : List Value} {x : DataW H × List MemPlace} (hc : ∀ i, i < 5 → w.cell? ⟨b, o + i, none⟩ = cs[i]?) (h : DataW.trod enc Tryz.prog w base spare held n 102 cs = some x) : ∃ v : Xd, RAt w b o (xdF v) := by
  obtain ⟨m, hl, hf⟩ := open_aggC Tryz.underlying102 (by kernel_rfl) (by kernel_rfl) h
  obtain ⟨c0, y0, e0, t0⟩ := hf 0 _ rfl
  obtain ⟨b0, q0, -, s0⟩ := DataW.trod_string Tryz.underlying9 t0
  obtain rfl : c0 = .string b0 := by simpa using q0
  obtain ⟨c1, y1, e1, t1⟩ := hf 1 _ rfl
  obtain ⟨b1, q1, -, s1⟩ := DataW.trod_int Tryz.underlying2 t1
  obtain rfl : c1 = .int .i64 b1 := by simpa using q1
  obtain ⟨c2, y2, e2, t2⟩ := hf 2 _ rfl
  obtain ⟨b2, q2, -, s2⟩ := DataW.trod_string Tryz.underlying9 t2
  obtain rfl : c2 = .string b2 := by simpa using q2
  obtain ⟨c3, y3, e3, t3⟩ := hf 3 _ rfl
  obtain ⟨b3, q3, -⟩ := DataW.trod_bool Tryz.underlying4 t3
  obtain rfl : c3 = .bool b3 := by simpa using q3
  obtain ⟨c4, y4, e4, t4⟩ := hf 4 _ rfl
  obtain ⟨b4, q4, -, s4⟩ := DataW.trod_string Tryz.underlying9 t4
  obtain rfl : c4 = .string b4 := by simpa using q4
  unfold maxLen at s0 s2 s4
  refine ⟨⟨b0, b1, b2, b3, b4⟩, fun i f hi => ?_⟩
  rcases i with _ | _ | _ | _ | _ | i
  · cases hi
    exact ⟨_, (hc 0 (by omega)).trans e0, rfl, show b0.size ≤ _ by omega⟩
  · cases hi
    exact ⟨_, (hc 1 (by omega)).trans e1, rfl⟩
  · cases hi
    exact ⟨_, (hc 2 (by omega)).trans e2, rfl, show b2.size ≤ _ by omega⟩
  · cases hi
    exact ⟨_, (hc 3 (by omega)).trans e3, rfl⟩
  · cases hi
    exact ⟨_, (hc 4 (by omega)).trans e4, rfl, show b4.size ≤ _ by omega⟩
  · first | (cases hi; done) | (simp [xdF] at hi; done)

theorem xdrow_of_trod {n : Nat} {c : Value} {y : DataW H × List MemPlace} (h : DataW.trod enc Tryz.prog w base spare held n 25 [c] = some y) : ∃ a len cap, ∃ xs : List Xd, c = .slice a len cap ∧ RRow w a len cap 5 (xs.map xdF) := by
  rcases open_slice Tryz.underlying25 h with ⟨hcs, _⟩ | ⟨a, len, cap, m, n', D, Pl, hcs, hb, hl, hm, hmm, _, hx⟩
  · exact ⟨none, 0, 0, [], by simpa using hcs, rfl, Nat.le_refl _, by omega, .inl rfl⟩
  have hlm : len ≤ m := by rw [hmm]; split <;> omega
  have hm' : cap ≤ 9223372036854775807 := by unfold maxLen at hm; omega
  have hce : Tryz.prog.cellsOf 102 = 5 := by kernel_rfl
  rw [hce] at hx
  by_cases h0 : len = 0
  · subst h0
    exact ⟨some a, 0, cap, [], by simpa using hcs, rfl, hl, hm', .inl rfl⟩
  obtain ⟨b, o, spot⟩ := a
  obtain ⟨cs0, k1, k2⟩ := hx 0 (by omega)
  have hspot : spot = none := by
    obtain ⟨_, hl0, hc0⟩ := World.cells?_some k1
    have := hc0 0 (by omega)
    rw [List.getElem?_eq_getElem (by omega)] at this
    simpa [Addr.add] using World.cell?_spot this
  subst hspot
  have hblt : b < w.heap.size := by
    obtain ⟨_, hl0, hc0⟩ := World.cells?_some k1
    have := hc0 0 (by omega)
    rw [List.getElem?_eq_getElem (by omega)] at this
    rcases Nat.lt_or_ge b w.heap.size with h1 | h1
    · exact h1
    · simp [Addr.add, World.cell?, Array.getElem?_eq_none h1] at this
  have each : ∀ i, i < len → ∃ v : Xd, RAt w b (o + i * 5) (xdF v) := fun i hi => by
    obtain ⟨cs, k1, k2⟩ := hx i (by omega)
    obtain ⟨_, hl0, hc0⟩ := World.cells?_some k1
    refine xd_of_trod (fun j hj => ?_) k2
    have := hc0 j hj
    rw [add_add, Addr.add_lit] at this
    rw [Nat.add_assoc]
    exact this
  have hin : Inhabited Xd := ⟨⟨⟨#[]⟩, 0, ⟨#[]⟩, false, ⟨#[]⟩⟩⟩
  obtain ⟨f, hf⟩ := choose_lt each
  refine ⟨some ⟨b, o, none⟩, len, cap, (List.range len).map f, by simpa using hcs, by simp, hl, hm', .inr ⟨b, o, rfl, hblt, fun j r hj => ?_⟩⟩
  rw [List.getElem?_map, List.getElem?_map] at hj
  by_cases hjl : j < len
  · rw [List.getElem?_range hjl] at hj
    obtain rfl := Option.some.inj hj
    exact hf j hjl
  · rw [List.getElem?_eq_none (by simp; omega)] at hj
    cases hj

theorem pd_of_trod {b o n : Nat} {cs : List Value} {x : DataW H × List MemPlace} (hc : ∀ i, i < 6 → w.cell? ⟨b, o + i, none⟩ = cs[i]?) (h : DataW.trod enc Tryz.prog w base spare held n 104 cs = some x) : ∃ v : Pd, RAt w b o (pdF v) := by
  obtain ⟨m, hl, hf⟩ := open_aggC Tryz.underlying104 (by kernel_rfl) (by kernel_rfl) h
  obtain ⟨c0, y0, e0, t0⟩ := hf 0 _ rfl
  obtain ⟨b0, q0, -, s0⟩ := DataW.trod_string Tryz.underlying9 t0
  obtain rfl : c0 = .string b0 := by simpa using q0
  obtain ⟨c1, y1, e1, t1⟩ := hf 1 _ rfl
  obtain ⟨b1, q1, -, s1⟩ := DataW.trod_int Tryz.underlying2 t1
  obtain rfl : c1 = .int .i64 b1 := by simpa using q1
  obtain ⟨c2, y2, e2, t2⟩ := hf 2 _ rfl
  obtain ⟨b2, q2, -, s2⟩ := DataW.trod_string Tryz.underlying9 t2
  obtain rfl : c2 = .string b2 := by simpa using q2
  obtain ⟨c3, y3, e3, t3⟩ := hf 3 _ rfl
  obtain ⟨b3, l3, p3, zz, rfl, r3⟩ := row_of_trod Tryz.underlying67 Tryz.underlying9 (by kernel_rfl) t3
  obtain ⟨c4, y4, e4, t4⟩ := hf 4 _ rfl
  obtain ⟨b4, q4, -, s4⟩ := DataW.trod_string Tryz.underlying9 t4
  obtain rfl : c4 = .string b4 := by simpa using q4
  obtain ⟨c5, y5, e5, t5⟩ := hf 5 _ rfl
  obtain ⟨b5, q5, -, s5⟩ := DataW.trod_int Tryz.underlying2 t5
  obtain rfl : c5 = .int .i64 b5 := by simpa using q5
  unfold maxLen at s0 s2 s4
  refine ⟨⟨b0, b1, b2, zz, b4, b5⟩, fun i f hi => ?_⟩
  rcases i with _ | _ | _ | _ | _ | _ | i
  · cases hi
    exact ⟨_, (hc 0 (by omega)).trans e0, rfl, show b0.size ≤ _ by omega⟩
  · cases hi
    exact ⟨_, (hc 1 (by omega)).trans e1, rfl⟩
  · cases hi
    exact ⟨_, (hc 2 (by omega)).trans e2, rfl, show b2.size ≤ _ by omega⟩
  · cases hi
    exact ⟨_, (hc 3 (by omega)).trans e3, b3, l3, p3, rfl, r3⟩
  · cases hi
    exact ⟨_, (hc 4 (by omega)).trans e4, rfl, show b4.size ≤ _ by omega⟩
  · cases hi
    exact ⟨_, (hc 5 (by omega)).trans e5, rfl⟩
  · first | (cases hi; done) | (simp [pdF] at hi; done)

theorem pdrow_of_trod {n : Nat} {c : Value} {y : DataW H × List MemPlace} (h : DataW.trod enc Tryz.prog w base spare held n 26 [c] = some y) : ∃ a len cap, ∃ xs : List Pd, c = .slice a len cap ∧ RRow w a len cap 6 (xs.map pdF) := by
  rcases open_slice Tryz.underlying26 h with ⟨hcs, _⟩ | ⟨a, len, cap, m, n', D, Pl, hcs, hb, hl, hm, hmm, _, hx⟩
  · exact ⟨none, 0, 0, [], by simpa using hcs, rfl, Nat.le_refl _, by omega, .inl rfl⟩
  have hlm : len ≤ m := by rw [hmm]; split <;> omega
  have hm' : cap ≤ 9223372036854775807 := by unfold maxLen at hm; omega
  have hce : Tryz.prog.cellsOf 104 = 6 := by kernel_rfl
  rw [hce] at hx
  by_cases h0 : len = 0
  · subst h0
    exact ⟨some a, 0, cap, [], by simpa using hcs, rfl, hl, hm', .inl rfl⟩
  obtain ⟨b, o, spot⟩ := a
  obtain ⟨cs0, k1, k2⟩ := hx 0 (by omega)
  have hspot : spot = none := by
    obtain ⟨_, hl0, hc0⟩ := World.cells?_some k1
    have := hc0 0 (by omega)
    rw [List.getElem?_eq_getElem (by omega)] at this
    simpa [Addr.add] using World.cell?_spot this
  subst hspot
  have hblt : b < w.heap.size := by
    obtain ⟨_, hl0, hc0⟩ := World.cells?_some k1
    have := hc0 0 (by omega)
    rw [List.getElem?_eq_getElem (by omega)] at this
    rcases Nat.lt_or_ge b w.heap.size with h1 | h1
    · exact h1
    · simp [Addr.add, World.cell?, Array.getElem?_eq_none h1] at this
  have each : ∀ i, i < len → ∃ v : Pd, RAt w b (o + i * 6) (pdF v) := fun i hi => by
    obtain ⟨cs, k1, k2⟩ := hx i (by omega)
    obtain ⟨_, hl0, hc0⟩ := World.cells?_some k1
    refine pd_of_trod (fun j hj => ?_) k2
    have := hc0 j hj
    rw [add_add, Addr.add_lit] at this
    rw [Nat.add_assoc]
    exact this
  have hin : Inhabited Pd := ⟨⟨⟨#[]⟩, 0, ⟨#[]⟩, [], ⟨#[]⟩, 0⟩⟩
  obtain ⟨f, hf⟩ := choose_lt each
  refine ⟨some ⟨b, o, none⟩, len, cap, (List.range len).map f, by simpa using hcs, by simp, hl, hm', .inr ⟨b, o, rfl, hblt, fun j r hj => ?_⟩⟩
  rw [List.getElem?_map, List.getElem?_map] at hj
  by_cases hjl : j < len
  · rw [List.getElem?_range hjl] at hj
    obtain rfl := Option.some.inj hj
    exact hf j hjl
  · rw [List.getElem?_eq_none (by simp; omega)] at hj
    cases hj

end

end Rc
end Go.Proofs.YtpibkpofdbjdaaaGreatDoor
