/-
  The law FnExactBestFor, walked: it returns true at every list of volumes, claim and zone.
-/
import Derived.Test.YtjkgpkgbaapdmaaBestF
import Derived.Test.YtjkgpkgbaapdmaaVEq
import Derived.Test.YtjkgpkgbaapdmaaVsMark
import Derived.Test.YtjkgpkgbaapdmaaVMark
namespace Go.Proofs.Ytjkgpkgbaapdmaa
open Go.RowKit Mk

/-- A list of volumes, in the world. -/
def VsV (vs : List Vd) (len : Nat) (v : Value) (w : World) : Prop := ∃ g, v = .slice (some ⟨g, 0, none⟩) len len ∧ VsRow w (some ⟨g, 0, none⟩) len len vs
theorem VsV.mono (vs : List Vd) (len : Nat) : Fact.Mono (VsV vs len) := fun _ _ _ ⟨g, h, h'⟩ hb => ⟨g, h, h'.below hb⟩
/-- The answer's value, its list in the world. -/
def BestV (vs : List Vd) (n' : ByteArray) (c' : Int) (k' : ByteArray) (x' : Bool) (v' : ByteArray) (t : ByteArray) (v : Value) (w : World) : Prop :=
  ∃ u p a l c, v = .agg #[.string u.n, .int .i64 u.c, .string u.z, .string u.k, .bool u.x, .string u.m, .bool u.y, .slice a l c, .int .i64 p] ∧ BestIs vs n' c' k' x' v' t u p ∧ TxRow w a l c u.zs ∧ (u.zs = [] ∨ ∃ g cur, a = some (⟨g, 0, none⟩ : Addr) ∧ w.heap[g]? = some (.cells cur 9 (0, 0)))
theorem BestV.mono (vs : List Vd) (n' : ByteArray) (c' : Int) (k' : ByteArray) (x' : Bool) (v' : ByteArray) (t : ByteArray) : Fact.Mono (BestV vs n' c' k' x' v' t) := fun _ _ _ ⟨u, p, a, l, c, h, h1, h2, h3⟩ hb =>
  ⟨u, p, a, l, c, h, h1, h2.below hb, h3.imp id fun ⟨g, cur, e, hg⟩ => ⟨g, cur, e, (hb.block _ (lt_of_some hg)).trans hg⟩⟩
/-- A new place for an answer. -/
def FreshV (W : World) (v : Value) (w : World) : Prop :=
  ∃ b, v = .pointer (some ⟨b, 0, none⟩) ∧ W.heap.size ≤ b ∧ w.heap[b]? = some (.cells #[.string ⟨#[]⟩, .int .i64 0, .string ⟨#[]⟩, .string ⟨#[]⟩, .bool false, .string ⟨#[]⟩, .bool false, .slice none 0 0, .int .i64 0] 32 (0, 0))
theorem FreshV.mono (W : World) : Fact.Mono (FreshV W) := fun _ _ _ h hb => h.imp fun _ h => ⟨h.1, h.2.1, (hb.block _ (lt_of_some h.2.2)).trans h.2.2⟩
theorem put9B {w : World} {b : Nat} {T : TypeId} {u0 u1 u2 u3 u4 u5 u6 u7 u8 v0 v1 v2 v3 v4 v5 v6 v7 v8 : Value} (h : w.heap[b]? = some (.cells #[u0, u1, u2, u3, u4, u5, u6, u7, u8] T (0, 0))) :
    (((((((((w.setCell ⟨b, 0, none⟩ v0).setCell ⟨b, 1, none⟩ v1).setCell ⟨b, 2, none⟩ v2).setCell ⟨b, 3, none⟩ v3).setCell ⟨b, 4, none⟩ v4).setCell ⟨b, 5, none⟩ v5).setCell ⟨b, 6, none⟩ v6).setCell ⟨b, 7, none⟩ v7).setCell ⟨b, 8, none⟩ v8).heap[b]? = some (.cells #[v0, v1, v2, v3, v4, v5, v6, v7, v8] T (0, 0)) := by
  have h0 : (w.setCell ⟨b, 0, none⟩ v0).heap[b]? = some (.cells #[v0, u1, u2, u3, u4, u5, u6, u7, u8] T (0, 0)) := block_set h v0
  have h1 : ((w.setCell ⟨b, 0, none⟩ v0).setCell ⟨b, 1, none⟩ v1).heap[b]? = some (.cells #[v0, v1, u2, u3, u4, u5, u6, u7, u8] T (0, 0)) := block_set h0 v1
  have h2 : (((w.setCell ⟨b, 0, none⟩ v0).setCell ⟨b, 1, none⟩ v1).setCell ⟨b, 2, none⟩ v2).heap[b]? = some (.cells #[v0, v1, v2, u3, u4, u5, u6, u7, u8] T (0, 0)) := block_set h1 v2
  have h3 : ((((w.setCell ⟨b, 0, none⟩ v0).setCell ⟨b, 1, none⟩ v1).setCell ⟨b, 2, none⟩ v2).setCell ⟨b, 3, none⟩ v3).heap[b]? = some (.cells #[v0, v1, v2, v3, u4, u5, u6, u7, u8] T (0, 0)) := block_set h2 v3
  have h4 : (((((w.setCell ⟨b, 0, none⟩ v0).setCell ⟨b, 1, none⟩ v1).setCell ⟨b, 2, none⟩ v2).setCell ⟨b, 3, none⟩ v3).setCell ⟨b, 4, none⟩ v4).heap[b]? = some (.cells #[v0, v1, v2, v3, v4, u5, u6, u7, u8] T (0, 0)) := block_set h3 v4
  have h5 : ((((((w.setCell ⟨b, 0, none⟩ v0).setCell ⟨b, 1, none⟩ v1).setCell ⟨b, 2, none⟩ v2).setCell ⟨b, 3, none⟩ v3).setCell ⟨b, 4, none⟩ v4).setCell ⟨b, 5, none⟩ v5).heap[b]? = some (.cells #[v0, v1, v2, v3, v4, v5, u6, u7, u8] T (0, 0)) := block_set h4 v5
  have h6 : (((((((w.setCell ⟨b, 0, none⟩ v0).setCell ⟨b, 1, none⟩ v1).setCell ⟨b, 2, none⟩ v2).setCell ⟨b, 3, none⟩ v3).setCell ⟨b, 4, none⟩ v4).setCell ⟨b, 5, none⟩ v5).setCell ⟨b, 6, none⟩ v6).heap[b]? = some (.cells #[v0, v1, v2, v3, v4, v5, v6, u7, u8] T (0, 0)) := block_set h5 v6
  have h7 : ((((((((w.setCell ⟨b, 0, none⟩ v0).setCell ⟨b, 1, none⟩ v1).setCell ⟨b, 2, none⟩ v2).setCell ⟨b, 3, none⟩ v3).setCell ⟨b, 4, none⟩ v4).setCell ⟨b, 5, none⟩ v5).setCell ⟨b, 6, none⟩ v6).setCell ⟨b, 7, none⟩ v7).heap[b]? = some (.cells #[v0, v1, v2, v3, v4, v5, v6, v7, u8] T (0, 0)) := block_set h6 v7
  have h8 : (((((((((w.setCell ⟨b, 0, none⟩ v0).setCell ⟨b, 1, none⟩ v1).setCell ⟨b, 2, none⟩ v2).setCell ⟨b, 3, none⟩ v3).setCell ⟨b, 4, none⟩ v4).setCell ⟨b, 5, none⟩ v5).setCell ⟨b, 6, none⟩ v6).setCell ⟨b, 7, none⟩ v7).setCell ⟨b, 8, none⟩ v8).heap[b]? = some (.cells #[v0, v1, v2, v3, v4, v5, v6, v7, v8] T (0, 0)) := block_set h7 v8
  exact h8
/-- A list stands while a block that is another is written. -/
theorem TxRow.but {w w' : World} {a : Option Addr} {l c : Nat} {zs : List ByteArray} (h : TxRow w a l c zs) (hs : w.heap.size ≤ w'.heap.size) (hn : zs = [] ∨ ∃ g, a = some ⟨g, 0, none⟩ ∧ w'.heap[g]? = w.heap[g]?) : TxRow w' a l c zs := by
  obtain ⟨h1, h2, h3, h4, h5⟩ := h
  refine ⟨h1, h2, h3, h4, ?_⟩
  rcases hn with hz | ⟨g, rfl, hg⟩
  · exact .inl hz
  rcases h5 with h5 | ⟨b', o, e, hlt, hc⟩
  · exact .inl h5
  cases e
  exact .inr ⟨g, 0, rfl, by omega, fun j x hx => by have := hc j x hx; simp only [World.cell?, hg] at this ⊢; exact this⟩
theorem bestV_mem (sv : Vd → Bool) (vs : List Vd) : ∀ acc u, vs.foldl (stepB sv) acc = some u → u ∈ vs ∨ acc = some u := by
  induction vs with
  | nil => intro acc u h; exact .inr h
  | cons y ys ih =>
    intro acc u h
    rcases ih _ _ h with h1 | h1
    · exact .inl (List.mem_cons_of_mem _ h1)
    · cases acc with
      | none =>
        simp only [stepB] at h1
        by_cases hq : (sv y && true) = true
        · rw [if_pos hq] at h1
          obtain rfl := Option.some.inj h1
          exact .inl List.mem_cons_self
        · rw [if_neg hq] at h1
          cases h1
      | some z =>
        simp only [stepB] at h1
        by_cases hq : (sv y && betB y z) = true
        · rw [if_pos hq] at h1
          obtain rfl := Option.some.inj h1
          exact .inl List.mem_cons_self
        · rw [if_neg hq] at h1
          exact .inr h1
theorem BestIs.few {vs : List Vd} {n' : ByteArray} {c' : Int} {k' : ByteArray} {x' : Bool} {v' t : ByteArray} {u : Vd} {p : Int} (h : BestIs vs n' c' k' x' v' t u p) : u.zs.length ≤ 6 := by
  rcases h with ⟨-, rfl, -⟩ | ⟨-, -, rfl, -⟩ | ⟨-, -, -, rfl, -⟩ | ⟨-, hR, hb, -⟩
  · simp [vZ]
  · simp [vZ]
  · simp [vZ]
  · rcases bestV_mem _ _ _ _ hb with h | h
    · obtain ⟨j, hj⟩ := List.getElem?_of_mem h
      exact names_few (hR.2.2.2 j u hj).2.2.2.2.2.2
    · cases h

set_option linter.unusedVariables false in
set_option maxRecDepth 10000 in
set_option maxHeartbeats 6400000 in
theorem fnExactBestFor_walk (a0 : Option Addr) (len cap : Nat) (vs : List Vd) (n' : ByteArray) (c' : Int) (k' : ByteArray) (x' : Bool) (v' : ByteArray) (t : ByteArray) (w : World) (hr : VsRow w a0 len cap vs) (hn' : n'.size ≤ maxLen) (hc' : (Lit.int .i64 c').wf = true) (hk' : k'.size ≤ maxLen) (hv' : v'.size ≤ maxLen) (ht : t.size ≤ maxLen) :
    Calls Try.prog 5 #[.slice a0 len cap, .agg #[.string n', .int .i64 c', .string k', .bool x', .string v'], .string t] w fun e w' => e = .returned (.bool true) ∧ Below w.heap.size w w' := by
  unfold maxLen at hn' hk' hv' ht
  clear hc'
  have HR := hidK hr
  have hvl : vs.length = len := hr.1
  clear hr
  by_cases hl : 1048576 < t.size
  · go_enter Try.func5, Try.ntmps5
    go_wp2
    go_ret
    exact ⟨rfl, below1 _ _⟩
  go_enter Try.func5, Try.ntmps5
  go_wp2_with fail
  refine (szVs_any a0 len cap vs _ _ (HR.out.below (below1 _ _)) (by decide) (by decide)).mono ?_
  rintro e w1 ⟨r, rfl, hr, hb⟩
  obtain ⟨g0, hb1, -⟩ := slotK hb
  have HB := hidK hb1
  have HG0 := hidK g0
  have d0 : w1.cell? ⟨w.heap.size, 0, none⟩ = some (.string n') := cellK g0 0
  have d1 : w1.cell? ⟨w.heap.size, 1, none⟩ = some (.int .i64 c') := cellK g0 1
  have d2 : w1.cell? ⟨w.heap.size, 2, none⟩ = some (.string k') := cellK g0 2
  have d3 : w1.cell? ⟨w.heap.size, 3, none⟩ = some (.bool x') := cellK g0 3
  have d4 : w1.cell? ⟨w.heap.size, 4, none⟩ = some (.string v') := cellK g0 4
  clear g0 hb hb1
  rcases hr with rfl | ⟨hr0, hr1, hlen, hzl⟩
  · go_wp2
    go_ret
    exact ⟨rfl, HB.out⟩
  have HZL := hidK hzl
  clear hzl
  go_wp2_with fail
  refine (szClaim_any n' c' k' x' v' r _ (by omega) (by omega) (by omega) (by omega) (by omega)).mono ?_
  rintro e w2 ⟨r2, rfl, hr, hb⟩
  have HB2 := hidK (HB.out.trans (hb.mono HB.out.size))
  have HX0 := hidK ((hb.block _ (lt_of_some HG0.out)).trans HG0.out)
  clear hb d0 d1 d2 d3 d4 HG0 HB
  rcases hr with rfl | ⟨hr2, -, -⟩
  · go_wp2
    go_ret
    exact ⟨rfl, HB2.out⟩
  have HFT : Hid (∀ (j : Nat) v, vs[j]? = some v → v.Fit ∧ v.zs.length ≤ 1048576 ∧ ∀ (i : Nat) s, v.zs[i]? = some s → s.size ≤ 9223372036854775807) := fun j v hv => by
    obtain ⟨b, o, v2, -, -, hv2, hf, va, vl, vc, hvr, -⟩ := HR.out.at (j := j) (by have := (List.getElem?_eq_some_iff.1 hv).1; omega)
    rw [hv] at hv2
    obtain rfl := Option.some.inj hv2
    exact ⟨hf, HZL.out j v hv, hvr.2.2.2.1⟩
  have HTO := hidK (fun (x : World) (h : Below w.heap.size w x) => toVs_any a0 len cap vs x (HR.out.below h) hlen HZL.out)
  clear HZL
  go_wp2_with fail
  rename_i K0 hK0
  refine wp_region_grow_last (by kernel_rfl) rfl rfl (by kernel_rfl) ?_
  refine' Grow.stepC _ rfl ?_ ?_
  rotate_left 1
  · refine Obl.plain rfl ?_
    intro ac wg K hsz hW hf hK; clear hsz
    have e0 := hf 0 (by decide)
    simp [slotFact, List.lookup] at e0
    clear hf
    go_simp
    refine hK _ _ (Below.refl _ _) ?_
    with_reducible rfl
  refine Grow.step (VsV vs len) rfl (VsV.mono vs len) ?_ ?_
  · refine Obl.plain rfl ?_
    intro ac wg K hsz hW hf hK; clear hsz
    have e28 := hf 28 (by decide)
    simp [slotFact, List.lookup] at e28
    clear hf
    go_simp
    refine (HTO.out _ (HB2.out.trans (hW.mono HB2.out.size))).mono ?_
    rintro e w5 ⟨rfl, hp, hb5⟩
    exact hK _ _ hb5 ⟨_, rfl, hp.row hvl hlen HFT.out⟩
  refine' Grow.stepC _ rfl ?_ ?_
  rotate_left 1
  · refine Obl.plain rfl ?_
    intro ac wg K hsz hW hf hK; clear hsz
    have e4 := hf 4 (by decide)
    simp [slotFact, List.lookup] at e4
    clear hf
    have gd := (hW.block _ (lt_of_some HX0.out)).trans HX0.out
    have d0 : wg.cell? ⟨w.heap.size, 0, none⟩ = some (.string n') := cellK gd 0
    have d1 : wg.cell? ⟨w.heap.size, 1, none⟩ = some (.int .i64 c') := cellK gd 1
    have d2 : wg.cell? ⟨w.heap.size, 2, none⟩ = some (.string k') := cellK gd 2
    have d3 : wg.cell? ⟨w.heap.size, 3, none⟩ = some (.bool x') := cellK gd 3
    have d4 : wg.cell? ⟨w.heap.size, 4, none⟩ = some (.string v') := cellK gd 4
    clear gd
    go_simp
    refine hK _ _ (Below.refl _ _) ?_
    with_reducible rfl
  refine' Grow.stepC (.agg #[.string n', .int .i64 c', .string k', .bool x', .string v']) rfl ?_ ?_
  · refine Obl.plain rfl ?_
    intro ac wg K hsz hW hf hK; clear hsz
    have e30 := hf 30 (by decide)
    simp [slotFact, List.lookup] at e30
    clear hf
    go_simp
    refine (toClaim_any n' c' k' x' v' _).mono ?_
    rintro e w5 ⟨rfl, hb5⟩
    exact hK _ _ hb5 rfl
  refine' Grow.stepC _ rfl ?_ ?_
  rotate_left 1
  · refine Obl.plain rfl ?_
    intro ac wg K hsz hW hf hK; clear hsz
    have e2 := hf 2 (by decide)
    simp [slotFact, List.lookup] at e2
    clear hf
    go_simp
    refine hK _ _ (Below.refl _ _) ?_
    with_reducible rfl
  refine Grow.step (BestV vs n' c' k' x' v' t) rfl (BestV.mono vs n' c' k' x' v' t) ?_ ?_
  · refine Obl.plain rfl ?_
    intro ac wg K hsz hW hf hK; clear hsz
    have e29 := hf 29 (by decide)
    simp [slotFact, List.lookup] at e29
    have e31 := hf 31 (by decide)
    simp [slotFact, List.lookup] at e31
    have e32 := hf 32 (by decide)
    simp [slotFact, List.lookup] at e32
    clear hf
    obtain ⟨g, e29, hrow⟩ := e29
    go_simp
    refine (sbest_any _ len len vs n' c' k' x' v' t _ (by omega) (by omega) (by omega) (by omega) hrow).mono ?_
    rintro e w5 ⟨u, p, a, l, c, rfl, hi, h1, h2, hb5⟩
    exact hK _ _ hb5 ⟨u, p, a, l, c, rfl, hi, h1, h2.imp id fun ⟨g, cur, e, _, hg⟩ => ⟨g, cur, e, hg⟩⟩
  refine Grow.step (FreshV w2) rfl (FreshV.mono w2) ?_ ?_
  · refine Obl.plain rfl ?_
    intro ac wg K hsz hW hf hK; clear hsz
    clear hf
    go_simp
    exact hK _ _ (below1 _ _) ⟨_, rfl, hW.size, Array.getElem?_push_size⟩
  refine Grow.done ?_
  intro q wz8 hW hf
  simp only [List.forall_mem_cons] at hf
  obtain ⟨⟨b8, h8, hbW, hgb⟩, ⟨u, p, a8, l8, c8, h33, hbi, htx, hti⟩, -⟩ := hf
  have HM := hidK hbi
  clear hbi
  have r0 : wz8.cell? ⟨b8, 0, none⟩ = some (.string ⟨#[]⟩) := cellK hgb 0
  have r1 : wz8.cell? ⟨b8, 1, none⟩ = some (.int .i64 0) := cellK hgb 1
  have r2 : wz8.cell? ⟨b8, 2, none⟩ = some (.string ⟨#[]⟩) := cellK hgb 2
  have r3 : wz8.cell? ⟨b8, 3, none⟩ = some (.string ⟨#[]⟩) := cellK hgb 3
  have r4 : wz8.cell? ⟨b8, 4, none⟩ = some (.bool false) := cellK hgb 4
  have r5 : wz8.cell? ⟨b8, 5, none⟩ = some (.string ⟨#[]⟩) := cellK hgb 5
  have r6 : wz8.cell? ⟨b8, 6, none⟩ = some (.bool false) := cellK hgb 6
  have r7 : wz8.cell? ⟨b8, 7, none⟩ = some (.slice none 0 0) := cellK hgb 7
  have r8 : wz8.cell? ⟨b8, 8, none⟩ = some (.int .i64 0) := cellK hgb 8
  have f0 : wz8.frozen? ⟨b8, 0, none⟩ = false := froK hgb 0
  have f1 : wz8.frozen? ⟨b8, 1, none⟩ = false := froK hgb 1
  have f2 : wz8.frozen? ⟨b8, 2, none⟩ = false := froK hgb 2
  have f3 : wz8.frozen? ⟨b8, 3, none⟩ = false := froK hgb 3
  have f4 : wz8.frozen? ⟨b8, 4, none⟩ = false := froK hgb 4
  have f5 : wz8.frozen? ⟨b8, 5, none⟩ = false := froK hgb 5
  have f6 : wz8.frozen? ⟨b8, 6, none⟩ = false := froK hgb 6
  have f7 : wz8.frozen? ⟨b8, 7, none⟩ = false := froK hgb 7
  have f8 : wz8.frozen? ⟨b8, 8, none⟩ = false := froK hgb 8
  have HV8 := hidK (put9B (v0 := .string u.n) (v1 := .int .i64 u.c) (v2 := .string u.z) (v3 := .string u.k) (v4 := .bool u.x) (v5 := .string u.m) (v6 := .bool u.y) (v7 := .slice a8 l8 c8) (v8 := .int .i64 p) hgb)
  have HBW := hidK (set_below9B (v0 := .string u.n) (v1 := .int .i64 u.c) (v2 := .string u.z) (v3 := .string u.k) (v4 := .bool u.x) (v5 := .string u.m) (v6 := .bool u.y) (v7 := .slice a8 l8 c8) (v8 := .int .i64 p) hbW hW)
  have HT8 : Hid (TxRow (((((((((wz8.setCell ⟨b8, 0, none⟩ (.string u.n)).setCell ⟨b8, 1, none⟩ (.int .i64 u.c)).setCell ⟨b8, 2, none⟩ (.string u.z)).setCell ⟨b8, 3, none⟩ (.string u.k)).setCell ⟨b8, 4, none⟩ (.bool u.x)).setCell ⟨b8, 5, none⟩ (.string u.m)).setCell ⟨b8, 6, none⟩ (.bool u.y)).setCell ⟨b8, 7, none⟩ (.slice a8 l8 c8)).setCell ⟨b8, 8, none⟩ (.int .i64 p)) a8 l8 c8 u.zs) := TxRow.but htx (by simp [World.setCell]) (hti.imp id fun ⟨g, cur, e, hg⟩ => ⟨g, e, heap_other9 (fun e => by subst e; rw [hg] at hgb; simp at hgb)⟩)
  clear hgb htx hti hW
  intro K hK
  rw [if_pos (by rfl)]
  simp only [putsAll, List.foldr, Act.put, List.setIfInBounds_toArray, List.set_cons_zero, List.set_cons_succ, h8, h33]
  simp only [List.getLast]
  go_simp
  refine hK _ _ ?_
  refine hK0 _ _ ?_
  clear hK hK0 K K0
  generalize (((((((((wz8.setCell ⟨b8, 0, none⟩ (.string u.n)).setCell ⟨b8, 1, none⟩ (.int .i64 u.c)).setCell ⟨b8, 2, none⟩ (.string u.z)).setCell ⟨b8, 3, none⟩ (.string u.k)).setCell ⟨b8, 4, none⟩ (.bool u.x)).setCell ⟨b8, 5, none⟩ (.string u.m)).setCell ⟨b8, 6, none⟩ (.bool u.y)).setCell ⟨b8, 7, none⟩ (.slice a8 l8 c8)).setCell ⟨b8, 8, none⟩ (.int .i64 p)) = y1 at HV8 HBW HT8 ⊢
  have HB2' := hidK (HB2.out.trans (HBW.out.mono HB2.out.size))
  have HX0' := hidK ((HBW.out.block _ (lt_of_some HX0.out)).trans HX0.out)
  clear HBW HB2 HX0 r0 f0 r1 f1 r2 f2 r3 f3 r4 f4 r5 f5 r6 f6 r7 f7 r8 f8
  go_wp2_with fail
  refine (HTO.out _ HB2'.out).mono ?_
  rintro e y2 ⟨rfl, hp2, hb2⟩
  have HP2 := hidK (hp2.row hvl hlen HFT.out)
  have HO2 := hidK (hp2.own hvl (Nat.le_refl _) (fun j v hv => (HFT.out j v hv).2.1))
  have HB3 := hidK (HB2'.out.trans (hb2.mono HB2'.out.size))
  have HBX := hidK hb2
  have p0 := (hb2.block _ (lt_of_some HX0'.out)).trans HX0'.out
  have HX2 := hidK p0
  have d0 : y2.cell? ⟨w.heap.size, 0, none⟩ = some (.string n') := cellK p0 0
  have d1 : y2.cell? ⟨w.heap.size, 1, none⟩ = some (.int .i64 c') := cellK p0 1
  have d2 : y2.cell? ⟨w.heap.size, 2, none⟩ = some (.string k') := cellK p0 2
  have d3 : y2.cell? ⟨w.heap.size, 3, none⟩ = some (.bool x') := cellK p0 3
  have d4 : y2.cell? ⟨w.heap.size, 4, none⟩ = some (.string v') := cellK p0 4
  clear p0 hp2 hb2
  go_wp2_with fail
  refine (toClaim_any n' c' k' x' v' _).mono ?_
  rintro e y3 ⟨rfl, hb3⟩
  have H23 := hidK hb3
  clear d0 d1 d2 d3 d4 hb3
  go_wp2_with fail
  refine (ibest_any _ len len vs n' c' k' x' v' t _ (by omega) (by omega) (by omega) (by omega) (HP2.out.below H23.out)).mono ?_
  rintro e y4 ⟨u1, p1, a, l, c, rfl, hbi, htx, hti, hb4⟩
  obtain ⟨rfl, rfl⟩ := HM.out.same hbi
  have H34 := hidK hb4
  have HT10 := hidK htx
  have HO10 := hidK hti
  have H14 := hidK (HBX.out.trans ((H23.out.trans (hb4.mono H23.out.size)).mono HBX.out.size))
  have H24 := hidK (H23.out.trans (hb4.mono H23.out.size))
  have HV84 := hidK ((H14.out.block _ (lt_of_some HV8.out)).trans HV8.out)
  clear hbi htx hti hb4
  have hlz := HT10.out.1
  have HLE := hidK HM.out.few
  have hl6 : l ≤ 6 := by have := HLE.out; omega
  have ha4 := below1 y4 (.cells #[.string u.n, .int .i64 u.c, .string u.z, .string u.k, .bool u.x, .string u.m, .bool u.y, .slice a l c, .int .i64 p] 32)
  have g8 := (ha4.block _ (lt_of_some HV84.out)).trans HV84.out
  have s0 : (y4.alloc (.cells #[.string u.n, .int .i64 u.c, .string u.z, .string u.k, .bool u.x, .string u.m, .bool u.y, .slice a l c, .int .i64 p] 32)).cell? ⟨b8, 0, none⟩ = some (.string u.n) := cellK g8 0
  have s1 : (y4.alloc (.cells #[.string u.n, .int .i64 u.c, .string u.z, .string u.k, .bool u.x, .string u.m, .bool u.y, .slice a l c, .int .i64 p] 32)).cell? ⟨b8, 1, none⟩ = some (.int .i64 u.c) := cellK g8 1
  have s2 : (y4.alloc (.cells #[.string u.n, .int .i64 u.c, .string u.z, .string u.k, .bool u.x, .string u.m, .bool u.y, .slice a l c, .int .i64 p] 32)).cell? ⟨b8, 2, none⟩ = some (.string u.z) := cellK g8 2
  have s3 : (y4.alloc (.cells #[.string u.n, .int .i64 u.c, .string u.z, .string u.k, .bool u.x, .string u.m, .bool u.y, .slice a l c, .int .i64 p] 32)).cell? ⟨b8, 3, none⟩ = some (.string u.k) := cellK g8 3
  have s4 : (y4.alloc (.cells #[.string u.n, .int .i64 u.c, .string u.z, .string u.k, .bool u.x, .string u.m, .bool u.y, .slice a l c, .int .i64 p] 32)).cell? ⟨b8, 4, none⟩ = some (.bool u.x) := cellK g8 4
  have s5 : (y4.alloc (.cells #[.string u.n, .int .i64 u.c, .string u.z, .string u.k, .bool u.x, .string u.m, .bool u.y, .slice a l c, .int .i64 p] 32)).cell? ⟨b8, 5, none⟩ = some (.string u.m) := cellK g8 5
  have s6 : (y4.alloc (.cells #[.string u.n, .int .i64 u.c, .string u.z, .string u.k, .bool u.x, .string u.m, .bool u.y, .slice a l c, .int .i64 p] 32)).cell? ⟨b8, 6, none⟩ = some (.bool u.y) := cellK g8 6
  have s7 : (y4.alloc (.cells #[.string u.n, .int .i64 u.c, .string u.z, .string u.k, .bool u.x, .string u.m, .bool u.y, .slice a l c, .int .i64 p] 32)).cell? ⟨b8, 7, none⟩ = some (.slice a8 l8 c8) := cellK g8 7
  have s8 : (y4.alloc (.cells #[.string u.n, .int .i64 u.c, .string u.z, .string u.k, .bool u.x, .string u.m, .bool u.y, .slice a l c, .int .i64 p] 32)).cell? ⟨b8, 8, none⟩ = some (.int .i64 p) := cellK g8 8
  clear ha4 g8
  have HE := hidK (fun w' (h : TxRow w' a l c u.zs) (h' : TxRow w' a8 l8 c8 u.zs) => eqVolumeOut_any u.n u.c u.z u.k u.x u.m u.y a l c u.zs p a8 l8 c8 w' h h')
  have HH := hidK (fun w' (h : TxRow w' a l c (marksL l)) => heldVolumeOut_any u.n u.c u.z u.k u.x u.m u.y a l c p (marksL l) w' h (by omega) (fun j y hy => (marksL_at hy).1))
  obtain ⟨M, hM⟩ : ∃ M : Int, M = ((1 + l : Nat) : Int) := ⟨_, rfl⟩
  have hM0 : (0 : Int) < M := by omega
  rw [← hM] at HH
  have HMM := hidK hM
  clear hM
  go_wp2_with fail
  refine (HE.out _ (HT10.out.below (below1 _ _)) ((HT8.out.below H14.out).below (below1 _ _))).mono ?_
  rintro e y6 ⟨rfl, hb6⟩
  obtain ⟨g10, hb46, -⟩ := slotK hb6
  have HG10 := hidK g10
  have H46 := hidK hb46
  have H16 := hidK (H14.out.trans (hb46.mono H14.out.size))
  have HB6 := hidK (HB2'.out.trans (H16.out.mono HB2'.out.size))
  clear hb6 g10 hb46 s0 s1 s2 s3 s4 s5 s6 s7 s8
  go_wp2_with fail
  refine (HTO.out _ HB6.out).mono ?_
  rintro e y7 ⟨rfl, hp7, hb7⟩
  have HP7 := hidK (hp7.row hvl hlen HFT.out)
  have H67 := hidK hb7
  clear hp7 hb7
  have H47 := hidK (H46.out.trans (H67.out.mono H46.out.size))
  have H27 := hidK (H24.out.trans (H47.out.mono H24.out.size))
  go_wp2_with fail
  refine (eqVs_any _ _ len len len vs _ (HP2.out.below H27.out) HP7.out).mono ?_
  rintro e y8 ⟨rfl, hb8⟩
  have H48 := hidK (H47.out.trans (hb8.mono H47.out.size))
  have H28 := hidK (H27.out.trans (hb8.mono H27.out.size))
  have H18 := hidK (H16.out.trans ((H67.out.trans (hb8.mono H67.out.size)).mono H16.out.size))
  have HG108 := hidK ((H67.out.trans (hb8.mono H67.out.size)).block _ (lt_of_some HG10.out) |>.trans HG10.out)
  clear hb8 HP7
  go_wp2_with fail
  refine (markVs_any _ len len _ _ _ (HO2.out.below (Nat.le_refl _) H28.out) H28.out.size hlen).mono ?_
  rintro e y9 ⟨rk, rfl, hrk, hsp⟩
  have HSP := hidK hsp
  have hY : y2.heap.size ≤ y4.heap.size := Nat.le_trans H23.out.size H34.out.size
  have h12 : y1.heap.size ≤ y2.heap.size := HBX.out.size
  have h48 := H48.out.size
  have HG109 := hidK ((hsp.block _ (lt_of_some HG108.out) (.inr hY)).trans HG108.out)
  have H19 := hidK (H18.out.trans (hsp.low H18.out.size))
  have HT9 : Hid (TxRow y9 a l c u.zs) := (HT10.out.below H48.out).but hsp.size (HO10.out.imp id fun ⟨g, cur, e, hg, hgc⟩ => ⟨g, e, hsp.block g (by have := lt_of_some hgc; omega) (.inr (by have := H23.out.size; omega))⟩)
  have HO9 : Hid (u.zs = [] ∨ ∃ g cur, a = some (⟨g, 0, none⟩ : Addr) ∧ y3.heap.size ≤ g ∧ y9.heap[g]? = some (.cells cur 9 (0, 0)) ∧ g < y4.heap.size) := HO10.out.imp id fun ⟨g, cur, e, hg, hgc⟩ => ⟨g, cur, e, hg, (hsp.block g (by have := lt_of_some hgc; omega) (.inr (by have := H23.out.size; omega))).trans ((H48.out.block _ (lt_of_some hgc)).trans hgc), lt_of_some hgc⟩
  have p10 := HG109.out
  have p8 := (H19.out.block _ (lt_of_some HV8.out)).trans HV8.out
  have s0 : y9.cell? ⟨y4.heap.size, 0, none⟩ = some (.string u.n) := cellK p10 0
  have s1 : y9.cell? ⟨y4.heap.size, 1, none⟩ = some (.int .i64 u.c) := cellK p10 1
  have s2 : y9.cell? ⟨y4.heap.size, 2, none⟩ = some (.string u.z) := cellK p10 2
  have s3 : y9.cell? ⟨y4.heap.size, 3, none⟩ = some (.string u.k) := cellK p10 3
  have s4 : y9.cell? ⟨y4.heap.size, 4, none⟩ = some (.bool u.x) := cellK p10 4
  have s5 : y9.cell? ⟨y4.heap.size, 5, none⟩ = some (.string u.m) := cellK p10 5
  have s6 : y9.cell? ⟨y4.heap.size, 6, none⟩ = some (.bool u.y) := cellK p10 6
  have s7 : y9.cell? ⟨y4.heap.size, 7, none⟩ = some (.slice a l c) := cellK p10 7
  have s8 : y9.cell? ⟨y4.heap.size, 8, none⟩ = some (.int .i64 p) := cellK p10 8
  have z0 : y9.cell? ⟨b8, 0, none⟩ = some (.string u.n) := cellK p8 0
  have z1 : y9.cell? ⟨b8, 1, none⟩ = some (.int .i64 u.c) := cellK p8 1
  have z2 : y9.cell? ⟨b8, 2, none⟩ = some (.string u.z) := cellK p8 2
  have z3 : y9.cell? ⟨b8, 3, none⟩ = some (.string u.k) := cellK p8 3
  have z4 : y9.cell? ⟨b8, 4, none⟩ = some (.bool u.x) := cellK p8 4
  have z5 : y9.cell? ⟨b8, 5, none⟩ = some (.string u.m) := cellK p8 5
  have z6 : y9.cell? ⟨b8, 6, none⟩ = some (.bool u.y) := cellK p8 6
  have z7 : y9.cell? ⟨b8, 7, none⟩ = some (.slice a8 l8 c8) := cellK p8 7
  have z8 : y9.cell? ⟨b8, 8, none⟩ = some (.int .i64 p) := cellK p8 8
  clear p10 p8 hsp
  have hrk' : ¬ rk < 0 := by omega
  go_wp2_with fail
  refine (HE.out _ HT9.out (HT8.out.below H19.out)).mono ?_
  rintro e y10 ⟨rfl, hb10⟩
  have H910 := hidK hb10
  have H110 := hidK (H19.out.trans (hb10.mono H19.out.size))
  have HG1010 := hidK ((hb10.block _ (lt_of_some HG109.out)).trans HG109.out)
  have HT10b := hidK (HT9.out.below hb10)
  have p10 := HG1010.out
  clear hb10 s0 z0 s1 z1 s2 z2 s3 z3 s4 z4 s5 z5 s6 z6 s7 z7 s8 z8
  have s0 : y10.cell? ⟨y4.heap.size, 0, none⟩ = some (.string u.n) := cellK p10 0
  have s1 : y10.cell? ⟨y4.heap.size, 1, none⟩ = some (.int .i64 u.c) := cellK p10 1
  have s2 : y10.cell? ⟨y4.heap.size, 2, none⟩ = some (.string u.z) := cellK p10 2
  have s3 : y10.cell? ⟨y4.heap.size, 3, none⟩ = some (.string u.k) := cellK p10 3
  have s4 : y10.cell? ⟨y4.heap.size, 4, none⟩ = some (.bool u.x) := cellK p10 4
  have s5 : y10.cell? ⟨y4.heap.size, 5, none⟩ = some (.string u.m) := cellK p10 5
  have s6 : y10.cell? ⟨y4.heap.size, 6, none⟩ = some (.bool u.y) := cellK p10 6
  have s7 : y10.cell? ⟨y4.heap.size, 7, none⟩ = some (.slice a l c) := cellK p10 7
  have s8 : y10.cell? ⟨y4.heap.size, 8, none⟩ = some (.int .i64 p) := cellK p10 8
  clear p10
  have h34 := H34.out.size
  have h910 := H910.out.size
  have h89 := HSP.out.size
  have HMK := hidK (markVolumeOut_all u.n u.c u.z u.k u.x u.m u.y a l c p u.zs y3.heap.size y4.heap.size y10 HT10b.out hl6
    (HO9.out.imp id fun ⟨g, cur, e, hg, hgc, hlt⟩ => ⟨g, cur, e, hg, (H910.out.block _ (lt_of_some hgc)).trans hgc, by omega⟩) (by omega) (lt_of_some HG1010.out))
  go_wp2_with fail
  refine HMK.out.mono ?_
  rintro e y11 ⟨rfl, hr11, hb11, hq11⟩
  rw [← HMM.out]
  have g11 := hq11.trans HG1010.out
  have HG11 := hidK g11
  have HR11 := hidK hr11
  have h23 := H23.out.size
  have H111 := hidK (H110.out.trans (hb11.mono (by omega)))
  clear hr11 hb11 hq11 HMK s0 s1 s2 s3 s4 s5 s6 s7 s8
  have s0 : y11.cell? ⟨y4.heap.size, 0, none⟩ = some (.string u.n) := cellK g11 0
  have s1 : y11.cell? ⟨y4.heap.size, 1, none⟩ = some (.int .i64 u.c) := cellK g11 1
  have s2 : y11.cell? ⟨y4.heap.size, 2, none⟩ = some (.string u.z) := cellK g11 2
  have s3 : y11.cell? ⟨y4.heap.size, 3, none⟩ = some (.string u.k) := cellK g11 3
  have s4 : y11.cell? ⟨y4.heap.size, 4, none⟩ = some (.bool u.x) := cellK g11 4
  have s5 : y11.cell? ⟨y4.heap.size, 5, none⟩ = some (.string u.m) := cellK g11 5
  have s6 : y11.cell? ⟨y4.heap.size, 6, none⟩ = some (.bool u.y) := cellK g11 6
  have s7 : y11.cell? ⟨y4.heap.size, 7, none⟩ = some (.slice a l c) := cellK g11 7
  have s8 : y11.cell? ⟨y4.heap.size, 8, none⟩ = some (.int .i64 p) := cellK g11 8
  clear g11
  go_wp2_with fail
  refine (HH.out _ HR11.out).mono ?_
  rintro e y12 ⟨rfl, hb12⟩
  have H112 := hidK hb12
  have H1x := hidK (H111.out.trans (hb12.mono H111.out.size))
  have HB12 := hidK (HB2'.out.trans (H1x.out.mono HB2'.out.size))
  have HX12 := hidK ((H1x.out.block _ (lt_of_some HX0'.out)).trans HX0'.out)
  have HG12 := hidK ((hb12.block _ (lt_of_some HG11.out)).trans HG11.out)
  have HV812 := hidK ((H1x.out.block _ (lt_of_some HV8.out)).trans HV8.out)
  have HR12 := hidK (HR11.out.below hb12)
  have HT812 := hidK (HT8.out.below H1x.out)
  clear hb12 s0 s1 s2 s3 s4 s5 s6 s7 s8
  go_wp2_with fail
  rename_i K0 hK0
  refine wp_region_grow_last (by kernel_rfl) rfl rfl (by kernel_rfl) ?_
  refine' Grow.stepC _ rfl ?_ ?_
  rotate_left 1
  · refine Obl.plain rfl ?_
    intro ac wg K hsz hW hf hK; clear hsz
    have e0 := hf 0 (by decide)
    simp [slotFact, List.lookup] at e0
    clear hf
    go_simp
    refine hK _ _ (Below.refl _ _) ?_
    with_reducible rfl
  refine Grow.step (VsV vs len) rfl (VsV.mono vs len) ?_ ?_
  · refine Obl.plain rfl ?_
    intro ac wg K hsz hW hf hK; clear hsz
    have e72 := hf 72 (by decide)
    simp [slotFact, List.lookup] at e72
    clear hf
    go_simp
    refine (HTO.out _ (HB12.out.trans (hW.mono HB12.out.size))).mono ?_
    rintro e w5 ⟨rfl, hp, hb5⟩
    exact hK _ _ hb5 ⟨_, rfl, hp.row hvl hlen HFT.out⟩
  refine' Grow.stepC _ rfl ?_ ?_
  rotate_left 1
  · refine Obl.plain rfl ?_
    intro ac wg K hsz hW hf hK; clear hsz
    have e4 := hf 4 (by decide)
    simp [slotFact, List.lookup] at e4
    clear hf
    have gd := (hW.block _ (lt_of_some HX12.out)).trans HX12.out
    have d0 : wg.cell? ⟨w.heap.size, 0, none⟩ = some (.string n') := cellK gd 0
    have d1 : wg.cell? ⟨w.heap.size, 1, none⟩ = some (.int .i64 c') := cellK gd 1
    have d2 : wg.cell? ⟨w.heap.size, 2, none⟩ = some (.string k') := cellK gd 2
    have d3 : wg.cell? ⟨w.heap.size, 3, none⟩ = some (.bool x') := cellK gd 3
    have d4 : wg.cell? ⟨w.heap.size, 4, none⟩ = some (.string v') := cellK gd 4
    clear gd
    go_simp
    refine hK _ _ (Below.refl _ _) ?_
    with_reducible rfl
  refine' Grow.stepC (.agg #[.string n', .int .i64 c', .string k', .bool x', .string v']) rfl ?_ ?_
  · refine Obl.plain rfl ?_
    intro ac wg K hsz hW hf hK; clear hsz
    have e74 := hf 74 (by decide)
    simp [slotFact, List.lookup] at e74
    clear hf
    go_simp
    refine (toClaim_any n' c' k' x' v' _).mono ?_
    rintro e w5 ⟨rfl, hb5⟩
    exact hK _ _ hb5 rfl
  refine' Grow.stepC _ rfl ?_ ?_
  rotate_left 1
  · refine Obl.plain rfl ?_
    intro ac wg K hsz hW hf hK; clear hsz
    have e2 := hf 2 (by decide)
    simp [slotFact, List.lookup] at e2
    clear hf
    go_simp
    refine hK _ _ (Below.refl _ _) ?_
    with_reducible rfl
  refine Grow.step (BestV vs n' c' k' x' v' t) rfl (BestV.mono vs n' c' k' x' v' t) ?_ ?_
  · refine Obl.plain rfl ?_
    intro ac wg K hsz hW hf hK; clear hsz
    have e73 := hf 73 (by decide)
    simp [slotFact, List.lookup] at e73
    have e75 := hf 75 (by decide)
    simp [slotFact, List.lookup] at e75
    have e76 := hf 76 (by decide)
    simp [slotFact, List.lookup] at e76
    clear hf
    obtain ⟨g, e73, hrow⟩ := e73
    go_simp
    refine (ibest_any _ len len vs n' c' k' x' v' t _ (by omega) (by omega) (by omega) (by omega) hrow).mono ?_
    rintro e w5 ⟨u, p, a, l, c, rfl, hi, h1, h2, hb5⟩
    exact hK _ _ hb5 ⟨u, p, a, l, c, rfl, hi, h1, h2.imp id fun ⟨g, cur, e, _, hg⟩ => ⟨g, cur, e, hg⟩⟩
  refine Grow.step (FreshV y12) rfl (FreshV.mono y12) ?_ ?_
  · refine Obl.plain rfl ?_
    intro ac wg K hsz hW hf hK; clear hsz
    clear hf
    go_simp
    exact hK _ _ (below1 _ _) ⟨_, rfl, hW.size, Array.getElem?_push_size⟩
  refine Grow.done ?_
  intro q wz14 hW hf
  simp only [List.forall_mem_cons] at hf
  obtain ⟨⟨b14, h14, hbW, hgb⟩, ⟨u1, p1, a14, l14, c14, h77, hbi, htx, hti⟩, -⟩ := hf
  obtain ⟨rfl, rfl⟩ := HM.out.same hbi
  clear hbi
  have r0 : wz14.cell? ⟨b14, 0, none⟩ = some (.string ⟨#[]⟩) := cellK hgb 0
  have r1 : wz14.cell? ⟨b14, 1, none⟩ = some (.int .i64 0) := cellK hgb 1
  have r2 : wz14.cell? ⟨b14, 2, none⟩ = some (.string ⟨#[]⟩) := cellK hgb 2
  have r3 : wz14.cell? ⟨b14, 3, none⟩ = some (.string ⟨#[]⟩) := cellK hgb 3
  have r4 : wz14.cell? ⟨b14, 4, none⟩ = some (.bool false) := cellK hgb 4
  have r5 : wz14.cell? ⟨b14, 5, none⟩ = some (.string ⟨#[]⟩) := cellK hgb 5
  have r6 : wz14.cell? ⟨b14, 6, none⟩ = some (.bool false) := cellK hgb 6
  have r7 : wz14.cell? ⟨b14, 7, none⟩ = some (.slice none 0 0) := cellK hgb 7
  have r8 : wz14.cell? ⟨b14, 8, none⟩ = some (.int .i64 0) := cellK hgb 8
  have f0 : wz14.frozen? ⟨b14, 0, none⟩ = false := froK hgb 0
  have f1 : wz14.frozen? ⟨b14, 1, none⟩ = false := froK hgb 1
  have f2 : wz14.frozen? ⟨b14, 2, none⟩ = false := froK hgb 2
  have f3 : wz14.frozen? ⟨b14, 3, none⟩ = false := froK hgb 3
  have f4 : wz14.frozen? ⟨b14, 4, none⟩ = false := froK hgb 4
  have f5 : wz14.frozen? ⟨b14, 5, none⟩ = false := froK hgb 5
  have f6 : wz14.frozen? ⟨b14, 6, none⟩ = false := froK hgb 6
  have f7 : wz14.frozen? ⟨b14, 7, none⟩ = false := froK hgb 7
  have f8 : wz14.frozen? ⟨b14, 8, none⟩ = false := froK hgb 8
  have HV14 := hidK (put9B (v0 := .string u.n) (v1 := .int .i64 u.c) (v2 := .string u.z) (v3 := .string u.k) (v4 := .bool u.x) (v5 := .string u.m) (v6 := .bool u.y) (v7 := .slice a14 l14 c14) (v8 := .int .i64 p) hgb)
  have HBW := hidK (set_below9B (v0 := .string u.n) (v1 := .int .i64 u.c) (v2 := .string u.z) (v3 := .string u.k) (v4 := .bool u.x) (v5 := .string u.m) (v6 := .bool u.y) (v7 := .slice a14 l14 c14) (v8 := .int .i64 p) hbW hW)
  have HT14 : Hid (TxRow (((((((((wz14.setCell ⟨b14, 0, none⟩ (.string u.n)).setCell ⟨b14, 1, none⟩ (.int .i64 u.c)).setCell ⟨b14, 2, none⟩ (.string u.z)).setCell ⟨b14, 3, none⟩ (.string u.k)).setCell ⟨b14, 4, none⟩ (.bool u.x)).setCell ⟨b14, 5, none⟩ (.string u.m)).setCell ⟨b14, 6, none⟩ (.bool u.y)).setCell ⟨b14, 7, none⟩ (.slice a14 l14 c14)).setCell ⟨b14, 8, none⟩ (.int .i64 p)) a14 l14 c14 u.zs) := TxRow.but htx (by simp [World.setCell]) (hti.imp id fun ⟨g, cur, e, hg⟩ => ⟨g, e, heap_other9 (fun e => by subst e; rw [hg] at hgb; simp at hgb)⟩)
  clear hgb htx hti hW
  intro K hK
  rw [if_pos (by rfl)]
  simp only [putsAll, List.foldr, Act.put, List.setIfInBounds_toArray, List.set_cons_zero, List.set_cons_succ, h14, h77]
  simp only [List.getLast]
  go_simp
  refine hK _ _ ?_
  refine hK0 _ _ ?_
  clear hK hK0 K K0
  generalize (((((((((wz14.setCell ⟨b14, 0, none⟩ (.string u.n)).setCell ⟨b14, 1, none⟩ (.int .i64 u.c)).setCell ⟨b14, 2, none⟩ (.string u.z)).setCell ⟨b14, 3, none⟩ (.string u.k)).setCell ⟨b14, 4, none⟩ (.bool u.x)).setCell ⟨b14, 5, none⟩ (.string u.m)).setCell ⟨b14, 6, none⟩ (.bool u.y)).setCell ⟨b14, 7, none⟩ (.slice a14 l14 c14)).setCell ⟨b14, 8, none⟩ (.int .i64 p)) = y13 at HV14 HBW HT14 ⊢
  have HB12' := hidK (HB12.out.trans (HBW.out.mono HB12.out.size))
  have HX12' := hidK ((HBW.out.block _ (lt_of_some HX12.out)).trans HX12.out)
  have HG13 := hidK ((HBW.out.block _ (lt_of_some HG12.out)).trans HG12.out)
  have HV813 := hidK ((HBW.out.block _ (lt_of_some HV812.out)).trans HV812.out)
  have HR13 := hidK (HR12.out.below HBW.out)
  have HT813 := hidK (HT812.out.below HBW.out)
  clear HBW HB12 HX12 r0 f0 r1 f1 r2 f2 r3 f3 r4 f4 r5 f5 r6 f6 r7 f7 r8 f8
  have p14 := HV14.out
  have p8 := HV813.out
  have s0 : y13.cell? ⟨b14, 0, none⟩ = some (.string u.n) := cellK p14 0
  have s1 : y13.cell? ⟨b14, 1, none⟩ = some (.int .i64 u.c) := cellK p14 1
  have s2 : y13.cell? ⟨b14, 2, none⟩ = some (.string u.z) := cellK p14 2
  have s3 : y13.cell? ⟨b14, 3, none⟩ = some (.string u.k) := cellK p14 3
  have s4 : y13.cell? ⟨b14, 4, none⟩ = some (.bool u.x) := cellK p14 4
  have s5 : y13.cell? ⟨b14, 5, none⟩ = some (.string u.m) := cellK p14 5
  have s6 : y13.cell? ⟨b14, 6, none⟩ = some (.bool u.y) := cellK p14 6
  have s7 : y13.cell? ⟨b14, 7, none⟩ = some (.slice a14 l14 c14) := cellK p14 7
  have s8 : y13.cell? ⟨b14, 8, none⟩ = some (.int .i64 p) := cellK p14 8
  have z0 : y13.cell? ⟨b8, 0, none⟩ = some (.string u.n) := cellK p8 0
  have z1 : y13.cell? ⟨b8, 1, none⟩ = some (.int .i64 u.c) := cellK p8 1
  have z2 : y13.cell? ⟨b8, 2, none⟩ = some (.string u.z) := cellK p8 2
  have z3 : y13.cell? ⟨b8, 3, none⟩ = some (.string u.k) := cellK p8 3
  have z4 : y13.cell? ⟨b8, 4, none⟩ = some (.bool u.x) := cellK p8 4
  have z5 : y13.cell? ⟨b8, 5, none⟩ = some (.string u.m) := cellK p8 5
  have z6 : y13.cell? ⟨b8, 6, none⟩ = some (.bool u.y) := cellK p8 6
  have z7 : y13.cell? ⟨b8, 7, none⟩ = some (.slice a8 l8 c8) := cellK p8 7
  have z8 : y13.cell? ⟨b8, 8, none⟩ = some (.int .i64 p) := cellK p8 8
  clear p14 p8
  go_wp2_with fail
  refine (eqVolumeOut_any u.n u.c u.z u.k u.x u.m u.y a14 l14 c14 u.zs p a8 l8 c8 _ HT14.out HT813.out).mono ?_
  rintro e y14 ⟨rfl, hb14⟩
  have HB14 := hidK (HB12'.out.trans (hb14.mono HB12'.out.size))
  have g14 := (hb14.block _ (lt_of_some HG13.out)).trans HG13.out
  have HR14 := hidK (HR13.out.below hb14)
  clear hb14 s0 z0 s1 z1 s2 z2 s3 z3 s4 z4 s5 z5 s6 z6 s7 z7 s8 z8
  have s0 : y14.cell? ⟨y4.heap.size, 0, none⟩ = some (.string u.n) := cellK g14 0
  have s1 : y14.cell? ⟨y4.heap.size, 1, none⟩ = some (.int .i64 u.c) := cellK g14 1
  have s2 : y14.cell? ⟨y4.heap.size, 2, none⟩ = some (.string u.z) := cellK g14 2
  have s3 : y14.cell? ⟨y4.heap.size, 3, none⟩ = some (.string u.k) := cellK g14 3
  have s4 : y14.cell? ⟨y4.heap.size, 4, none⟩ = some (.bool u.x) := cellK g14 4
  have s5 : y14.cell? ⟨y4.heap.size, 5, none⟩ = some (.string u.m) := cellK g14 5
  have s6 : y14.cell? ⟨y4.heap.size, 6, none⟩ = some (.bool u.y) := cellK g14 6
  have s7 : y14.cell? ⟨y4.heap.size, 7, none⟩ = some (.slice a l c) := cellK g14 7
  have s8 : y14.cell? ⟨y4.heap.size, 8, none⟩ = some (.int .i64 p) := cellK g14 8
  clear g14
  go_wp2_with fail
  refine (HH.out _ HR14.out).mono ?_
  rintro e y15 ⟨rfl, hb15⟩
  have HB15 := hidK (HB14.out.trans (hb15.mono HB14.out.size))
  clear hb15
  go_wp2_with fail
  go_ret
  exact ⟨rfl, HB15.out⟩

end Go.Proofs.Ytjkgpkgbaapdmaa
