/-
  The law FnExactMakeFor, walked: it returns true at every claim, class and zone.
-/
import Derived.Test.YtjkgpkgbaapdmaaMake
import Derived.Test.YtjkgpkgbaapdmaaGrow
import Derived.Test.YtjkgpkgbaapdmaaVMark
namespace Go.Proofs.Ytjkgpkgbaapdmaa
open Go.RowKit Mk

/-- The answer's value. -/
def MakeV (n' : ByteArray) (c' : Int) (k' : ByteArray) (x' : Bool) (v' n z t : ByteArray) (v : Value) (_ : World) : Prop :=
  ∃ n0 c0 z0 k0 x0 m0 p0, v = .agg #[.string n0, .int .i64 c0, .string z0, .string k0, .bool x0, .string m0, .bool false, .slice none 0 0, .int .i64 p0] ∧ MakeIs n' c' k' x' v' n z t n0 c0 z0 k0 x0 m0 p0
/-- A new place for an answer. -/
def FreshOut (W : World) (v : Value) (w : World) : Prop :=
  ∃ b, v = .pointer (some ⟨b, 0, none⟩) ∧ W.heap.size ≤ b ∧ w.heap[b]? = some (.cells #[.string ⟨#[]⟩, .int .i64 0, .string ⟨#[]⟩, .string ⟨#[]⟩, .bool false, .string ⟨#[]⟩, .bool false, .slice none 0 0, .int .i64 0] 32 (0, 0))
theorem FreshOut.mono (W : World) : Fact.Mono (FreshOut W) := fun _ _ _ h hb => h.imp fun _ h => ⟨h.1, h.2.1, (hb.block _ (lt_of_some h.2.2)).trans h.2.2⟩
theorem put9 {w : World} {b : Nat} {T : TypeId} {u0 u1 u2 u3 u4 u5 u6 u7 u8 v0 v1 v2 v3 v4 v5 v6 v7 v8 : Value} (h : w.heap[b]? = some (.cells #[u0, u1, u2, u3, u4, u5, u6, u7, u8] T (0, 0))) :
    (((((((((w.setCell ⟨b, 0, none⟩ v0).setCell ⟨b, 1, none⟩ v1).setCell ⟨b, 2, none⟩ v2).setCell ⟨b, 3, none⟩ v3).setCell ⟨b, 4, none⟩ v4).setCell ⟨b, 5, none⟩ v5).setCell ⟨b, 6, none⟩ v6).setCell ⟨b, 7, none⟩ v7).setCell ⟨b, 8, none⟩ v8).heap[b]? = some (.cells #[v0, v1, v2, v3, v4, v5, v6, v7, v8] T (0, 0)) := by
  have h0 : (w.setCell ⟨b, 0, none⟩ v0).heap[b]? = some (.cells #[v0, u1, u2, u3, u4, u5, u6, u7, u8] T (0, 0)) := block_set h v0
  have h1 : ((w.setCell ⟨b, 0, none⟩ v0).setCell ⟨b, 1, none⟩ v1).heap[b]? = some (.cells #[v0, v1, u2, u3, u4, u5, u6, u7, u8] T (0, 0)) := block_set h0 v1
  have h2 : (((w.setCell ⟨b, 0, none⟩ v0).setCell ⟨b, 1, none⟩ v1).setCell ⟨b, 2, none⟩ v2).heap[b]? = some (.cells #[v0, v1, v2, u3, u4, u5, u6, u7, u8] T (0, 0)) := block_set h1 v2
  have h3 : ((((w.setCell ⟨b, 0, none⟩ v0).setCell ⟨b, 1, none⟩ v1).setCell ⟨b, 2, none⟩ v2).setCell ⟨b, 3, none⟩ v3).heap[b]? = some (.cells #[v0, v1, v2, v3, u4, u5, u6, u7, u8] T (0, 0)) := block_set h2 v3
  have h4 : (((((w.setCell ⟨b, 0, none⟩ v0).setCell ⟨b, 1, none⟩ v1).setCell ⟨b, 2, none⟩ v2).setCell ⟨b, 3, none⟩ v3).setCell ⟨b, 4, none⟩ v4).heap[b]? = some (.cells #[v0, v1, v2, v3, v4, u5, u6, u7, u8] T (0, 0)) := block_set h3 v4
  have h5 : ((((((w.setCell ⟨b, 0, none⟩ v0).setCell ⟨b, 1, none⟩ v1).setCell ⟨b, 2, none⟩ v2).setCell ⟨b, 3, none⟩ v3).setCell ⟨b, 4, none⟩ v4).setCell ⟨b, 5, none⟩ v5).heap[b]? = some (.cells #[v0, v1, v2, v3, v4, v5, u6, u7, u8] T (0, 0)) := block_set h4 v5
  have h6 : (((((((w.setCell ⟨b, 0, none⟩ v0).setCell ⟨b, 1, none⟩ v1).setCell ⟨b, 2, none⟩ v2).setCell ⟨b, 3, none⟩ v3).setCell ⟨b, 4, none⟩ v4).setCell ⟨b, 5, none⟩ v5).setCell ⟨b, 6, none⟩ v6).heap[b]? = some (.cells #[v0, v1, v2, v3, v4, v5, v6, u7, u8] T (0, 0)) := block_set h5 v6
  have h7 : ((((((((w.setCell ⟨b, 0, none⟩ v0).setCell ⟨b, 1, none⟩ v1).setCell ⟨b, 2, none⟩ v2).setCell ⟨b, 3, none⟩ v3).setCell ⟨b, 4, none⟩ v4).setCell ⟨b, 5, none⟩ v5).setCell ⟨b, 6, none⟩ v6).setCell ⟨b, 7, none⟩ v7).heap[b]? = some (.cells #[v0, v1, v2, v3, v4, v5, v6, v7, u8] T (0, 0)) := block_set h6 v7
  have h8 : (((((((((w.setCell ⟨b, 0, none⟩ v0).setCell ⟨b, 1, none⟩ v1).setCell ⟨b, 2, none⟩ v2).setCell ⟨b, 3, none⟩ v3).setCell ⟨b, 4, none⟩ v4).setCell ⟨b, 5, none⟩ v5).setCell ⟨b, 6, none⟩ v6).setCell ⟨b, 7, none⟩ v7).setCell ⟨b, 8, none⟩ v8).heap[b]? = some (.cells #[v0, v1, v2, v3, v4, v5, v6, v7, v8] T (0, 0)) := block_set h7 v8
  exact h8

set_option linter.unusedVariables false in
set_option maxRecDepth 10000 in
set_option maxHeartbeats 3200000 in
theorem fnExactMakeFor_walk (n' : ByteArray) (c' : Int) (k' : ByteArray) (x' : Bool) (v' : ByteArray) (n : ByteArray) (x y : Bool) (z : ByteArray) (t : ByteArray) (w : World) (hn' : n'.size ≤ maxLen) (hc' : (Lit.int .i64 c').wf = true) (hk' : k'.size ≤ maxLen) (hv' : v'.size ≤ maxLen) (hn : n.size ≤ maxLen) (hz : z.size ≤ maxLen) (ht : t.size ≤ maxLen) :
    Calls Try.prog 7 #[.agg #[.string n', .int .i64 c', .string k', .bool x', .string v'], .agg #[.string n, .bool x, .bool y, .string z], .string t] w fun e w' => e = .returned (.bool true) ∧ Below w.heap.size w w' := by
  unfold maxLen at hn hz hn' hk' hv' ht
  clear hc'
  by_cases hl : 1048576 < t.size
  · go_enter Try.func7, Try.ntmps7
    go_wp2
    go_ret
    exact ⟨rfl, below2 _ _ _⟩
  have RN : ∀ w a cap, cap ≤ 9223372036854775807 → TxRow w a 0 cap [] := fun w a cap h => ⟨rfl, Nat.zero_le _, h, fun j x hx => by simp at hx, .inl rfl⟩
  have HRN := hidK RN
  clear RN
  go_enter Try.func7, Try.ntmps7
  go_wp2_with fail
  refine (szClaim_any n' c' k' x' v' _ _ (by omega) (by omega) (by omega) (by decide) (by decide)).mono ?_
  rintro e w1 ⟨r, rfl, hr, hb⟩
  have g0 := (hb.block w.heap.size (by simp; omega)).trans (heap2_0 _ _ _)
  have g1 := (hb.block (w.heap.size + 1) (by simp)).trans (heap2_1 _ _ _)
  have HB := hidK ((below2 w _ _).trans (hb.mono (by simp; omega)))
  have HG0 := hidK g0
  have HG1 := hidK g1
  have d0 : w1.cell? ⟨w.heap.size + 1, 0, none⟩ = some (.string n) := cellK g1 0
  have d1 : w1.cell? ⟨w.heap.size + 1, 1, none⟩ = some (.bool x) := cellK g1 1
  have d2 : w1.cell? ⟨w.heap.size + 1, 2, none⟩ = some (.bool y) := cellK g1 2
  have d3 : w1.cell? ⟨w.heap.size + 1, 3, none⟩ = some (.string z) := cellK g1 3
  clear g0 g1 hb
  rcases hr with rfl | ⟨hr0, hr1, -⟩
  · go_wp2
    go_ret
    exact ⟨rfl, HB.out⟩
  go_wp2_with fail
  refine (szClass_any n x y z r _ (by omega) (by omega) (by omega) (by omega)).mono ?_
  rintro e w2 ⟨r2, rfl, hr, hb⟩
  have HB2 := hidK (HB.out.trans (hb.mono HB.out.size))
  have HX0 := hidK ((hb.block _ (lt_of_some HG0.out)).trans HG0.out)
  have HX1 := hidK ((hb.block _ (lt_of_some HG1.out)).trans HG1.out)
  clear hb d0 d1 d2 d3 HG0 HG1 HB
  rcases hr with rfl | ⟨hr2, -, -⟩
  · go_wp2
    go_ret
    exact ⟨rfl, HB2.out⟩
  go_wp2_with fail
  rename_i K0 hK0
  refine wp_region_grow_last (by kernel_rfl) rfl rfl (by kernel_rfl) ?_
  refine' Grow.stepC _ rfl ?_ ?_
  rotate_left 1
  · refine Obl.plain rfl ?_
    intro ac wg K hsz hW hf hK; clear hsz
    have e3 := hf 3 (by decide)
    simp [slotFact, List.lookup] at e3
    clear hf
    have gd := (hW.block _ (lt_of_some HX0.out)).trans HX0.out
    have d0 : wg.cell? ⟨w.heap.size, 0, none⟩ = some (.string n') := cellK gd 0
    have d1 : wg.cell? ⟨w.heap.size, 1, none⟩ = some (.int .i64 c') := cellK gd 1
    have d2 : wg.cell? ⟨w.heap.size, 2, none⟩ = some (.string k') := cellK gd 2
    have d3 : wg.cell? ⟨w.heap.size, 3, none⟩ = some (.bool x') := cellK gd 3
    have d4 : wg.cell? ⟨w.heap.size, 4, none⟩ = some (.string v') := cellK gd 4
    clear gd
    go_simp
    refine hK _ _ (Below.refl _ _) ?_
    with_reducible rfl
  refine' Grow.stepC (.agg #[.string n', .int .i64 c', .string k', .bool x', .string v']) rfl ?_ ?_
  · refine Obl.plain rfl ?_
    intro ac wg K hsz hW hf hK; clear hsz
    have e26 := hf 26 (by decide)
    simp [slotFact, List.lookup] at e26
    clear hf
    go_simp
    refine (toClaim_any n' c' k' x' v' _).mono ?_
    rintro e w5 ⟨rfl, hb5⟩
    exact hK _ _ hb5 rfl
  refine' Grow.stepC _ rfl ?_ ?_
  rotate_left 1
  · refine Obl.plain rfl ?_
    intro ac wg K hsz hW hf hK; clear hsz
    have e4 := hf 4 (by decide)
    simp [slotFact, List.lookup] at e4
    clear hf
    have gd := (hW.block _ (lt_of_some HX1.out)).trans HX1.out
    have d0 : wg.cell? ⟨w.heap.size + 1, 0, none⟩ = some (.string n) := cellK gd 0
    have d1 : wg.cell? ⟨w.heap.size + 1, 1, none⟩ = some (.bool x) := cellK gd 1
    have d2 : wg.cell? ⟨w.heap.size + 1, 2, none⟩ = some (.bool y) := cellK gd 2
    have d3 : wg.cell? ⟨w.heap.size + 1, 3, none⟩ = some (.string z) := cellK gd 3
    clear gd
    go_simp
    refine hK _ _ (Below.refl _ _) ?_
    with_reducible rfl
  refine' Grow.stepC (.agg #[.string n, .bool x, .bool y, .string z]) rfl ?_ ?_
  · refine Obl.plain rfl ?_
    intro ac wg K hsz hW hf hK; clear hsz
    have e28 := hf 28 (by decide)
    simp [slotFact, List.lookup] at e28
    clear hf
    go_simp
    refine (toClass_any n x y z _).mono ?_
    rintro e w5 ⟨rfl, hb5⟩
    exact hK _ _ hb5 rfl
  refine' Grow.stepC _ rfl ?_ ?_
  rotate_left 1
  · refine Obl.plain rfl ?_
    intro ac wg K hsz hW hf hK; clear hsz
    have e2 := hf 2 (by decide)
    simp [slotFact, List.lookup] at e2
    clear hf
    go_simp
    refine hK _ _ (Below.refl _ _) ?_
    with_reducible rfl
  refine Grow.step (MakeV n' c' k' x' v' n z t) rfl (fun _ _ _ h _ => h) ?_ ?_
  · refine Obl.plain rfl ?_
    intro ac wg K hsz hW hf hK; clear hsz
    have e27 := hf 27 (by decide)
    simp [slotFact, List.lookup] at e27
    have e29 := hf 29 (by decide)
    simp [slotFact, List.lookup] at e29
    have e30 := hf 30 (by decide)
    simp [slotFact, List.lookup] at e30
    clear hf
    go_simp
    refine (smake_any n' c' k' x' v' n x y z t _ (by omega) (by omega) (by omega) (by omega) (by omega) (by omega)).mono ?_
    rintro e w5 ⟨n0, c0, z0, k0, x0, m0, p0, rfl, hm, hb5⟩
    exact hK _ _ hb5 ⟨n0, c0, z0, k0, x0, m0, p0, rfl, hm⟩
  refine Grow.step (FreshOut w2) rfl (FreshOut.mono w2) ?_ ?_
  · refine Obl.plain rfl ?_
    intro ac wg K hsz hW hf hK; clear hsz
    clear hf
    go_simp
    exact hK _ _ (below1 _ _) ⟨_, rfl, hW.size, Array.getElem?_push_size⟩
  refine Grow.done ?_
  intro q wz8 hW hf
  simp only [List.forall_mem_cons] at hf
  obtain ⟨⟨b8, h8, hbW, hgb⟩, ⟨n0, c0, z0, k0, x0, m0, p0, h31, hm⟩, -⟩ := hf
  have r0 : wz8.cell? ⟨b8, 0, none⟩ = some (.string ⟨#[]⟩) := cellK hgb 0
  have r1 : wz8.cell? ⟨b8, 1, none⟩ = some (.int .i64 0) := cellK hgb 1
  have r2 : wz8.cell? ⟨b8, 2, none⟩ = some (.string ⟨#[]⟩) := cellK hgb 2
  have r3 : wz8.cell? ⟨b8, 3, none⟩ = some (.string ⟨#[]⟩) := cellK hgb 3
  have r4 : wz8.cell? ⟨b8, 4, none⟩ = some (.bool false) := cellK hgb 4
  have r5 : wz8.cell? ⟨b8, 5, none⟩ = some (.string ⟨#[]⟩) := cellK hgb 5
  have r6 : wz8.cell? ⟨b8, 6, none⟩ = some (.bool false) := cellK hgb 6
  have r7 : wz8.cell? ⟨b8, 7, none⟩ = some (.slice none 0 0) := cellK hgb 7
  have r8 : wz8.cell? ⟨b8, 8, none⟩ = some (.int .i64 0) := cellK hgb 8
  have f0 : wz8.frozen? ⟨b8, 0, none⟩ = false := froK hgb 0
  have f1 : wz8.frozen? ⟨b8, 1, none⟩ = false := froK hgb 1
  have f2 : wz8.frozen? ⟨b8, 2, none⟩ = false := froK hgb 2
  have f3 : wz8.frozen? ⟨b8, 3, none⟩ = false := froK hgb 3
  have f4 : wz8.frozen? ⟨b8, 4, none⟩ = false := froK hgb 4
  have f5 : wz8.frozen? ⟨b8, 5, none⟩ = false := froK hgb 5
  have f6 : wz8.frozen? ⟨b8, 6, none⟩ = false := froK hgb 6
  have f7 : wz8.frozen? ⟨b8, 7, none⟩ = false := froK hgb 7
  have f8 : wz8.frozen? ⟨b8, 8, none⟩ = false := froK hgb 8
  have HM := hidK hm
  have HV8 := hidK (put9 (v0 := .string n0) (v1 := .int .i64 c0) (v2 := .string z0) (v3 := .string k0) (v4 := .bool x0) (v5 := .string m0) (v6 := .bool false) (v7 := .slice none 0 0) (v8 := .int .i64 p0) hgb)
  have HBW := hidK (set_below9 (v0 := .string n0) (v1 := .int .i64 c0) (v2 := .string z0) (v3 := .string k0) (v4 := .bool x0) (v5 := .string m0) (v6 := .bool false) (v7 := .slice none 0 0) (v8 := .int .i64 p0) hbW hW)
  clear hgb hm hW
  intro K hK
  rw [if_pos (by rfl)]
  simp only [putsAll, List.foldr, Act.put, List.setIfInBounds_toArray, List.set_cons_zero, List.set_cons_succ, h8, h31]
  simp only [List.getLast]
  go_simp
  refine hK _ _ ?_
  refine hK0 _ _ ?_
  clear hK hK0 K K0
  generalize (((((((((wz8.setCell ⟨b8, 0, none⟩ (.string n0)).setCell ⟨b8, 1, none⟩ (.int .i64 c0)).setCell ⟨b8, 2, none⟩ (.string z0)).setCell ⟨b8, 3, none⟩ (.string k0)).setCell ⟨b8, 4, none⟩ (.bool x0)).setCell ⟨b8, 5, none⟩ (.string m0)).setCell ⟨b8, 6, none⟩ (.bool false)).setCell ⟨b8, 7, none⟩ (.slice none 0 0)).setCell ⟨b8, 8, none⟩ (.int .i64 p0)) = y1 at HV8 HBW ⊢
  have HB2' := hidK (HB2.out.trans (HBW.out.mono HB2.out.size))
  have HX0' := hidK ((HBW.out.block _ (lt_of_some HX0.out)).trans HX0.out)
  have HX1' := hidK ((HBW.out.block _ (lt_of_some HX1.out)).trans HX1.out)
  clear HBW HB2 HX0 HX1 r0 f0 r1 f1 r2 f2 r3 f3 r4 f4 r5 f5 r6 f6 r7 f7 r8 f8
  go_wp2_with fail
  rename_i K0 hK0
  refine wp_region_grow_last (by kernel_rfl) rfl rfl (by kernel_rfl) ?_
  refine' Grow.stepC _ rfl ?_ ?_
  rotate_left 1
  · refine Obl.plain rfl ?_
    intro ac wg K hsz hW hf hK; clear hsz
    have e3 := hf 3 (by decide)
    simp [slotFact, List.lookup] at e3
    clear hf
    have gd := (hW.block _ (lt_of_some HX0'.out)).trans HX0'.out
    have d0 : wg.cell? ⟨w.heap.size, 0, none⟩ = some (.string n') := cellK gd 0
    have d1 : wg.cell? ⟨w.heap.size, 1, none⟩ = some (.int .i64 c') := cellK gd 1
    have d2 : wg.cell? ⟨w.heap.size, 2, none⟩ = some (.string k') := cellK gd 2
    have d3 : wg.cell? ⟨w.heap.size, 3, none⟩ = some (.bool x') := cellK gd 3
    have d4 : wg.cell? ⟨w.heap.size, 4, none⟩ = some (.string v') := cellK gd 4
    clear gd
    go_simp
    refine hK _ _ (Below.refl _ _) ?_
    with_reducible rfl
  refine' Grow.stepC (.agg #[.string n', .int .i64 c', .string k', .bool x', .string v']) rfl ?_ ?_
  · refine Obl.plain rfl ?_
    intro ac wg K hsz hW hf hK; clear hsz
    have e32 := hf 32 (by decide)
    simp [slotFact, List.lookup] at e32
    clear hf
    go_simp
    refine (toClaim_any n' c' k' x' v' _).mono ?_
    rintro e w5 ⟨rfl, hb5⟩
    exact hK _ _ hb5 rfl
  refine' Grow.stepC _ rfl ?_ ?_
  rotate_left 1
  · refine Obl.plain rfl ?_
    intro ac wg K hsz hW hf hK; clear hsz
    have e4 := hf 4 (by decide)
    simp [slotFact, List.lookup] at e4
    clear hf
    have gd := (hW.block _ (lt_of_some HX1'.out)).trans HX1'.out
    have d0 : wg.cell? ⟨w.heap.size + 1, 0, none⟩ = some (.string n) := cellK gd 0
    have d1 : wg.cell? ⟨w.heap.size + 1, 1, none⟩ = some (.bool x) := cellK gd 1
    have d2 : wg.cell? ⟨w.heap.size + 1, 2, none⟩ = some (.bool y) := cellK gd 2
    have d3 : wg.cell? ⟨w.heap.size + 1, 3, none⟩ = some (.string z) := cellK gd 3
    clear gd
    go_simp
    refine hK _ _ (Below.refl _ _) ?_
    with_reducible rfl
  refine' Grow.stepC (.agg #[.string n, .bool x, .bool y, .string z]) rfl ?_ ?_
  · refine Obl.plain rfl ?_
    intro ac wg K hsz hW hf hK; clear hsz
    have e34 := hf 34 (by decide)
    simp [slotFact, List.lookup] at e34
    clear hf
    go_simp
    refine (toClass_any n x y z _).mono ?_
    rintro e w5 ⟨rfl, hb5⟩
    exact hK _ _ hb5 rfl
  refine' Grow.stepC _ rfl ?_ ?_
  rotate_left 1
  · refine Obl.plain rfl ?_
    intro ac wg K hsz hW hf hK; clear hsz
    have e2 := hf 2 (by decide)
    simp [slotFact, List.lookup] at e2
    clear hf
    go_simp
    refine hK _ _ (Below.refl _ _) ?_
    with_reducible rfl
  refine Grow.step (MakeV n' c' k' x' v' n z t) rfl (fun _ _ _ h _ => h) ?_ ?_
  · refine Obl.plain rfl ?_
    intro ac wg K hsz hW hf hK; clear hsz
    have e33 := hf 33 (by decide)
    simp [slotFact, List.lookup] at e33
    have e35 := hf 35 (by decide)
    simp [slotFact, List.lookup] at e35
    have e36 := hf 36 (by decide)
    simp [slotFact, List.lookup] at e36
    clear hf
    go_simp
    refine (imake_any n' c' k' x' v' n x y z t _ (by omega) (by omega) (by omega) (by omega) (by omega) (by omega)).mono ?_
    rintro e w5 ⟨n0, c0, z0, k0, x0, m0, p0, rfl, hm, hb5⟩
    exact hK _ _ hb5 ⟨n0, c0, z0, k0, x0, m0, p0, rfl, hm⟩
  refine Grow.step (FreshOut y1) rfl (FreshOut.mono y1) ?_ ?_
  · refine Obl.plain rfl ?_
    intro ac wg K hsz hW hf hK; clear hsz
    clear hf
    go_simp
    exact hK _ _ (below1 _ _) ⟨_, rfl, hW.size, Array.getElem?_push_size⟩
  refine Grow.done ?_
  intro q wz9 hW hf
  simp only [List.forall_mem_cons] at hf
  obtain ⟨⟨b9, h9, hbW, hgb⟩, ⟨n1, c1, z1, k1, x1, m1, p1, h37, hm⟩, -⟩ := hf
  have r0 : wz9.cell? ⟨b9, 0, none⟩ = some (.string ⟨#[]⟩) := cellK hgb 0
  have r1 : wz9.cell? ⟨b9, 1, none⟩ = some (.int .i64 0) := cellK hgb 1
  have r2 : wz9.cell? ⟨b9, 2, none⟩ = some (.string ⟨#[]⟩) := cellK hgb 2
  have r3 : wz9.cell? ⟨b9, 3, none⟩ = some (.string ⟨#[]⟩) := cellK hgb 3
  have r4 : wz9.cell? ⟨b9, 4, none⟩ = some (.bool false) := cellK hgb 4
  have r5 : wz9.cell? ⟨b9, 5, none⟩ = some (.string ⟨#[]⟩) := cellK hgb 5
  have r6 : wz9.cell? ⟨b9, 6, none⟩ = some (.bool false) := cellK hgb 6
  have r7 : wz9.cell? ⟨b9, 7, none⟩ = some (.slice none 0 0) := cellK hgb 7
  have r8 : wz9.cell? ⟨b9, 8, none⟩ = some (.int .i64 0) := cellK hgb 8
  have f0 : wz9.frozen? ⟨b9, 0, none⟩ = false := froK hgb 0
  have f1 : wz9.frozen? ⟨b9, 1, none⟩ = false := froK hgb 1
  have f2 : wz9.frozen? ⟨b9, 2, none⟩ = false := froK hgb 2
  have f3 : wz9.frozen? ⟨b9, 3, none⟩ = false := froK hgb 3
  have f4 : wz9.frozen? ⟨b9, 4, none⟩ = false := froK hgb 4
  have f5 : wz9.frozen? ⟨b9, 5, none⟩ = false := froK hgb 5
  have f6 : wz9.frozen? ⟨b9, 6, none⟩ = false := froK hgb 6
  have f7 : wz9.frozen? ⟨b9, 7, none⟩ = false := froK hgb 7
  have f8 : wz9.frozen? ⟨b9, 8, none⟩ = false := froK hgb 8
  obtain ⟨rfl, rfl, rfl, rfl, rfl, rfl, rfl⟩ := HM.out.same hm
  have HV9 := hidK (put9 (v0 := .string n0) (v1 := .int .i64 c0) (v2 := .string z0) (v3 := .string k0) (v4 := .bool x0) (v5 := .string m0) (v6 := .bool false) (v7 := .slice none 0 0) (v8 := .int .i64 p0) hgb)
  have HBW := hidK (set_below9 (v0 := .string n0) (v1 := .int .i64 c0) (v2 := .string z0) (v3 := .string k0) (v4 := .bool x0) (v5 := .string m0) (v6 := .bool false) (v7 := .slice none 0 0) (v8 := .int .i64 p0) hbW hW)
  clear hgb hm hW
  intro K hK
  rw [if_pos (by rfl)]
  simp only [putsAll, List.foldr, Act.put, List.setIfInBounds_toArray, List.set_cons_zero, List.set_cons_succ, h9, h37]
  simp only [List.getLast]
  go_simp
  refine hK _ _ ?_
  refine hK0 _ _ ?_
  clear hK hK0 K K0
  generalize (((((((((wz9.setCell ⟨b9, 0, none⟩ (.string n0)).setCell ⟨b9, 1, none⟩ (.int .i64 c0)).setCell ⟨b9, 2, none⟩ (.string z0)).setCell ⟨b9, 3, none⟩ (.string k0)).setCell ⟨b9, 4, none⟩ (.bool x0)).setCell ⟨b9, 5, none⟩ (.string m0)).setCell ⟨b9, 6, none⟩ (.bool false)).setCell ⟨b9, 7, none⟩ (.slice none 0 0)).setCell ⟨b9, 8, none⟩ (.int .i64 p0)) = y2 at HV9 HBW ⊢
  have HB2'' := hidK (HB2'.out.trans (HBW.out.mono HB2'.out.size))
  have HX0'' := hidK ((HBW.out.block _ (lt_of_some HX0'.out)).trans HX0'.out)
  have HX1'' := hidK ((HBW.out.block _ (lt_of_some HX1'.out)).trans HX1'.out)
  have HV8' := hidK ((HBW.out.block _ (lt_of_some HV8.out)).trans HV8.out)
  clear HBW HB2' HX0' HX1' r0 f0 r1 f1 r2 f2 r3 f3 r4 f4 r5 f5 r6 f6 r7 f7 r8 f8 HV8
  have p9 := HV9.out
  have p8 := HV8'.out
  have u0 : y2.cell? ⟨b9, 0, none⟩ = some (.string n0) := cellK p9 0
  have u1 : y2.cell? ⟨b9, 1, none⟩ = some (.int .i64 c0) := cellK p9 1
  have u2 : y2.cell? ⟨b9, 2, none⟩ = some (.string z0) := cellK p9 2
  have u3 : y2.cell? ⟨b9, 3, none⟩ = some (.string k0) := cellK p9 3
  have u4 : y2.cell? ⟨b9, 4, none⟩ = some (.bool x0) := cellK p9 4
  have u5 : y2.cell? ⟨b9, 5, none⟩ = some (.string m0) := cellK p9 5
  have u6 : y2.cell? ⟨b9, 6, none⟩ = some (.bool false) := cellK p9 6
  have u7 : y2.cell? ⟨b9, 7, none⟩ = some (.slice none 0 0) := cellK p9 7
  have u8 : y2.cell? ⟨b9, 8, none⟩ = some (.int .i64 p0) := cellK p9 8
  have s0 : y2.cell? ⟨b8, 0, none⟩ = some (.string n0) := cellK p8 0
  have s1 : y2.cell? ⟨b8, 1, none⟩ = some (.int .i64 c0) := cellK p8 1
  have s2 : y2.cell? ⟨b8, 2, none⟩ = some (.string z0) := cellK p8 2
  have s3 : y2.cell? ⟨b8, 3, none⟩ = some (.string k0) := cellK p8 3
  have s4 : y2.cell? ⟨b8, 4, none⟩ = some (.bool x0) := cellK p8 4
  have s5 : y2.cell? ⟨b8, 5, none⟩ = some (.string m0) := cellK p8 5
  have s6 : y2.cell? ⟨b8, 6, none⟩ = some (.bool false) := cellK p8 6
  have s7 : y2.cell? ⟨b8, 7, none⟩ = some (.slice none 0 0) := cellK p8 7
  have s8 : y2.cell? ⟨b8, 8, none⟩ = some (.int .i64 p0) := cellK p8 8
  clear p9 p8
  go_wp2_with fail
  refine (eqVolumeOut_any n0 c0 z0 k0 x0 m0 false none 0 0 [] p0 none 0 0 _ (HRN.out _ _ _ (by decide)) (HRN.out _ _ _ (by decide))).mono ?_
  rintro e y3 ⟨rfl, hb⟩
  have HB3 := hidK (HB2''.out.trans (hb.mono HB2''.out.size))
  have Z0 := hidK ((hb.block _ (lt_of_some HX0''.out)).trans HX0''.out)
  have Z1 := hidK ((hb.block _ (lt_of_some HX1''.out)).trans HX1''.out)
  have Z9 := hidK ((hb.block _ (lt_of_some HV9.out)).trans HV9.out)
  have Z8 := hidK ((hb.block _ (lt_of_some HV8'.out)).trans HV8'.out)
  clear hb HB2'' HX0'' HX1'' HV9 HV8' u0 s0 u1 s1 u2 s2 u3 s3 u4 s4 u5 s5 u6 s6 u7 s7 u8 s8
  have p9 := Z9.out
  have u0 : y3.cell? ⟨b9, 0, none⟩ = some (.string n0) := cellK p9 0
  have u1 : y3.cell? ⟨b9, 1, none⟩ = some (.int .i64 c0) := cellK p9 1
  have u2 : y3.cell? ⟨b9, 2, none⟩ = some (.string z0) := cellK p9 2
  have u3 : y3.cell? ⟨b9, 3, none⟩ = some (.string k0) := cellK p9 3
  have u4 : y3.cell? ⟨b9, 4, none⟩ = some (.bool x0) := cellK p9 4
  have u5 : y3.cell? ⟨b9, 5, none⟩ = some (.string m0) := cellK p9 5
  have u6 : y3.cell? ⟨b9, 6, none⟩ = some (.bool false) := cellK p9 6
  have u7 : y3.cell? ⟨b9, 7, none⟩ = some (.slice none 0 0) := cellK p9 7
  have u8 : y3.cell? ⟨b9, 8, none⟩ = some (.int .i64 p0) := cellK p9 8
  clear p9
  go_wp2_with fail
  refine (markVolumeOut_nil n0 c0 z0 k0 x0 m0 false none 0 p0 _).mono ?_
  rintro e y4 ⟨rfl, hb⟩
  have HB4 := hidK (HB3.out.trans (hb.mono HB3.out.size))
  have Z0' := hidK ((hb.block _ (lt_of_some Z0.out)).trans Z0.out)
  have Z1' := hidK ((hb.block _ (lt_of_some Z1.out)).trans Z1.out)
  have Z9' := hidK ((hb.block _ (lt_of_some Z9.out)).trans Z9.out)
  have Z8' := hidK ((hb.block _ (lt_of_some Z8.out)).trans Z8.out)
  clear hb HB3 Z0 Z1 Z9 Z8 u0 u1 u2 u3 u4 u5 u6 u7 u8
  have Z0 := Z0'
  clear Z0'
  have Z1 := Z1'
  clear Z1'
  have Z9 := Z9'
  clear Z9'
  have Z8 := Z8'
  clear Z8'
  have p9 := Z9.out
  have u0 : y4.cell? ⟨b9, 0, none⟩ = some (.string n0) := cellK p9 0
  have u1 : y4.cell? ⟨b9, 1, none⟩ = some (.int .i64 c0) := cellK p9 1
  have u2 : y4.cell? ⟨b9, 2, none⟩ = some (.string z0) := cellK p9 2
  have u3 : y4.cell? ⟨b9, 3, none⟩ = some (.string k0) := cellK p9 3
  have u4 : y4.cell? ⟨b9, 4, none⟩ = some (.bool x0) := cellK p9 4
  have u5 : y4.cell? ⟨b9, 5, none⟩ = some (.string m0) := cellK p9 5
  have u6 : y4.cell? ⟨b9, 6, none⟩ = some (.bool false) := cellK p9 6
  have u7 : y4.cell? ⟨b9, 7, none⟩ = some (.slice none 0 0) := cellK p9 7
  have u8 : y4.cell? ⟨b9, 8, none⟩ = some (.int .i64 p0) := cellK p9 8
  clear p9
  go_wp2_with fail
  refine (heldVolumeOut_any n0 c0 z0 k0 x0 m0 false none 0 0 p0 [] _ (HRN.out _ _ _ (by decide)) (by decide) (fun j y hy => by simp at hy)).mono ?_
  rintro e y5 ⟨rfl, hb⟩
  have HB5 := hidK (HB4.out.trans (hb.mono HB4.out.size))
  have Z0' := hidK ((hb.block _ (lt_of_some Z0.out)).trans Z0.out)
  have Z1' := hidK ((hb.block _ (lt_of_some Z1.out)).trans Z1.out)
  have Z9' := hidK ((hb.block _ (lt_of_some Z9.out)).trans Z9.out)
  have Z8' := hidK ((hb.block _ (lt_of_some Z8.out)).trans Z8.out)
  clear hb HB4 Z0 Z1 Z9 Z8 u0 u1 u2 u3 u4 u5 u6 u7 u8
  have Z0 := Z0'
  clear Z0'
  have Z1 := Z1'
  clear Z1'
  have Z9 := Z9'
  clear Z9'
  have Z8 := Z8'
  clear Z8'
  go_wp2_with fail
  rename_i K0 hK0
  refine wp_region_grow_last (by kernel_rfl) rfl rfl (by kernel_rfl) ?_
  refine' Grow.stepC _ rfl ?_ ?_
  rotate_left 1
  · refine Obl.plain rfl ?_
    intro ac wg K hsz hW hf hK; clear hsz
    have e3 := hf 3 (by decide)
    simp [slotFact, List.lookup] at e3
    clear hf
    have gd := (hW.block _ (lt_of_some Z0.out)).trans Z0.out
    have d0 : wg.cell? ⟨w.heap.size, 0, none⟩ = some (.string n') := cellK gd 0
    have d1 : wg.cell? ⟨w.heap.size, 1, none⟩ = some (.int .i64 c') := cellK gd 1
    have d2 : wg.cell? ⟨w.heap.size, 2, none⟩ = some (.string k') := cellK gd 2
    have d3 : wg.cell? ⟨w.heap.size, 3, none⟩ = some (.bool x') := cellK gd 3
    have d4 : wg.cell? ⟨w.heap.size, 4, none⟩ = some (.string v') := cellK gd 4
    clear gd
    go_simp
    refine hK _ _ (Below.refl _ _) ?_
    with_reducible rfl
  refine' Grow.stepC (.agg #[.string n', .int .i64 c', .string k', .bool x', .string v']) rfl ?_ ?_
  · refine Obl.plain rfl ?_
    intro ac wg K hsz hW hf hK; clear hsz
    have e53 := hf 53 (by decide)
    simp [slotFact, List.lookup] at e53
    clear hf
    go_simp
    refine (toClaim_any n' c' k' x' v' _).mono ?_
    rintro e w5 ⟨rfl, hb5⟩
    exact hK _ _ hb5 rfl
  refine' Grow.stepC _ rfl ?_ ?_
  rotate_left 1
  · refine Obl.plain rfl ?_
    intro ac wg K hsz hW hf hK; clear hsz
    have e4 := hf 4 (by decide)
    simp [slotFact, List.lookup] at e4
    clear hf
    have gd := (hW.block _ (lt_of_some Z1.out)).trans Z1.out
    have d0 : wg.cell? ⟨w.heap.size + 1, 0, none⟩ = some (.string n) := cellK gd 0
    have d1 : wg.cell? ⟨w.heap.size + 1, 1, none⟩ = some (.bool x) := cellK gd 1
    have d2 : wg.cell? ⟨w.heap.size + 1, 2, none⟩ = some (.bool y) := cellK gd 2
    have d3 : wg.cell? ⟨w.heap.size + 1, 3, none⟩ = some (.string z) := cellK gd 3
    clear gd
    go_simp
    refine hK _ _ (Below.refl _ _) ?_
    with_reducible rfl
  refine' Grow.stepC (.agg #[.string n, .bool x, .bool y, .string z]) rfl ?_ ?_
  · refine Obl.plain rfl ?_
    intro ac wg K hsz hW hf hK; clear hsz
    have e55 := hf 55 (by decide)
    simp [slotFact, List.lookup] at e55
    clear hf
    go_simp
    refine (toClass_any n x y z _).mono ?_
    rintro e w5 ⟨rfl, hb5⟩
    exact hK _ _ hb5 rfl
  refine' Grow.stepC _ rfl ?_ ?_
  rotate_left 1
  · refine Obl.plain rfl ?_
    intro ac wg K hsz hW hf hK; clear hsz
    have e2 := hf 2 (by decide)
    simp [slotFact, List.lookup] at e2
    clear hf
    go_simp
    refine hK _ _ (Below.refl _ _) ?_
    with_reducible rfl
  refine Grow.step (MakeV n' c' k' x' v' n z t) rfl (fun _ _ _ h _ => h) ?_ ?_
  · refine Obl.plain rfl ?_
    intro ac wg K hsz hW hf hK; clear hsz
    have e54 := hf 54 (by decide)
    simp [slotFact, List.lookup] at e54
    have e56 := hf 56 (by decide)
    simp [slotFact, List.lookup] at e56
    have e57 := hf 57 (by decide)
    simp [slotFact, List.lookup] at e57
    clear hf
    go_simp
    refine (imake_any n' c' k' x' v' n x y z t _ (by omega) (by omega) (by omega) (by omega) (by omega) (by omega)).mono ?_
    rintro e w5 ⟨n0, c0, z0, k0, x0, m0, p0, rfl, hm, hb5⟩
    exact hK _ _ hb5 ⟨n0, c0, z0, k0, x0, m0, p0, rfl, hm⟩
  refine Grow.step (FreshOut y5) rfl (FreshOut.mono y5) ?_ ?_
  · refine Obl.plain rfl ?_
    intro ac wg K hsz hW hf hK; clear hsz
    clear hf
    go_simp
    exact hK _ _ (below1 _ _) ⟨_, rfl, hW.size, Array.getElem?_push_size⟩
  refine Grow.done ?_
  intro q wz12 hW hf
  simp only [List.forall_mem_cons] at hf
  obtain ⟨⟨b12, h12, hbW, hgb⟩, ⟨n1, c1, z1, k1, x1, m1, p1, h58, hm⟩, -⟩ := hf
  have r0 : wz12.cell? ⟨b12, 0, none⟩ = some (.string ⟨#[]⟩) := cellK hgb 0
  have r1 : wz12.cell? ⟨b12, 1, none⟩ = some (.int .i64 0) := cellK hgb 1
  have r2 : wz12.cell? ⟨b12, 2, none⟩ = some (.string ⟨#[]⟩) := cellK hgb 2
  have r3 : wz12.cell? ⟨b12, 3, none⟩ = some (.string ⟨#[]⟩) := cellK hgb 3
  have r4 : wz12.cell? ⟨b12, 4, none⟩ = some (.bool false) := cellK hgb 4
  have r5 : wz12.cell? ⟨b12, 5, none⟩ = some (.string ⟨#[]⟩) := cellK hgb 5
  have r6 : wz12.cell? ⟨b12, 6, none⟩ = some (.bool false) := cellK hgb 6
  have r7 : wz12.cell? ⟨b12, 7, none⟩ = some (.slice none 0 0) := cellK hgb 7
  have r8 : wz12.cell? ⟨b12, 8, none⟩ = some (.int .i64 0) := cellK hgb 8
  have f0 : wz12.frozen? ⟨b12, 0, none⟩ = false := froK hgb 0
  have f1 : wz12.frozen? ⟨b12, 1, none⟩ = false := froK hgb 1
  have f2 : wz12.frozen? ⟨b12, 2, none⟩ = false := froK hgb 2
  have f3 : wz12.frozen? ⟨b12, 3, none⟩ = false := froK hgb 3
  have f4 : wz12.frozen? ⟨b12, 4, none⟩ = false := froK hgb 4
  have f5 : wz12.frozen? ⟨b12, 5, none⟩ = false := froK hgb 5
  have f6 : wz12.frozen? ⟨b12, 6, none⟩ = false := froK hgb 6
  have f7 : wz12.frozen? ⟨b12, 7, none⟩ = false := froK hgb 7
  have f8 : wz12.frozen? ⟨b12, 8, none⟩ = false := froK hgb 8
  obtain ⟨rfl, rfl, rfl, rfl, rfl, rfl, rfl⟩ := HM.out.same hm
  have HV12 := hidK (put9 (v0 := .string n0) (v1 := .int .i64 c0) (v2 := .string z0) (v3 := .string k0) (v4 := .bool x0) (v5 := .string m0) (v6 := .bool false) (v7 := .slice none 0 0) (v8 := .int .i64 p0) hgb)
  have HBW := hidK (set_below9 (v0 := .string n0) (v1 := .int .i64 c0) (v2 := .string z0) (v3 := .string k0) (v4 := .bool x0) (v5 := .string m0) (v6 := .bool false) (v7 := .slice none 0 0) (v8 := .int .i64 p0) hbW hW)
  clear hgb hm hW
  intro K hK
  rw [if_pos (by rfl)]
  simp only [putsAll, List.foldr, Act.put, List.setIfInBounds_toArray, List.set_cons_zero, List.set_cons_succ, h12, h58]
  simp only [List.getLast]
  go_simp
  refine hK _ _ ?_
  refine hK0 _ _ ?_
  clear hK hK0 K K0
  generalize (((((((((wz12.setCell ⟨b12, 0, none⟩ (.string n0)).setCell ⟨b12, 1, none⟩ (.int .i64 c0)).setCell ⟨b12, 2, none⟩ (.string z0)).setCell ⟨b12, 3, none⟩ (.string k0)).setCell ⟨b12, 4, none⟩ (.bool x0)).setCell ⟨b12, 5, none⟩ (.string m0)).setCell ⟨b12, 6, none⟩ (.bool false)).setCell ⟨b12, 7, none⟩ (.slice none 0 0)).setCell ⟨b12, 8, none⟩ (.int .i64 p0)) = y6 at HV12 HBW ⊢
  have HB5' := hidK (HB5.out.trans (HBW.out.mono HB5.out.size))
  have Z0' := hidK ((HBW.out.block _ (lt_of_some Z0.out)).trans Z0.out)
  have Z1' := hidK ((HBW.out.block _ (lt_of_some Z1.out)).trans Z1.out)
  have HV8 := hidK ((HBW.out.block _ (lt_of_some Z8.out)).trans Z8.out)
  have HV9 := hidK ((HBW.out.block _ (lt_of_some Z9.out)).trans Z9.out)
  clear HBW HB5 Z0 Z1 r0 f0 r1 f1 r2 f2 r3 f3 r4 f4 r5 f5 r6 f6 r7 f7 r8 f8 Z8 Z9
  have p9 := HV12.out
  have p8 := HV8.out
  have u0 : y6.cell? ⟨b12, 0, none⟩ = some (.string n0) := cellK p9 0
  have u1 : y6.cell? ⟨b12, 1, none⟩ = some (.int .i64 c0) := cellK p9 1
  have u2 : y6.cell? ⟨b12, 2, none⟩ = some (.string z0) := cellK p9 2
  have u3 : y6.cell? ⟨b12, 3, none⟩ = some (.string k0) := cellK p9 3
  have u4 : y6.cell? ⟨b12, 4, none⟩ = some (.bool x0) := cellK p9 4
  have u5 : y6.cell? ⟨b12, 5, none⟩ = some (.string m0) := cellK p9 5
  have u6 : y6.cell? ⟨b12, 6, none⟩ = some (.bool false) := cellK p9 6
  have u7 : y6.cell? ⟨b12, 7, none⟩ = some (.slice none 0 0) := cellK p9 7
  have u8 : y6.cell? ⟨b12, 8, none⟩ = some (.int .i64 p0) := cellK p9 8
  have s0 : y6.cell? ⟨b8, 0, none⟩ = some (.string n0) := cellK p8 0
  have s1 : y6.cell? ⟨b8, 1, none⟩ = some (.int .i64 c0) := cellK p8 1
  have s2 : y6.cell? ⟨b8, 2, none⟩ = some (.string z0) := cellK p8 2
  have s3 : y6.cell? ⟨b8, 3, none⟩ = some (.string k0) := cellK p8 3
  have s4 : y6.cell? ⟨b8, 4, none⟩ = some (.bool x0) := cellK p8 4
  have s5 : y6.cell? ⟨b8, 5, none⟩ = some (.string m0) := cellK p8 5
  have s6 : y6.cell? ⟨b8, 6, none⟩ = some (.bool false) := cellK p8 6
  have s7 : y6.cell? ⟨b8, 7, none⟩ = some (.slice none 0 0) := cellK p8 7
  have s8 : y6.cell? ⟨b8, 8, none⟩ = some (.int .i64 p0) := cellK p8 8
  clear p9 p8
  go_wp2_with fail
  refine (eqVolumeOut_any n0 c0 z0 k0 x0 m0 false none 0 0 [] p0 none 0 0 _ (HRN.out _ _ _ (by decide)) (HRN.out _ _ _ (by decide))).mono ?_
  rintro e y7 ⟨rfl, hb⟩
  have HB6 := hidK (HB5'.out.trans (hb.mono HB5'.out.size))
  have Z9 := hidK ((hb.block _ (lt_of_some HV9.out)).trans HV9.out)
  clear hb u0 s0 u1 s1 u2 s2 u3 s3 u4 s4 u5 s5 u6 s6 u7 s7 u8 s8
  have p9 := Z9.out
  have u0 : y7.cell? ⟨b9, 0, none⟩ = some (.string n0) := cellK p9 0
  have u1 : y7.cell? ⟨b9, 1, none⟩ = some (.int .i64 c0) := cellK p9 1
  have u2 : y7.cell? ⟨b9, 2, none⟩ = some (.string z0) := cellK p9 2
  have u3 : y7.cell? ⟨b9, 3, none⟩ = some (.string k0) := cellK p9 3
  have u4 : y7.cell? ⟨b9, 4, none⟩ = some (.bool x0) := cellK p9 4
  have u5 : y7.cell? ⟨b9, 5, none⟩ = some (.string m0) := cellK p9 5
  have u6 : y7.cell? ⟨b9, 6, none⟩ = some (.bool false) := cellK p9 6
  have u7 : y7.cell? ⟨b9, 7, none⟩ = some (.slice none 0 0) := cellK p9 7
  have u8 : y7.cell? ⟨b9, 8, none⟩ = some (.int .i64 p0) := cellK p9 8
  clear p9
  go_wp2_with fail
  refine (heldVolumeOut_any n0 c0 z0 k0 x0 m0 false none 0 0 p0 [] _ (HRN.out _ _ _ (by decide)) (by decide) (fun j y hy => by simp at hy)).mono ?_
  rintro e y8 ⟨rfl, hb⟩
  have HB7 := hidK (HB6.out.trans (hb.mono HB6.out.size))
  clear hb
  go_wp2_with fail
  go_ret
  exact ⟨rfl, HB7.out⟩

end Go.Proofs.Ytjkgpkgbaapdmaa
