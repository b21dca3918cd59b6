/-
  The law FnExactServes, walked: it returns true at every volume, claim and zone.
-/
import Derived.Test.YtjkgpkgbaapdmaaServe3
namespace Go.Proofs.Ytjkgpkgbaapdmaa
open Go.RowKit

/-- A volume's value, its list in a block of its own, which the world holds. -/
def VolAt (n : ByteArray) (c : Int) (z k : ByteArray) (x : Bool) (m : ByteArray) (y : Bool) (len : Nat) (zs : List ByteArray) (v : Value) (w : World) : Prop :=
  ∃ g, v = .agg #[.string n, .int .i64 c, .string z, .string k, .bool x, .string m, .bool y, .slice (some ⟨g, 0, none⟩) len len] ∧ w.heap[g]? = some (.cells (zs.map Value.string).toArray 9 (0, 0))
theorem VolAt.mono (n : ByteArray) (c : Int) (z k : ByteArray) (x : Bool) (m : ByteArray) (y : Bool) (len : Nat) (zs : List ByteArray) : Fact.Mono (VolAt n c z k x m y len zs) :=
  fun _ _ _ ⟨g, h, h'⟩ hb => ⟨g, h, (hb.block _ (lt_of_some h')).trans h'⟩
/-- A bool: whether p. -/
def BoolIs (p : Prop) (v : Value) (_ : World) : Prop := ∃ r : Bool, v = .bool r ∧ (r = true ↔ p)
theorem BoolIs.mono (p : Prop) : Fact.Mono (BoolIs p) := fun _ _ _ h _ => h

set_option linter.unusedVariables false in
set_option maxHeartbeats 3200000 in
theorem fnExactServes_walk (n : ByteArray) (c : Int) (z : ByteArray) (k : ByteArray) (x : Bool) (m : ByteArray) (y : Bool) (a : Option Addr) (len cap : Nat) (zs : List ByteArray) (n' : ByteArray) (c' : Int) (k' : ByteArray) (x' : Bool) (v' : ByteArray) (t : ByteArray) (w : World) (hn : n.size ≤ maxLen) (hc : (Lit.int .i64 c).wf = true) (hz : z.size ≤ maxLen) (hk : k.size ≤ maxLen) (hm : m.size ≤ maxLen) (hr : TxRow w a len cap zs) (hn' : n'.size ≤ maxLen) (hc' : (Lit.int .i64 c').wf = true) (hk' : k'.size ≤ maxLen) (hv' : v'.size ≤ maxLen) (ht : t.size ≤ maxLen) :
    Calls Try.prog 4 #[.agg #[.string n, .int .i64 c, .string z, .string k, .bool x, .string m, .bool y, .slice a len cap], .agg #[.string n', .int .i64 c', .string k', .bool x', .string v'], .string t] w fun e w' => e = .returned (.bool true) ∧ Below w.heap.size w w' := by
  unfold maxLen at hn hz hk hm hn' hk' hv' ht
  clear hc hc'
  have HR := hidK hr
  have HZ := hidK hr.2.2.2.1
  have hzl : zs.length = len := hr.1
  clear hr
  by_cases hl : 1048576 < t.size
  · go_enter Try.func4, Try.ntmps4
    go_wp2
    go_ret
    exact ⟨rfl, below2 _ _ _⟩
  go_enter Try.func4, Try.ntmps4
  go_wp2_with fail
  refine (szVolume_any n c z k x m y a len cap zs _ _ (by omega) (by omega) (by omega) (by omega) (HR.out.below (below2 _ _ _)) (by decide) (by decide)).mono ?_
  rintro e w1 ⟨r, rfl, hr, hb⟩
  have g0 := (hb.block w.heap.size (by simp; omega)).trans (heap2_0 _ _ _)
  have g1 := (hb.block (w.heap.size + 1) (by simp)).trans (heap2_1 _ _ _)
  have HB := hidK ((below2 w _ _).trans (hb.mono (by simp; omega)))
  have HG0 := hidK g0
  have HG1 := hidK g1
  have d0 : w1.cell? ⟨w.heap.size + 1, 0, none⟩ = some (.string n') := cellK g1 0
  have d1 : w1.cell? ⟨w.heap.size + 1, 1, none⟩ = some (.int .i64 c') := cellK g1 1
  have d2 : w1.cell? ⟨w.heap.size + 1, 2, none⟩ = some (.string k') := cellK g1 2
  have d3 : w1.cell? ⟨w.heap.size + 1, 3, none⟩ = some (.bool x') := cellK g1 3
  have d4 : w1.cell? ⟨w.heap.size + 1, 4, none⟩ = some (.string v') := cellK g1 4
  clear g0 g1 hb
  rcases hr with rfl | ⟨hr0, hr1, hlen⟩
  · go_wp2
    go_ret
    exact ⟨rfl, HB.out⟩
  go_wp2_with fail
  refine (szClaim_any n' c' k' x' v' r _ (by omega) (by omega) (by omega) (by omega) (by omega)).mono ?_
  rintro e w2 ⟨r2, rfl, hr, hb⟩
  have HB2 := hidK (HB.out.trans (hb.mono HB.out.size))
  have g0 := (hb.block _ (lt_of_some HG0.out)).trans HG0.out
  have g1 := (hb.block _ (lt_of_some HG1.out)).trans HG1.out
  have HX0 := hidK g0
  have HX1 := hidK g1
  clear g0 g1 hb d0 d1 d2 d3 d4 HG0 HG1 HB
  rcases hr with rfl | ⟨hr2, -, -⟩
  · go_wp2
    go_ret
    exact ⟨rfl, HB2.out⟩
  go_wp2_with fail
  rename_i K0 hK0
  refine wp_region_grow (back := none) (by kernel_rfl) (List.append_nil _).symm (by kernel_rfl) ?_
  refine' Grow.stepC _ rfl ?_ ?_
  rotate_left 1
  · refine Obl.plain rfl ?_
    intro ac wg K hsz hW hf hK; clear hsz
    have e3 := hf 3 (by decide)
    simp [slotFact, List.lookup] at e3
    clear hf
    have gd := (hW.block _ (lt_of_some HX0.out)).trans HX0.out
    have d0 : wg.cell? ⟨w.heap.size, 0, none⟩ = some (.string n) := cellK gd 0
    have d1 : wg.cell? ⟨w.heap.size, 1, none⟩ = some (.int .i64 c) := cellK gd 1
    have d2 : wg.cell? ⟨w.heap.size, 2, none⟩ = some (.string z) := cellK gd 2
    have d3 : wg.cell? ⟨w.heap.size, 3, none⟩ = some (.string k) := cellK gd 3
    have d4 : wg.cell? ⟨w.heap.size, 4, none⟩ = some (.bool x) := cellK gd 4
    have d5 : wg.cell? ⟨w.heap.size, 5, none⟩ = some (.string m) := cellK gd 5
    have d6 : wg.cell? ⟨w.heap.size, 6, none⟩ = some (.bool y) := cellK gd 6
    have d7 : wg.cell? ⟨w.heap.size, 7, none⟩ = some (.slice a len cap) := cellK gd 7
    clear gd
    go_simp
    refine hK _ _ (Below.refl _ _) ?_
    with_reducible rfl
  refine Grow.step (VolAt n c z k x m y len zs) rfl (VolAt.mono n c z k x m y len zs) ?_ ?_
  · refine Obl.plain rfl ?_
    intro ac wg K hsz hW hf hK; clear hsz
    have e24 := hf 24 (by decide)
    simp [slotFact, List.lookup] at e24
    clear hf
    go_simp
    refine (toVolume_any n c z k x m y a len cap zs _ (HR.out.below (HB2.out.trans (hW.mono HB2.out.size))) hlen).mono ?_
    rintro e w5 ⟨rfl, hG, hb5⟩
    exact hK _ _ hb5 ⟨_, rfl, hG⟩
  refine' Grow.stepC _ rfl ?_ ?_
  rotate_left 1
  · refine Obl.plain rfl ?_
    intro ac wg K hsz hW hf hK; clear hsz
    have e4 := hf 4 (by decide)
    simp [slotFact, List.lookup] at e4
    clear hf
    have gd := (hW.block _ (lt_of_some HX1.out)).trans HX1.out
    have d0 : wg.cell? ⟨w.heap.size + 1, 0, none⟩ = some (.string n') := cellK gd 0
    have d1 : wg.cell? ⟨w.heap.size + 1, 1, none⟩ = some (.int .i64 c') := cellK gd 1
    have d2 : wg.cell? ⟨w.heap.size + 1, 2, none⟩ = some (.string k') := cellK gd 2
    have d3 : wg.cell? ⟨w.heap.size + 1, 3, none⟩ = some (.bool x') := cellK gd 3
    have d4 : wg.cell? ⟨w.heap.size + 1, 4, none⟩ = some (.string v') := cellK gd 4
    clear gd
    go_simp
    refine hK _ _ (Below.refl _ _) ?_
    with_reducible rfl
  refine' Grow.stepC (.agg #[.string n', .int .i64 c', .string k', .bool x', .string v']) rfl ?_ ?_
  · refine Obl.plain rfl ?_
    intro ac wg K hsz hW hf hK; clear hsz
    have e26 := hf 26 (by decide)
    simp [slotFact, List.lookup] at e26
    clear hf
    go_simp
    refine (toClaim_any n' c' k' x' v' _).mono ?_
    rintro e w5 ⟨rfl, hb5⟩
    exact hK _ _ hb5 rfl
  refine' Grow.stepC _ rfl ?_ ?_
  rotate_left 1
  · refine Obl.plain rfl ?_
    intro ac wg K hsz hW hf hK; clear hsz
    have e2 := hf 2 (by decide)
    simp [slotFact, List.lookup] at e2
    clear hf
    go_simp
    refine hK _ _ (Below.refl _ _) ?_
    with_reducible rfl
  refine Grow.step (BoolIs (ServeOk n c z k x m y zs n' c' k' x' v' t)) rfl (BoolIs.mono _) ?_ ?_
  · refine Obl.plain rfl ?_
    intro ac wg K hsz hW hf hK; clear hsz
    have e25 := hf 25 (by decide)
    simp [slotFact, List.lookup] at e25
    have e27 := hf 27 (by decide)
    simp [slotFact, List.lookup] at e27
    have e28 := hf 28 (by decide)
    simp [slotFact, List.lookup] at e28
    clear hf
    obtain ⟨g, e25, hG⟩ := e25
    go_simp
    refine (sserves_any n c z k x m y _ len len zs n' c' k' x' v' t _ (by omega) (by omega) (by omega) (by omega) (by omega) (by omega) (by omega) (by omega) (TxRow.copy hG hzl hlen HZ.out)).mono ?_
    rintro e w5 ⟨r, rfl, hr, hb5⟩
    exact hK _ _ hb5 ⟨r, rfl, hr⟩
  refine Grow.step (BoolIs (ServeOk n c z k x m y zs n' c' k' x' v' t)) rfl (BoolIs.mono _) ?_ ?_
  · refine Obl.plain rfl ?_
    intro ac wg K hsz hW hf hK; clear hsz
    have e29 := hf 29 (by decide)
    simp [slotFact, List.lookup] at e29
    clear hf
    obtain ⟨r, e29, hr⟩ := e29
    go_simp
    exact hK _ _ (Below.refl _ _) ⟨r, rfl, hr⟩
  refine Grow.done ?_
  intro q wz hW hf
  simp only [List.forall_mem_cons] at hf
  obtain ⟨⟨rs, h8, hrs⟩, -⟩ := hf
  have HB3 := hidK (HB2.out.trans (hW.mono HB2.out.size))
  have g0 := (hW.block _ (lt_of_some HX0.out)).trans HX0.out
  have g1 := (hW.block _ (lt_of_some HX1.out)).trans HX1.out
  have HY0 := hidK g0
  have HY1 := hidK g1
  have HS := hidK hrs
  have d0 : wz.cell? ⟨w.heap.size, 0, none⟩ = some (.string n) := cellK g0 0
  have d1 : wz.cell? ⟨w.heap.size, 1, none⟩ = some (.int .i64 c) := cellK g0 1
  have d2 : wz.cell? ⟨w.heap.size, 2, none⟩ = some (.string z) := cellK g0 2
  have d3 : wz.cell? ⟨w.heap.size, 3, none⟩ = some (.string k) := cellK g0 3
  have d4 : wz.cell? ⟨w.heap.size, 4, none⟩ = some (.bool x) := cellK g0 4
  have d5 : wz.cell? ⟨w.heap.size, 5, none⟩ = some (.string m) := cellK g0 5
  have d6 : wz.cell? ⟨w.heap.size, 6, none⟩ = some (.bool y) := cellK g0 6
  have d7 : wz.cell? ⟨w.heap.size, 7, none⟩ = some (.slice a len cap) := cellK g0 7
  clear hW g0 g1 HX0 HX1 hrs
  refine hK0 _ _ ?_
  simp only [putsAll, List.foldr, Act.put, List.setIfInBounds_toArray, List.set_cons_zero, List.set_cons_succ, h8]
  clear hK0
  go_wp2_with fail
  refine (toVolume_any n c z k x m y a len cap zs _ (HR.out.below HB3.out) hlen).mono ?_
  rintro e w4 ⟨rfl, hG4, hb4⟩
  have HB4 := hidK (HB3.out.trans (hb4.mono HB3.out.size))
  have g0 := (hb4.block _ (lt_of_some HY0.out)).trans HY0.out
  have g1 := (hb4.block _ (lt_of_some HY1.out)).trans HY1.out
  have HX0 := hidK g0
  have HX1 := hidK g1
  have HG4 := hidK hG4
  clear d0 d1 d2 d3 d4 d5 d6 d7 g0 g1 HY0 HY1 hG4 hb4
  go_wp2_with fail
  have hb41 := below1 w4 (.cells #[.string n, .int .i64 c, .string z, .string k, .bool x, .string m, .bool y, .slice (some ⟨wz.heap.size + 1 + 1 + 1, 0, none⟩) len len] 30)
  have HV4 : Hid ((w4.alloc (.cells #[.string n, .int .i64 c, .string z, .string k, .bool x, .string m, .bool y, .slice (some ⟨wz.heap.size + 1 + 1 + 1, 0, none⟩) len len] 30)).heap[w4.heap.size]? = some (.cells #[.string n, .int .i64 c, .string z, .string k, .bool x, .string m, .bool y, .slice (some ⟨wz.heap.size + 1 + 1 + 1, 0, none⟩) len len] 30 (0, 0))) := Array.getElem?_push_size
  have HB5 := hidK (HB4.out.trans (hb41.mono HB4.out.size))
  have HY0 := hidK ((hb41.block _ (lt_of_some HX0.out)).trans HX0.out)
  have HY1 := hidK ((hb41.block _ (lt_of_some HX1.out)).trans HX1.out)
  have HY4 := hidK ((hb41.block _ (lt_of_some HG4.out)).trans HG4.out)
  clear hb41 HX0 HX1 HG4
  generalize (w4.alloc (.cells #[.string n, .int .i64 c, .string z, .string k, .bool x, .string m, .bool y, .slice (some ⟨wz.heap.size + 1 + 1 + 1, 0, none⟩) len len] 30)) = W5 at HV4 HB5 HY0 HY1 HY4 ⊢
  rename_i K0 hK0
  refine wp_region_grow (back := none) (by kernel_rfl) (List.append_nil _).symm (by kernel_rfl) ?_
  refine' Grow.stepC _ rfl ?_ ?_
  rotate_left 1
  · refine Obl.plain rfl ?_
    intro ac wg K hsz hW hf hK; clear hsz
    have e9 := hf 9 (by decide)
    simp [slotFact, List.lookup] at e9
    clear hf
    have gd := (hW.block _ (lt_of_some HV4.out)).trans HV4.out
    have d0 : wg.cell? ⟨w4.heap.size, 0, none⟩ = some (.string n) := cellK gd 0
    have d1 : wg.cell? ⟨w4.heap.size, 1, none⟩ = some (.int .i64 c) := cellK gd 1
    have d2 : wg.cell? ⟨w4.heap.size, 2, none⟩ = some (.string z) := cellK gd 2
    have d3 : wg.cell? ⟨w4.heap.size, 3, none⟩ = some (.string k) := cellK gd 3
    have d4 : wg.cell? ⟨w4.heap.size, 4, none⟩ = some (.bool x) := cellK gd 4
    have d5 : wg.cell? ⟨w4.heap.size, 5, none⟩ = some (.string m) := cellK gd 5
    have d6 : wg.cell? ⟨w4.heap.size, 6, none⟩ = some (.bool y) := cellK gd 6
    have d7 : wg.cell? ⟨w4.heap.size, 7, none⟩ = some (.slice (some ⟨wz.heap.size + 1 + 1 + 1, 0, none⟩) len len) := cellK gd 7
    clear gd
    go_simp
    refine hK _ _ (Below.refl _ _) ?_
    with_reducible rfl
  refine' Grow.stepC _ rfl ?_ ?_
  rotate_left 1
  · refine Obl.plain rfl ?_
    intro ac wg K hsz hW hf hK; clear hsz
    have e4 := hf 4 (by decide)
    simp [slotFact, List.lookup] at e4
    clear hf
    have gd := (hW.block _ (lt_of_some HY1.out)).trans HY1.out
    have d0 : wg.cell? ⟨w.heap.size + 1, 0, none⟩ = some (.string n') := cellK gd 0
    have d1 : wg.cell? ⟨w.heap.size + 1, 1, none⟩ = some (.int .i64 c') := cellK gd 1
    have d2 : wg.cell? ⟨w.heap.size + 1, 2, none⟩ = some (.string k') := cellK gd 2
    have d3 : wg.cell? ⟨w.heap.size + 1, 3, none⟩ = some (.bool x') := cellK gd 3
    have d4 : wg.cell? ⟨w.heap.size + 1, 4, none⟩ = some (.string v') := cellK gd 4
    clear gd
    go_simp
    refine hK _ _ (Below.refl _ _) ?_
    with_reducible rfl
  refine' Grow.stepC (.agg #[.string n', .int .i64 c', .string k', .bool x', .string v']) rfl ?_ ?_
  · refine Obl.plain rfl ?_
    intro ac wg K hsz hW hf hK; clear hsz
    have e33 := hf 33 (by decide)
    simp [slotFact, List.lookup] at e33
    clear hf
    go_simp
    refine (toClaim_any n' c' k' x' v' _).mono ?_
    rintro e w5 ⟨rfl, hb5⟩
    exact hK _ _ hb5 rfl
  refine' Grow.stepC _ rfl ?_ ?_
  rotate_left 1
  · refine Obl.plain rfl ?_
    intro ac wg K hsz hW hf hK; clear hsz
    have e2 := hf 2 (by decide)
    simp [slotFact, List.lookup] at e2
    clear hf
    go_simp
    refine hK _ _ (Below.refl _ _) ?_
    with_reducible rfl
  refine Grow.step (BoolIs (ServeOk n c z k x m y zs n' c' k' x' v' t)) rfl (BoolIs.mono _) ?_ ?_
  · refine Obl.plain rfl ?_
    intro ac wg K hsz hW hf hK; clear hsz
    have e32 := hf 32 (by decide)
    simp [slotFact, List.lookup] at e32
    have e34 := hf 34 (by decide)
    simp [slotFact, List.lookup] at e34
    have e35 := hf 35 (by decide)
    simp [slotFact, List.lookup] at e35
    clear hf
    go_simp
    refine (iserves_any n c z k x m y _ len len zs n' c' k' x' v' t _ (by omega) (by omega) (by omega) (by omega) (by omega) (by omega) (by omega) (by omega) (TxRow.copy ((hW.block _ (lt_of_some HY4.out)).trans HY4.out) hzl hlen HZ.out)).mono ?_
    rintro e w5 ⟨r, rfl, hr, hb5⟩
    exact hK _ _ hb5 ⟨r, rfl, hr⟩
  refine Grow.step (BoolIs (ServeOk n c z k x m y zs n' c' k' x' v' t)) rfl (BoolIs.mono _) ?_ ?_
  · refine Obl.plain rfl ?_
    intro ac wg K hsz hW hf hK; clear hsz
    have e36 := hf 36 (by decide)
    simp [slotFact, List.lookup] at e36
    clear hf
    obtain ⟨r, e36, hr⟩ := e36
    go_simp
    exact hK _ _ (Below.refl _ _) ⟨r, rfl, hr⟩
  refine Grow.done ?_
  intro q wy hW hf
  simp only [List.forall_mem_cons] at hf
  obtain ⟨⟨ri, h10, hri⟩, -⟩ := hf
  obtain rfl : ri = rs := by rw [Bool.eq_iff_iff, HS.out, hri]
  have HB6 := hidK (HB5.out.trans (hW.mono HB5.out.size))
  have HX0 := hidK ((hW.block _ (lt_of_some HY0.out)).trans HY0.out)
  have HX4 := hidK ((hW.block _ (lt_of_some HY4.out)).trans HY4.out)
  have HXV := hidK ((hW.block _ (lt_of_some HV4.out)).trans HV4.out)
  clear hW HY0 HY1 HY4 HV4 hri HS
  have hqq : (ri != ri) = false := by simp
  refine hK0 _ _ ?_
  simp only [putsAll, List.foldr, Act.put, List.setIfInBounds_toArray, List.set_cons_zero, List.set_cons_succ, h10]
  clear hK0
  go_wp2_with fail
  rename_i K0 hK0
  refine wp_region_grow (back := none) (by kernel_rfl) (List.append_nil _).symm (by kernel_rfl) ?_
  refine' Grow.stepC _ rfl ?_ ?_
  rotate_left 1
  · refine Obl.plain rfl ?_
    intro ac wg K hsz hW hf hK; clear hsz
    have e9 := hf 9 (by decide)
    simp [slotFact, List.lookup] at e9
    clear hf
    have gd := (hW.block _ (lt_of_some HXV.out)).trans HXV.out
    have d0 : wg.cell? ⟨w4.heap.size, 0, none⟩ = some (.string n) := cellK gd 0
    have d1 : wg.cell? ⟨w4.heap.size, 1, none⟩ = some (.int .i64 c) := cellK gd 1
    have d2 : wg.cell? ⟨w4.heap.size, 2, none⟩ = some (.string z) := cellK gd 2
    have d3 : wg.cell? ⟨w4.heap.size, 3, none⟩ = some (.string k) := cellK gd 3
    have d4 : wg.cell? ⟨w4.heap.size, 4, none⟩ = some (.bool x) := cellK gd 4
    have d5 : wg.cell? ⟨w4.heap.size, 5, none⟩ = some (.string m) := cellK gd 5
    have d6 : wg.cell? ⟨w4.heap.size, 6, none⟩ = some (.bool y) := cellK gd 6
    have d7 : wg.cell? ⟨w4.heap.size, 7, none⟩ = some (.slice (some ⟨wz.heap.size + 1 + 1 + 1, 0, none⟩) len len) := cellK gd 7
    clear gd
    go_simp
    refine hK _ _ (Below.refl _ _) ?_
    with_reducible rfl
  refine' Grow.stepC _ rfl ?_ ?_
  rotate_left 1
  · refine Obl.plain rfl ?_
    intro ac wg K hsz hW hf hK; clear hsz
    have e3 := hf 3 (by decide)
    simp [slotFact, List.lookup] at e3
    clear hf
    have gd := (hW.block _ (lt_of_some HX0.out)).trans HX0.out
    have d0 : wg.cell? ⟨w.heap.size, 0, none⟩ = some (.string n) := cellK gd 0
    have d1 : wg.cell? ⟨w.heap.size, 1, none⟩ = some (.int .i64 c) := cellK gd 1
    have d2 : wg.cell? ⟨w.heap.size, 2, none⟩ = some (.string z) := cellK gd 2
    have d3 : wg.cell? ⟨w.heap.size, 3, none⟩ = some (.string k) := cellK gd 3
    have d4 : wg.cell? ⟨w.heap.size, 4, none⟩ = some (.bool x) := cellK gd 4
    have d5 : wg.cell? ⟨w.heap.size, 5, none⟩ = some (.string m) := cellK gd 5
    have d6 : wg.cell? ⟨w.heap.size, 6, none⟩ = some (.bool y) := cellK gd 6
    have d7 : wg.cell? ⟨w.heap.size, 7, none⟩ = some (.slice a len cap) := cellK gd 7
    clear gd
    go_simp
    refine hK _ _ (Below.refl _ _) ?_
    with_reducible rfl
  refine Grow.step (VolAt n c z k x m y len zs) rfl (VolAt.mono n c z k x m y len zs) ?_ ?_
  · refine Obl.plain rfl ?_
    intro ac wg K hsz hW hf hK; clear hsz
    have e41 := hf 41 (by decide)
    simp [slotFact, List.lookup] at e41
    clear hf
    go_simp
    refine (toVolume_any n c z k x m y a len cap zs _ (HR.out.below (HB6.out.trans (hW.mono HB6.out.size))) hlen).mono ?_
    rintro e w5 ⟨rfl, hG, hb5⟩
    exact hK _ _ hb5 ⟨_, rfl, hG⟩
  refine' Grow.stepC (.bool true) rfl ?_ ?_
  · refine Obl.plain rfl ?_
    intro ac wg K hsz hW hf hK; clear hsz
    have e40 := hf 40 (by decide)
    simp [slotFact, List.lookup] at e40
    have e42 := hf 42 (by decide)
    simp [slotFact, List.lookup] at e42
    clear hf
    obtain ⟨g, e42, hG⟩ := e42
    go_simp
    refine (eqVolume_any n c z k x m y _ len len zs _ len len _ (TxRow.copy ((hW.block _ (lt_of_some HX4.out)).trans HX4.out) hzl hlen HZ.out) (TxRow.copy hG hzl hlen HZ.out)).mono ?_
    rintro e w5 ⟨rfl, hb5⟩
    exact hK _ _ hb5 rfl
  refine' Grow.stepC _ rfl ?_ ?_
  rotate_left 1
  · refine Obl.plain rfl ?_
    intro ac wg K hsz hW hf hK; clear hsz
    have e43 := hf 43 (by decide)
    simp [slotFact, List.lookup] at e43
    clear hf
    go_simp
    refine hK _ _ (Below.refl _ _) ?_
    with_reducible rfl
  refine Grow.done ?_
  intro q wx hW hf
  simp only [List.forall_mem_cons] at hf
  obtain ⟨h44, -⟩ := hf
  have HB7 := hidK (HB6.out.trans (hW.mono HB6.out.size))
  clear hW
  refine hK0 _ _ ?_
  simp only [putsAll, List.foldr, Act.put, List.setIfInBounds_toArray, List.set_cons_zero, List.set_cons_succ, h44]
  clear hK0
  go_wp2_with fail
  go_ret
  exact ⟨rfl, HB7.out⟩

end Go.Proofs.Ytjkgpkgbaapdmaa
