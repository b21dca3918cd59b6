/-
  Serves of the specification and of the program, whole.
-/
import Derived.Test.YtjkgpkgbaapdmaaServe2
namespace Go.Proofs.Ytjkgpkgbaapdmaa
open Go.RowKit

/-- A volume, a claim and a zone: right, and it serves it there. -/
def ServeOk (n : ByteArray) (c : Int) (z k : ByteArray) (x : Bool) (m : ByteArray) (y : Bool) (zs : List ByteArray) (n' : ByteArray) (c' : Int) (k' : ByteArray) (x' : Bool) (v' t : ByteArray) : Prop :=
  VolOk n c z k x m y zs ∧ ClaimOk n' c' k' v' ∧ ZoneOk t ∧ svB c z k x m y c' k' x' t = true
theorem zone_short {t : ByteArray} (h : ZoneOk t) : t.size ≤ 20 := by
  rcases h with h | h
  · subst h; decide
  · exact h.2.1

set_option maxHeartbeats 400000 in
theorem serving_any (n' : ByteArray) (c' : Int) (k' : ByteArray) (x' : Bool) (v' : ByteArray) (t : ByteArray) (w : World) :
    Calls Try.prog 47 #[.agg #[.string n', .int .i64 c', .string k', .bool x', .string v'], .string t] w fun e w' => e = .returned (.func (.func 79) #[] #[.pointer (some ⟨w.heap.size, 0, none⟩), .pointer (some ⟨w.heap.size + 1, 0, none⟩)]) ∧ SvHeld w' w.heap.size (w.heap.size + 1) n' c' k' x' v' t ∧ Below w.heap.size w w' := by
  go_enter Try.func47, Try.ntmps47
  go_wp2
  go_ret
  exact ⟨rfl, ⟨heap2_0 _ _ _, heap2_1 _ _ _⟩, below2 _ _ _⟩

set_option maxHeartbeats 1600000 in
theorem sserves_any (n : ByteArray) (c : Int) (z : ByteArray) (k : ByteArray) (x : Bool) (m : ByteArray) (y : Bool) (a : Option Addr) (len cap : Nat) (zs : List ByteArray) (n' : ByteArray) (c' : Int) (k' : ByteArray) (x' : Bool) (v' : ByteArray) (t : ByteArray) (w : World) (hn : n.size ≤ 9223372036854775807) (hz : z.size ≤ 9223372036854775807) (hk : k.size ≤ 9223372036854775807) (hm : m.size ≤ 9223372036854775807)
    (hn' : n'.size ≤ 9223372036854775807) (hk' : k'.size ≤ 9223372036854775807) (hv' : v'.size ≤ 9223372036854775807) (ht : t.size ≤ 9223372036854775807) (hr : TxRow w a len cap zs) :
    Calls Try.prog 17 #[.agg #[.string n, .int .i64 c, .string z, .string k, .bool x, .string m, .bool y, .slice a len cap], .agg #[.string n', .int .i64 c', .string k', .bool x', .string v'], .string t] w (BoolB (ServeOk n c z k x m y zs n' c' k' x' v' t) w) := by
  have HR := hidK hr
  clear hr
  by_cases hl : 8000 < t.size
  · have HN : ¬ ServeOk n c z k x m y zs n' c' k' x' v' t := fun h => by have := zone_short h.2.2.1; omega
    have HN' := hidK HN
    clear HN
    go_enter Try.func17, Try.ntmps17
    go_wp2_with fail
    go_ret
    exact ⟨false, rfl, ⟨fun h => (by cases h), fun h => (HN'.out h).elim⟩, below2 _ _ _⟩
  go_enter Try.func17, Try.ntmps17
  go_wp2_with fail
  refine (svol_any n c z k x m y a len cap zs _ hn hz hk hm (HR.out.below (below2 _ _ _))).mono ?_
  rintro e w1 ⟨r, rfl, hr, hb⟩
  have g0 := (hb.block w.heap.size (by simp; omega)).trans (heap2_0 _ _ _)
  have g1 := (hb.block (w.heap.size + 1) (by simp)).trans (heap2_1 _ _ _)
  have HB := hidK ((below2 w _ _).trans (hb.mono (by simp; omega)))
  have HG0 := hidK g0
  have HG1 := hidK g1
  have d0 : w1.cell? ⟨w.heap.size + 1, 0, none⟩ = some (.string n') := cellK g1 0
  have d1 : w1.cell? ⟨w.heap.size + 1, 1, none⟩ = some (.int .i64 c') := cellK g1 1
  have d2 : w1.cell? ⟨w.heap.size + 1, 2, none⟩ = some (.string k') := cellK g1 2
  have d3 : w1.cell? ⟨w.heap.size + 1, 3, none⟩ = some (.bool x') := cellK g1 3
  have d4 : w1.cell? ⟨w.heap.size + 1, 4, none⟩ = some (.string v') := cellK g1 4
  clear g0 g1 hb
  by_cases hq : r = true
  case neg =>
    have HN := hidK (fun h => hq (hr.2 h))
    have hrf : r = false := by simpa using hq
    clear hr
    go_wp2_with fail
    go_ret
    exact ⟨false, rfl, ⟨fun h => (by cases h), fun h => (HN.out h.1).elim⟩, HB.out⟩
  have h0 := hidK (hr.1 hq)
  subst hq
  clear hr
  go_wp2_with fail
  refine (sclaim_any n' c' k' x' v' _ hn' hk' hv').mono ?_
  rintro e w2 ⟨r, rfl, hr, hb⟩
  have HB2 := hidK (HB.out.trans (hb.mono HB.out.size))
  have g0 := (hb.block _ (lt_of_some HG0.out)).trans HG0.out
  have g1 := (hb.block _ (lt_of_some HG1.out)).trans HG1.out
  have e0 : w2.cell? ⟨w.heap.size, 0, none⟩ = some (.string n) := cellK g0 0
  have e1 : w2.cell? ⟨w.heap.size, 1, none⟩ = some (.int .i64 c) := cellK g0 1
  have e2 : w2.cell? ⟨w.heap.size, 2, none⟩ = some (.string z) := cellK g0 2
  have e3 : w2.cell? ⟨w.heap.size, 3, none⟩ = some (.string k) := cellK g0 3
  have e4 : w2.cell? ⟨w.heap.size, 4, none⟩ = some (.bool x) := cellK g0 4
  have e5 : w2.cell? ⟨w.heap.size, 5, none⟩ = some (.string m) := cellK g0 5
  have e6 : w2.cell? ⟨w.heap.size, 6, none⟩ = some (.bool y) := cellK g0 6
  have e7 : w2.cell? ⟨w.heap.size, 7, none⟩ = some (.slice a len cap) := cellK g0 7
  have d0 : w2.cell? ⟨w.heap.size + 1, 0, none⟩ = some (.string n') := cellK g1 0
  have d1 : w2.cell? ⟨w.heap.size + 1, 1, none⟩ = some (.int .i64 c') := cellK g1 1
  have d2 : w2.cell? ⟨w.heap.size + 1, 2, none⟩ = some (.string k') := cellK g1 2
  have d3 : w2.cell? ⟨w.heap.size + 1, 3, none⟩ = some (.bool x') := cellK g1 3
  have d4 : w2.cell? ⟨w.heap.size + 1, 4, none⟩ = some (.string v') := cellK g1 4
  clear g0 g1 hb HB HG0 HG1
  by_cases hq : r = true
  case neg =>
    have HN := hidK (fun h => hq (hr.2 h))
    have hrf : r = false := by simpa using hq
    clear hr
    go_wp2_with fail
    go_ret
    exact ⟨false, rfl, ⟨fun h => (by cases h), fun h => (HN.out h.2.1).elim⟩, HB2.out⟩
  have h1 := hidK (hr.1 hq)
  subst hq
  clear hr
  go_wp2_with fail
  refine (szone_any t _ ht).mono ?_
  rintro e w3 ⟨r, rfl, hr, rfl⟩
  by_cases hq : r = true
  case neg =>
    have HN := hidK (fun h => hq (hr.2 h))
    have hrf : r = false := by simpa using hq
    clear hr
    go_wp2_with fail
    go_ret
    exact ⟨false, rfl, ⟨fun h => (by cases h), fun h => (HN.out h.2.2.1).elim⟩, HB2.out⟩
  have h2 := hidK (hr.1 hq)
  subst hq
  clear hr
  go_wp2_with fail
  refine (ssv_any n c z k x m y a len cap n' c' k' x' v' t _).mono ?_
  rintro e w3 ⟨rfl, hb⟩
  have HB3 := hidK (HB2.out.trans (hb.mono HB2.out.size))
  obtain ⟨r, hr⟩ : ∃ r, r = svB c z k x m y c' k' x' t := ⟨_, rfl⟩
  rw [← hr]
  have HQ := hidK hr
  clear hr hb
  go_wp2_with fail
  go_ret
  exact ⟨r, rfl, ⟨fun h => ⟨h0.out, h1.out, h2.out, by rw [← HQ.out]; exact h⟩, fun h => by rw [HQ.out]; exact h.2.2.2⟩, HB3.out⟩

/-- The closure's value, in the world. -/
def SvFun (n' : ByteArray) (c' : Int) (k' : ByteArray) (x' : Bool) (v' : ByteArray) (t : ByteArray) (v : Value) (w : World) : Prop :=
  ∃ cb zb, v = .func (.func 79) #[] #[.pointer (some ⟨cb, 0, none⟩), .pointer (some ⟨zb, 0, none⟩)] ∧ SvHeld w cb zb n' c' k' x' v' t

set_option maxHeartbeats 3200000 in
theorem iserves_any (n : ByteArray) (c : Int) (z : ByteArray) (k : ByteArray) (x : Bool) (m : ByteArray) (y : Bool) (a : Option Addr) (len cap : Nat) (zs : List ByteArray) (n' : ByteArray) (c' : Int) (k' : ByteArray) (x' : Bool) (v' : ByteArray) (t : ByteArray) (w : World) (hn : n.size ≤ 9223372036854775807) (hz : z.size ≤ 9223372036854775807) (hk : k.size ≤ 9223372036854775807) (hm : m.size ≤ 9223372036854775807)
    (hn' : n'.size ≤ 9223372036854775807) (hk' : k'.size ≤ 9223372036854775807) (hv' : v'.size ≤ 9223372036854775807) (ht : t.size ≤ 9223372036854775807) (hr : TxRow w a len cap zs) :
    Calls Try.prog 16 #[.agg #[.string n, .int .i64 c, .string z, .string k, .bool x, .string m, .bool y, .slice a len cap], .agg #[.string n', .int .i64 c', .string k', .bool x', .string v'], .string t] w (BoolB (ServeOk n c z k x m y zs n' c' k' x' v' t) w) := by
  have HR := hidK hr
  clear hr
  go_enter Try.func16, Try.ntmps16
  go_wp2_with fail
  refine (ivol_any n c z k x m y a len cap zs _ hn hz hk hm (HR.out.below (below2 _ _ _))).mono ?_
  rintro e w1 ⟨r, rfl, hr, hb⟩
  have g0 := (hb.block w.heap.size (by simp; omega)).trans (heap2_0 _ _ _)
  have g1 := (hb.block (w.heap.size + 1) (by simp)).trans (heap2_1 _ _ _)
  have HB := hidK ((below2 w _ _).trans (hb.mono (by simp; omega)))
  have HG0 := hidK g0
  have HG1 := hidK g1
  have d0 : w1.cell? ⟨w.heap.size + 1, 0, none⟩ = some (.string n') := cellK g1 0
  have d1 : w1.cell? ⟨w.heap.size + 1, 1, none⟩ = some (.int .i64 c') := cellK g1 1
  have d2 : w1.cell? ⟨w.heap.size + 1, 2, none⟩ = some (.string k') := cellK g1 2
  have d3 : w1.cell? ⟨w.heap.size + 1, 3, none⟩ = some (.bool x') := cellK g1 3
  have d4 : w1.cell? ⟨w.heap.size + 1, 4, none⟩ = some (.string v') := cellK g1 4
  clear g0 g1 hb
  by_cases hq : r = true
  case neg =>
    have HN := hidK (fun h => hq (hr.2 h))
    have hrf : r = false := by simpa using hq
    clear hr
    go_wp2_with fail
    go_ret
    exact ⟨false, rfl, ⟨fun h => (by cases h), fun h => (HN.out h.1).elim⟩, HB.out⟩
  have h0 := hidK (hr.1 hq)
  subst hq
  clear hr
  go_wp2_with fail
  refine (iclaim_any n' c' k' x' v' _ hn' hk' hv').mono ?_
  rintro e w2 ⟨r, rfl, hr, hb⟩
  have HB2 := hidK (HB.out.trans (hb.mono HB.out.size))
  have g0 := (hb.block _ (lt_of_some HG0.out)).trans HG0.out
  have g1 := (hb.block _ (lt_of_some HG1.out)).trans HG1.out
  have HG0 := hidK g0
  have HG1 := hidK g1
  clear g0 g1 hb d0 d1 d2 d3 d4
  by_cases hq : r = true
  case neg =>
    have HN := hidK (fun h => hq (hr.2 h))
    have hrf : r = false := by simpa using hq
    clear hr
    go_wp2_with fail
    go_ret
    exact ⟨false, rfl, ⟨fun h => (by cases h), fun h => (HN.out h.2.1).elim⟩, HB2.out⟩
  have h1 := hidK (hr.1 hq)
  subst hq
  clear hr
  go_wp2_with fail
  refine (izone_any t _ ht).mono ?_
  rintro e w3 ⟨r, rfl, hr, rfl⟩
  by_cases hq : r = true
  case neg =>
    have HN := hidK (fun h => hq (hr.2 h))
    have hrf : r = false := by simpa using hq
    clear hr
    go_wp2_with fail
    go_ret
    exact ⟨false, rfl, ⟨fun h => (by cases h), fun h => (HN.out h.2.2.1).elim⟩, HB2.out⟩
  have h2 := hidK (hr.1 hq)
  subst hq
  clear hr
  go_wp2_with fail
  rename_i K0 hK0
  refine wp_region_grow (back := none) (by kernel_rfl) (List.append_nil _).symm (by kernel_rfl) ?_
  refine' Grow.stepC _ rfl ?_ ?_
  rotate_left 1
  · refine Obl.plain rfl ?_
    intro ac wg K hsz hW hf hK; clear hsz
    have e4 := hf 4 (by decide)
    simp [slotFact, List.lookup] at e4
    clear hf
    have g1 := (hW.block _ (lt_of_some HG1.out)).trans HG1.out
    have d0 : wg.cell? ⟨w.heap.size + 1, 0, none⟩ = some (.string n') := cellK g1 0
    have d1 : wg.cell? ⟨w.heap.size + 1, 1, none⟩ = some (.int .i64 c') := cellK g1 1
    have d2 : wg.cell? ⟨w.heap.size + 1, 2, none⟩ = some (.string k') := cellK g1 2
    have d3 : wg.cell? ⟨w.heap.size + 1, 3, none⟩ = some (.bool x') := cellK g1 3
    have d4 : wg.cell? ⟨w.heap.size + 1, 4, none⟩ = some (.string v') := cellK g1 4
    go_simp
    refine hK _ _ (Below.refl _ _) ?_
    with_reducible rfl
  refine' Grow.stepC _ rfl ?_ ?_
  rotate_left 1
  · refine Obl.plain rfl ?_
    intro ac wg K hsz hW hf hK; clear hsz
    have e2 := hf 2 (by decide)
    simp [slotFact, List.lookup] at e2
    clear hf
    go_simp
    refine hK _ _ (Below.refl _ _) ?_
    with_reducible rfl
  refine Grow.step (SvFun n' c' k' x' v' t) rfl (fun _ _ _ ⟨cb, zb, h, h'⟩ hb => ⟨cb, zb, h, h'.below hb⟩) ?_ ?_
  · refine Obl.plain rfl ?_
    intro ac wg K hsz hW hf hK; clear hsz
    have e20 := hf 20 (by decide)
    simp [slotFact, List.lookup] at e20
    have e21 := hf 21 (by decide)
    simp [slotFact, List.lookup] at e21
    clear hf
    go_simp
    refine (serving_any n' c' k' x' v' t _).mono ?_
    rintro e w5 ⟨rfl, hh, hb5⟩
    exact hK _ _ hb5 ⟨_, _, rfl, hh⟩
  refine' Grow.stepC _ rfl ?_ ?_
  rotate_left 1
  · refine Obl.plain rfl ?_
    intro ac wg K hsz hW hf hK; clear hsz
    have e3 := hf 3 (by decide)
    simp [slotFact, List.lookup] at e3
    clear hf
    have g0 := (hW.block _ (lt_of_some HG0.out)).trans HG0.out
    have d0 : wg.cell? ⟨w.heap.size, 0, none⟩ = some (.string n) := cellK g0 0
    have d1 : wg.cell? ⟨w.heap.size, 1, none⟩ = some (.int .i64 c) := cellK g0 1
    have d2 : wg.cell? ⟨w.heap.size, 2, none⟩ = some (.string z) := cellK g0 2
    have d3 : wg.cell? ⟨w.heap.size, 3, none⟩ = some (.string k) := cellK g0 3
    have d4 : wg.cell? ⟨w.heap.size, 4, none⟩ = some (.bool x) := cellK g0 4
    have d5 : wg.cell? ⟨w.heap.size, 5, none⟩ = some (.string m) := cellK g0 5
    have d6 : wg.cell? ⟨w.heap.size, 6, none⟩ = some (.bool y) := cellK g0 6
    have d7 : wg.cell? ⟨w.heap.size, 7, none⟩ = some (.slice a len cap) := cellK g0 7
    go_simp
    refine hK _ _ (Below.refl _ _) ?_
    with_reducible rfl
  refine' Grow.stepC (.bool (svB c z k x m y c' k' x' t)) rfl ?_ ?_
  · refine Obl.plain rfl ?_
    intro ac wg K hsz hW hf hK; clear hsz
    have e22 := hf 22 (by decide)
    simp [slotFact, List.lookup] at e22
    have e23 := hf 23 (by decide)
    simp [slotFact, List.lookup] at e23
    clear hf
    obtain ⟨cb, zb, e22, hh⟩ := e22
    go_simp
    refine (clo_any n c z k x m y _ len cap cb zb n' c' k' x' v' t _ hh).mono ?_
    rintro e w5 ⟨rfl, hb5⟩
    exact hK _ _ hb5 rfl
  refine' Grow.stepC _ rfl ?_ ?_
  rotate_left 1
  · refine Obl.plain rfl ?_
    intro ac wg K hsz hW hf hK; clear hsz
    have e24 := hf 24 (by decide)
    simp [slotFact, List.lookup] at e24
    clear hf
    go_simp
    refine hK _ _ (Below.refl _ _) ?_
    with_reducible rfl
  refine Grow.done ?_
  intro q wz hW hf
  simp only [List.forall_mem_cons] at hf
  obtain ⟨h6, -⟩ := hf
  have HB3 := hidK (HB2.out.trans (hW.mono HB2.out.size))
  obtain ⟨r, hr⟩ : ∃ r, r = svB c z k x m y c' k' x' t := ⟨_, rfl⟩
  rw [← hr] at h6
  have HQ := hidK hr
  clear hr hW
  refine hK0 _ _ ?_
  simp only [putsAll, List.foldr, Act.put, List.setIfInBounds_toArray, List.set_cons_zero, List.set_cons_succ, h6]
  clear hK0
  go_wp2_with fail
  go_ret
  exact ⟨r, rfl, ⟨fun h => ⟨h0.out, h1.out, h2.out, by rw [← HQ.out]; exact h⟩, fun h => by rw [HQ.out]; exact h.2.2.2⟩, HB3.out⟩

end Go.Proofs.Ytjkgpkgbaapdmaa
