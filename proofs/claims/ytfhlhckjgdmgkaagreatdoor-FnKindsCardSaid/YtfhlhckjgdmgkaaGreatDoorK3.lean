import Derived.Test.YtfhlhckjgdmgkaaGreatDoorK2
import Derived.Deep.Cut
import Derived.Laws.StructEq
import Derived.Deep.CutRange
/-
  The law FnKinds, walked: it returns true at whatever two slices of bytes.
-/
namespace Go.Proofs.YtfhlhckjgdmgkaaGreatDoor
open Go.RowKit

theorem ex_boolK (p : Prop) : ∃ r : Bool, (r = true ↔ p) := by
  by_cases h : p
  · exact ⟨true, by simp [h]⟩
  · exact ⟨false, by simp [h]⟩
theorem eqClm (n : ByteArray) (c : Int) (k : ByteArray) (x : Bool) (v : ByteArray) (d : Nat) (w : World) : (Op.equalIn (d + 2) 24 (.agg #[.string n, .int .i64 c, .string k, .bool x, .string v]) (.agg #[.string n, .int .i64 c, .string k, .bool x, .string v])).run Tryz.prog w = .ok true w := by
  have u3 := Tryz.underlying9
  have u4 := Tryz.underlying2
  have u5 := Tryz.underlying4
  have hS : Tryz.prog.underlying 24 = some (.struct (Tryz.prog.fieldsOf 24)) := by kernel_rfl
  have hp : Tryz.prog.stoodInHeld 24 = false := by kernel_rfl
  rw [run_equalIn_agg w (d + 1) 24 _ _ hS hp]
  simp only [Program.fieldsOf, Tryz.underlying24]
  go_simp

theorem eqClo (n : ByteArray) (c : Int) (k : ByteArray) (x : Bool) (v : ByteArray) (e : Int) (w : World) : (Op.equalIn 10000 34 (.agg #[.string n, .int .i64 c, .string k, .bool x, .string v, .int .i64 e]) (.agg #[.string n, .int .i64 c, .string k, .bool x, .string v, .int .i64 e])).run Tryz.prog w = .ok true w := by
  have u3 := Tryz.underlying9
  have u4 := Tryz.underlying2
  have u5 := Tryz.underlying4
  have hC := eqClm n c k x v 9997
  have hS : Tryz.prog.underlying 34 = some (.struct (Tryz.prog.fieldsOf 34)) := by kernel_rfl
  have hp : Tryz.prog.stoodInHeld 34 = false := by kernel_rfl
  rw [show (10000 : Nat) = 9999 + 1 from rfl, run_equalIn_agg w 9999 34 _ _ hS hp]
  simp only [Program.fieldsOf, Tryz.underlying34]
  go_simp

def PodSame (_s n : ByteArray) (c : Int) (z : ByteArray) (zs : List ByteArray) (d : ByteArray) (p k : Int) (v : Value) (w : World) : Prop := ∃ a l cp, v = .agg #[.string n, .int .i64 c, .string z, .slice a l cp, .string d, .int .i64 p, .int .i64 k] ∧ TxRow w a l cp zs
theorem PodSame.mono (s n : ByteArray) (c : Int) (z : ByteArray) (zs : List ByteArray) (d : ByteArray) (p k : Int) : Fact.Mono (PodSame s n c z zs d p k) := fun _ _ _ ⟨a, l, cp, h, h1⟩ hb => ⟨a, l, cp, h, h1.below hb⟩
def PodOne (n : ByteArray) (c : Int) (z : ByteArray) (zs : List ByteArray) (d : ByteArray) (p : Int) (v : Value) (w : World) : Prop := ∃ a l cp, v = .agg #[.string n, .int .i64 c, .string z, .slice a l cp, .string d, .int .i64 p] ∧ TxRow w a l cp zs
theorem PodOne.mono (n : ByteArray) (c : Int) (z : ByteArray) (zs : List ByteArray) (d : ByteArray) (p : Int) : Fact.Mono (PodOne n c z zs d p) := fun _ _ _ ⟨a, l, cp, h, h1⟩ hb => ⟨a, l, cp, h, h1.below hb⟩
theorem claim_zero {s n : ByteArray} {z : Int} {k : ByteArray} {x : Bool} {v : ByteArray} (h : claimR s = claimOutV n z k x v 0) : claimX n z k x v = s ∧ ClaimOk n z k v := by
  have h1 := claim_forth h
  refine ⟨h1, Classical.byContradiction fun hno => ?_⟩
  have h2 := claimX_no (x := x) (fun e => hno e.1)
  have h3 : s = ⟨#[]⟩ := by rw [← h1, ← h2]
  subst h3
  have hw : ¬ (wordsB ⟨#[]⟩).length = 5 := by
    have e : (wordsB ⟨#[]⟩).map (·.data.toList) = [[]] := wordsB_data ⟨#[]⟩
    have e2 := congrArg List.length e
    simp at e2
    omega
  rw [← claimR_not (by decide) hw] at h
  simp [claimBad, claimOutV] at h
theorem pod_zero {s n : ByteArray} {c : Int} {z : ByteArray} {zs : List ByteArray} {d : ByteArray} {p : Int} (h : PodIs s n c z zs d p 0) : podX n c z zs d p = s ∧ PodOk n c z zs d p := by
  have h1 := pod_forth h
  refine ⟨h1, Classical.byContradiction fun hno => ?_⟩
  have h2 : podX n c z zs d p = ⟨#[]⟩ := by unfold podX; rw [if_neg (fun e => hno e.1)]
  obtain ⟨rfl, rfl, h⟩ := h
  rcases h with ⟨_, _, _, _, _, h⟩ | ⟨_, _, _, _, _, _, h⟩ | ⟨_, _, _, a0, a1, a2, a3, hw, _⟩
  · cases h
  · cases h
  · exact words_ne hw (h1.symm.trans h2)
def Ei (b : Bool) (φ : Fact) : Fact := fun v w => (b = true ∧ v = undef) ∨ (b = false ∧ φ v w)
theorem Ei.mono {b : Bool} {φ : Fact} (h : Fact.Mono φ) : Fact.Mono (Ei b φ) := by
  rintro v w w' (⟨h1, h2⟩ | ⟨h1, h2⟩) hb
  · exact .inl ⟨h1, h2⟩
  · exact .inr ⟨h1, h _ _ _ h2 hb⟩
theorem PodE {s n : ByteArray} {c : Int} {z : ByteArray} {zs : List ByteArray} {d : ByteArray} {p k : Int} {v : Value} {w : World} (h : Ei false (PodSame s n c z zs d p k) v w) : PodSame s n c z zs d p k v w := h.elim (fun h => (by cases h.1)) (fun h => h.2)
theorem PodF {n : ByteArray} {c : Int} {z : ByteArray} {zs : List ByteArray} {d : ByteArray} {p : Int} {v : Value} {w : World} (h : Ei false (PodOne n c z zs d p) v w) : PodOne n c z zs d p v w := h.elim (fun h => (by cases h.1)) (fun h => h.2)
theorem zone9 {z : ByteArray} (h : ZoneOk z) : z.size ≤ 9223372036854775807 := by
  rcases h with h | h
  · rw [h]; decide
  · have := h.2.1; omega
theorem tlE (t : ByteArray) : t.toList = [] ↔ t = ⟨#[]⟩ := by
  constructor
  · intro h
    refine Classical.byContradiction fun hn => ?_
    have h1 := isE_no hn
    rw [h] at h1
    cases h1
  · rintro rfl
    exact List.isEmpty_iff.1 isE_yes
theorem Obl.passE {P : Program} {ops : Array Oper} {Q : Exit → Act → World → Prop} {W : World} {a0 : Act} {known : List (Tmp × Fact)} {o : Oper} {i : Nat} {b : Bool} {t : Tmp} {φ : Fact} (hg : o.guard = some (i, b)) (hd : (ops[i]?).bind (·.dst) = some t)
    (ht : ∀ (a : Act) (w : World), slotFact a0 known a w t → a.tmps.getD t undef ≠ .bool b) : Obl P ops Q W a0 known o (Ei true φ) := by
  intro a w K h1 h2 h3 h4
  exact Obl.pass hg hd ht a w K h1 h2 h3 (fun v w' hb hv => h4 v w' hb (.inl ⟨rfl, hv⟩))
theorem claimR_out (s : ByteArray) : ∃ n c k x v e, claimR s = claimOutV n c k x v e := by
  unfold claimR
  split
  · exact ⟨_, _, _, _, _, _, rfl⟩
  · split
    · unfold claimFive
      split
      · exact ⟨_, _, _, _, _, _, rfl⟩
      · exact ⟨_, _, _, _, _, _, rfl⟩
    · exact ⟨_, _, _, _, _, _, rfl⟩

set_option linter.unusedVariables false in
set_option maxRecDepth 10000 in
set_option maxHeartbeats 12800000 in
theorem fnKinds_go (c m : Value) (q0 q1 : Nat) (w : World) (hc : ∃ a cap, c = .slice a q0 cap) (hm : ∃ a cap, m = .slice a q1 cap) (R0 : RowIn w.heap.size w c q0) (R1 : RowIn w.heap.size w m q1) (h0 : q0 ≤ 1048576) (h1 : q1 ≤ 1048576) (ht : ptab w) (hmx : mxl w) :
    Calls Tryz.prog 3 #[c, m] w fun e w' => e = .returned (.bool true) ∧ Below w.heap.size w w' := by
  obtain ⟨ac, cc, rfl⟩ := hc
  obtain ⟨am, cm, rfl⟩ := hm
  have HR0 : Hid (RowIn w.heap.size w (.slice ac q0 cc) q0) := R0
  have HR1 : Hid (RowIn w.heap.size w (.slice am q1 cm) q1) := R1
  have HPT := hidK ht
  have HMX := hidK hmx
  clear R0 R1 ht hmx
  go_enter Tryz.func3, Tryz.ntmps3
  go_wp2_with fail
  refine (Dk.drawClaimText_any _ q0 _ HR0.out).mono ?_
  rintro e w1 ⟨n1, c1, k1, x1, o1, rfl, sn1, sk1, so1, hb⟩
  have HB1 := hidK hb
  have HRa := hidK (Dk.RowIn.up (HR0.out.below hb) hb.size)
  clear hb
  go_wp2_with fail
  refine (Dk.drawPodText_any _ q0 _ HRa.out).mono ?_
  rintro e w2 ⟨n2, c2, z2, a2, l2, p2, zs2, d2, f2, rfl, sn2, sz2, sd2, htx, hni, hl4, hb⟩
  have HB2 := hidK ((HB1.out.trans (hb.mono HB1.out.size)).trans ((below2 w2 (.cells #[.string n1, .int .i64 c1, .string k1, .bool x1, .string o1] 24) (.cells #[.string n2, .int .i64 c2, .string z2, .slice a2 l2 p2, .string d2, .int .i64 f2] 28)).mono (HB1.out.trans (hb.mono HB1.out.size)).size))
  have HT2 := hidK (htx.below (below2 w2 (.cells #[.string n1, .int .i64 c1, .string k1, .bool x1, .string o1] 24) (.cells #[.string n2, .int .i64 c2, .string z2, .slice a2 l2 p2, .string d2, .int .i64 f2] 28)))
  have GC2 := hidK (heap2_0 w2 (.cells #[.string n1, .int .i64 c1, .string k1, .bool x1, .string o1] 24) (.cells #[.string n2, .int .i64 c2, .string z2, .slice a2 l2 p2, .string d2, .int .i64 f2] 28))
  have GP2 := hidK (heap2_1 w2 (.cells #[.string n1, .int .i64 c1, .string k1, .bool x1, .string o1] 24) (.cells #[.string n2, .int .i64 c2, .string z2, .slice a2 l2 p2, .string d2, .int .i64 f2] 28))
  have HNI := hidK hni
  clear hb htx HB1 HRa hni HR0
  go_wp2_with fail
  generalize ((w2.alloc (.cells #[.string n1, .int .i64 c1, .string k1, .bool x1, .string o1] 24)).alloc (.cells #[.string n2, .int .i64 c2, .string z2, .slice a2 l2 p2, .string d2, .int .i64 f2] 28)) = W2 at *
  generalize w2.heap.size = b2 at *
  obtain ⟨t, ht⟩ : ∃ t, t = claimX n1 c1 k1 x1 o1 := ⟨_, rfl⟩
  obtain ⟨u, hu⟩ : ∃ u, u = podX n2 c2 z2 zs2 d2 f2 := ⟨_, rfl⟩
  have HTT := hidK ht
  have HUU := hidK hu
  clear ht hu
  rename_i K0 hK0
  refine wp_region_grow (back := none) (by kernel_rfl) (List.append_nil _).symm (by kernel_rfl) ?_
  refine Grow.stepC (.agg #[.string n1, .int .i64 c1, .string k1, .bool x1, .string o1]) rfl ?_ ?_
  · refine Obl.plain rfl ?_
    intro ac wg K hsz hW hf hK; clear hsz
    have e5 := hf 5 (by decide)
    simp [slotFact, List.lookup] at e5
    clear hf
    have gd := (hW.block _ (lt_of_some GC2.out)).trans GC2.out
    have cl0 : wg.cell? ⟨b2, 0, none⟩ = some (.string n1) := cellK gd 0
    have cl1 : wg.cell? ⟨b2, 1, none⟩ = some (.int .i64 c1) := cellK gd 1
    have cl2 : wg.cell? ⟨b2, 2, none⟩ = some (.string k1) := cellK gd 2
    have cl3 : wg.cell? ⟨b2, 3, none⟩ = some (.bool x1) := cellK gd 3
    have cl4 : wg.cell? ⟨b2, 4, none⟩ = some (.string o1) := cellK gd 4
    clear gd
    go_simp
    refine hK _ _ (Below.refl _ _) ?_
    first | with_reducible rfl | (simp; done) | (simp; omega) | rfl
  refine Grow.stepC (.string t) rfl ?_ ?_
  · refine Obl.plain rfl ?_
    intro ac wg K hsz hW hf hK; clear hsz
    have e28 := hf 28 (by decide)
    simp [slotFact, List.lookup] at e28
    clear hf
    go_simp
    refine (iclaimText_any n1 c1 k1 x1 o1 _ (by omega) (by omega) (by omega) ((HPT.out.below HB2.out).below hW)).mono ?_
    rintro e wh ⟨rfl, hb⟩
    exact hK _ _ hb (by rw [HTT.out])
  refine Grow.stepC (.agg #[.string n2, .int .i64 c2, .string z2, .slice a2 l2 p2, .string d2, .int .i64 f2]) rfl ?_ ?_
  · refine Obl.plain rfl ?_
    intro ac wg K hsz hW hf hK; clear hsz
    have e6 := hf 6 (by decide)
    simp [slotFact, List.lookup] at e6
    clear hf
    have gd := (hW.block _ (lt_of_some GP2.out)).trans GP2.out
    have cl0 : wg.cell? ⟨(b2 + 1), 0, none⟩ = some (.string n2) := cellK gd 0
    have cl1 : wg.cell? ⟨(b2 + 1), 1, none⟩ = some (.int .i64 c2) := cellK gd 1
    have cl2 : wg.cell? ⟨(b2 + 1), 2, none⟩ = some (.string z2) := cellK gd 2
    have cl3 : wg.cell? ⟨(b2 + 1), 3, none⟩ = some (.slice a2 l2 p2) := cellK gd 3
    have cl4 : wg.cell? ⟨(b2 + 1), 4, none⟩ = some (.string d2) := cellK gd 4
    have cl5 : wg.cell? ⟨(b2 + 1), 5, none⟩ = some (.int .i64 f2) := cellK gd 5
    clear gd
    go_simp
    refine hK _ _ (Below.refl _ _) ?_
    first | with_reducible rfl | (simp; done) | (simp; omega) | rfl
  refine Grow.stepC (.string u) rfl ?_ ?_
  · refine Obl.plain rfl ?_
    intro ac wg K hsz hW hf hK; clear hsz
    have e30 := hf 30 (by decide)
    simp [slotFact, List.lookup] at e30
    clear hf
    go_simp
    refine (ipodText_any n2 c2 z2 a2 l2 p2 zs2 d2 f2 _ (by omega) (by omega) (by omega) (HT2.out.below hW) HNI.out ((HPT.out.below HB2.out).below hW)).mono ?_
    rintro e wh ⟨rfl, hb⟩
    exact hK _ _ hb (by rw [HUU.out])
  refine Grow.stepC (.string t) rfl ?_ ?_
  · refine Obl.plain rfl ?_
    intro ac wg K hsz hW hf hK; clear hsz
    have e29 := hf 29 (by decide)
    simp [slotFact, List.lookup] at e29
    clear hf
    go_simp
    refine hK _ _ (Below.refl _ _) ?_
    first | with_reducible rfl | (simp; done) | (simp; omega) | rfl
  refine Grow.stepC (.string u) rfl ?_ ?_
  · refine Obl.plain rfl ?_
    intro ac wg K hsz hW hf hK; clear hsz
    have e31 := hf 31 (by decide)
    simp [slotFact, List.lookup] at e31
    clear hf
    go_simp
    refine hK _ _ (Below.refl _ _) ?_
    first | with_reducible rfl | (simp; done) | (simp; omega) | rfl
  refine Grow.done ?_
  intro q w3 hW hf
  simp only [List.forall_mem_cons] at hf
  obtain ⟨g8, g7, g31, g30, g29, g28, -⟩ := hf
  refine hK0 _ _ ?_
  simp only [putsAll, List.foldr, Act.put, List.setIfInBounds_toArray, List.set_cons_zero, List.set_cons_succ, g8, g7, g31, g30, g29, g28]
  have HB3 := upB HB2 hW
  have HT3 := hidK (HT2.out.below hW)
  have GC3 := upK GC2 hW
  have GP3 := upK GP2 hW
  have HRb := hidK (Dk.RowIn.up (HR1.out.below HB3.out) HB3.out.size)
  clear hW g8 g7 g31 g30 g29 g28 hK0 HB2 HT2 GC2 GP2
  go_wp2_with fail
  refine (Dk.drawClaimRead_any _ q1 _ HRb.out).mono ?_
  rintro e w4 ⟨v, rfl, sv, hb⟩
  have HB4 := upB HB3 hb
  have HT4 := hidK (HT3.out.below hb)
  have GC4 := upK GC3 hb
  have GP4 := upK GP3 hb
  have HRc := hidK (Dk.RowIn.up (HR1.out.below HB4.out) HB4.out.size)
  clear hb HB3 HT3 GC3 GP3 HRb
  go_wp2_with fail
  refine (Dk.drawPodRead_any _ q1 _ HRc.out).mono ?_
  rintro e w5 ⟨ww, rfl, sww, hb⟩
  have HB5 := upB HB4 hb
  have HT5 := hidK (HT4.out.below hb)
  have GC5 := upK GC4 hb
  have GP5 := upK GP4 hb
  clear hb HB4 HT4 GC4 GP4 HRc
  obtain ⟨n5, c5, k5, x5, o5, e5, hcr⟩ := claimR_out v
  have HCR := hidK hcr
  clear hcr
  go_wp2_with fail
  refine (iclaimRead_any v _ (by omega) (HPT.out.below HB5.out) (HMX.out.below HB5.out)).mono ?_
  rintro e w6 ⟨he, hb⟩
  rw [HCR.out] at he
  unfold claimOutV at he
  subst he
  have HB6 := upB HB5 hb
  have HT6 := hidK (HT5.out.below hb)
  have GC6 := upK GC5 hb
  have GP6 := upK GP5 hb
  clear hb HB5 HT5 GC5 GP5
  go_wp2_with fail
  refine (ipodReadN_any ww _ (by omega) (HPT.out.below HB6.out) (HMX.out.below HB6.out)).mono ?_
  rintro e w7 ⟨⟨n6, c6, z6, a6, l6, p6, zs6, d6, f6, e6, rfl, hpi, htx, -, hb⟩, hnk⟩
  have HNK := hidK (hnk _ _ _ _ _ _ _ _ _ rfl)
  clear hnk
  have HPI := hidK hpi
  have hb7 := hb.trans ((below2 w7 (.cells #[.string n5, .int .i64 c5, .string k5, .bool x5, .string o5, .int .i64 e5] 34) (.cells #[.string n6, .int .i64 c6, .string z6, .slice a6 l6 p6, .string d6, .int .i64 f6, .int .i64 e6] 37)).mono hb.size)
  have HB7 := upB HB6 hb7
  have HT7 := hidK (HT6.out.below hb7)
  have HU7 := hidK (htx.below (below2 w7 (.cells #[.string n5, .int .i64 c5, .string k5, .bool x5, .string o5, .int .i64 e5] 34) (.cells #[.string n6, .int .i64 c6, .string z6, .slice a6 l6 p6, .string d6, .int .i64 f6, .int .i64 e6] 37)))
  have GC7 := upK GC6 hb7
  have GP7 := upK GP6 hb7
  have GX7 := hidK (heap2_0 w7 (.cells #[.string n5, .int .i64 c5, .string k5, .bool x5, .string o5, .int .i64 e5] 34) (.cells #[.string n6, .int .i64 c6, .string z6, .slice a6 l6 p6, .string d6, .int .i64 f6, .int .i64 e6] 37))
  have GY7 := hidK (heap2_1 w7 (.cells #[.string n5, .int .i64 c5, .string k5, .bool x5, .string o5, .int .i64 e5] 34) (.cells #[.string n6, .int .i64 c6, .string z6, .slice a6 l6 p6, .string d6, .int .i64 f6, .int .i64 e6] 37))
  have HRd := hidK (Dk.RowIn.up (HR1.out.below HB7.out) HB7.out.size)
  clear hb hb7 hpi htx HB6 HT6 GC6 GP6
  go_wp2_with fail
  refine (Dk.drawNodeRight_any _ q1 _ HRd.out).mono ?_
  rintro e w8 ⟨n7, z7, c7, s7, u7, d7, a7, l7, p7, zs7, rfl, sn7, sz7, htx, hb⟩
  have HB8 := upB HB7 hb
  have HT8 := hidK (HT7.out.below hb)
  have HU8 := hidK (HU7.out.below hb)
  have HN8 := hidK htx
  have GC8 := upK GC7 hb
  have GP8 := upK GP7 hb
  have GX8 := upK GX7 hb
  have GY8 := upK GY7 hb
  have HRe := hidK (Dk.RowIn.up (HR1.out.below HB8.out) HB8.out.size)
  clear hb htx HB7 HT7 HU7 GC7 GP7 GX7 GY7 HRd
  go_wp2_with fail
  refine (Dk.drawClassRight_any _ q1 _ HRe.out).mono ?_
  rintro e w9 ⟨n8, x8, y8, z8, rfl, sn8, sz8, hb⟩
  have HB9 := upB HB8 hb
  have HT9 := hidK (HT8.out.below hb)
  have HU9 := hidK (HU8.out.below hb)
  have HN9 := hidK (HN8.out.below hb)
  have GC9 := upK GC8 hb
  have GP9 := upK GP8 hb
  have GX9 := upK GX8 hb
  have GY9 := upK GY8 hb
  have HRf := hidK (Dk.RowIn.up (HR1.out.below HB9.out) HB9.out.size)
  clear hb HB8 HT8 HU8 HN8 GC8 GP8 GX8 GY8 HRe
  go_wp2_with fail
  refine (Dk.drawVolumeRight_any _ q1 _ HRf.out).mono ?_
  rintro e w10 ⟨n9, c9, z9, k9, x9, m9, y9, a9, l9, p9, zs9, rfl, sn9, sz9, sk9, sm9, htx, hb⟩
  have hb3 := below3 w10 (.cells #[.string n7, .string z7, .int .i64 c7, .int .i64 s7, .int .i64 u7, .bool d7, .slice a7 l7 p7] 40) (.cells #[.string n8, .bool x8, .bool y8, .string z8] 43) (.cells #[.string n9, .int .i64 c9, .string z9, .string k9, .bool x9, .string m9, .bool y9, .slice a9 l9 p9] 46)
  have hba := hb.trans (hb3.mono hb.size)
  have HBA := upB HB9 hba
  have HTA := hidK (HT9.out.below hba)
  have HUA := hidK (HU9.out.below hba)
  have HNA := hidK (HN9.out.below hba)
  have HVA := hidK (htx.below hb3)
  have GCA := upK GC9 hba
  have GPA := upK GP9 hba
  have GXA := upK GX9 hba
  have GYA := upK GY9 hba
  have GNA := hidK (heap3_0 w10 (.cells #[.string n7, .string z7, .int .i64 c7, .int .i64 s7, .int .i64 u7, .bool d7, .slice a7 l7 p7] 40) (.cells #[.string n8, .bool x8, .bool y8, .string z8] 43) (.cells #[.string n9, .int .i64 c9, .string z9, .string k9, .bool x9, .string m9, .bool y9, .slice a9 l9 p9] 46))
  have GKA := hidK (heap3_1 w10 (.cells #[.string n7, .string z7, .int .i64 c7, .int .i64 s7, .int .i64 u7, .bool d7, .slice a7 l7 p7] 40) (.cells #[.string n8, .bool x8, .bool y8, .string z8] 43) (.cells #[.string n9, .int .i64 c9, .string z9, .string k9, .bool x9, .string m9, .bool y9, .slice a9 l9 p9] 46))
  have GVA := hidK (heap3_2 w10 (.cells #[.string n7, .string z7, .int .i64 c7, .int .i64 s7, .int .i64 u7, .bool d7, .slice a7 l7 p7] 40) (.cells #[.string n8, .bool x8, .bool y8, .string z8] 43) (.cells #[.string n9, .int .i64 c9, .string z9, .string k9, .bool x9, .string m9, .bool y9, .slice a9 l9 p9] 46))
  clear hb hb3 hba htx HB9 HT9 HU9 HN9 GC9 GP9 GX9 GY9 HRf HR1
  go_wp2_with fail
  have HPW := hidK (HPT.out.below HBA.out)
  have HMW := hidK (HMX.out.below HBA.out)
  clear HPT HMX
  generalize (((w10.alloc (.cells #[.string n7, .string z7, .int .i64 c7, .int .i64 s7, .int .i64 u7, .bool d7, .slice a7 l7 p7] 40)).alloc (.cells #[.string n8, .bool x8, .bool y8, .string z8] 43)).alloc (.cells #[.string n9, .int .i64 c9, .string z9, .string k9, .bool x9, .string m9, .bool y9, .slice a9 l9 p9] 46)) = W at *
  generalize w10.heap.size = b10 at *
  generalize w7.heap.size = b7 at *
  clear w3 w4 w5 w6 w7 w8 w9 w10
  obtain ⟨rn, hrn⟩ := ex_boolK (NodeOk n7 z7 c7 s7 u7 zs7)
  obtain ⟨rk, hrk⟩ := ex_boolK (ClassOk n8 z8)
  obtain ⟨rv, hrv⟩ := ex_boolK (VolOk n9 c9 z9 k9 x9 m9 y9 zs9)
  obtain ⟨rc, hrc⟩ := ex_boolK (ClaimOk n1 c1 k1 o1)
  obtain ⟨rp, hrp⟩ := ex_boolK (PodOk n2 c2 z2 zs2 d2 f2)
  have HRN := hidK hrn
  have HRK := hidK hrk
  have HRV := hidK hrv
  have HRC := hidK hrc
  have HRP := hidK hrp
  clear hrn hrk hrv hrc hrp
  go_cut [113] from 46 to 113 (fun r wx => r = .bool false ∧ Below W.heap.size W wx)
  case first =>
    rename_i J0 K0 hJ0 hK0
    refine wp_region_grow (back := none) (by kernel_rfl) (List.append_nil _).symm (by kernel_rfl) ?_
    refine Grow.stepC (.string t) rfl ?_ ?_
    · refine Obl.plain rfl ?_
      intro ac wg K hsz hW hf hK; clear hsz
      have e7 := hf 7 (by decide)
      simp [slotFact, List.lookup] at e7
      clear hf
      go_simp
      refine hK _ _ (Below.refl _ _) ?_
      first | with_reducible rfl | (simp; done) | (simp; omega) | rfl
    refine Grow.stepC (.agg #[.string n1, .int .i64 c1, .string k1, .bool x1, .string o1]) rfl ?_ ?_
    · refine Obl.plain rfl ?_
      intro ac wg K hsz hW hf hK; clear hsz
      have e5 := hf 5 (by decide)
      simp [slotFact, List.lookup] at e5
      clear hf
      have gd := (hW.block _ (lt_of_some GCA.out)).trans GCA.out
      have cl0 : wg.cell? ⟨b2, 0, none⟩ = some (.string n1) := cellK gd 0
      have cl1 : wg.cell? ⟨b2, 1, none⟩ = some (.int .i64 c1) := cellK gd 1
      have cl2 : wg.cell? ⟨b2, 2, none⟩ = some (.string k1) := cellK gd 2
      have cl3 : wg.cell? ⟨b2, 3, none⟩ = some (.bool x1) := cellK gd 3
      have cl4 : wg.cell? ⟨b2, 4, none⟩ = some (.string o1) := cellK gd 4
      clear gd
      go_simp
      refine hK _ _ (Below.refl _ _) ?_
      first | with_reducible rfl | (simp; done) | (simp; omega) | rfl
    refine Grow.stepC (.string t) rfl ?_ ?_
    · refine Obl.plain rfl ?_
      intro ac wg K hsz hW hf hK; clear hsz
      have e47 := hf 47 (by decide)
      simp [slotFact, List.lookup] at e47
      clear hf
      go_simp
      refine (sclaimText_any n1 c1 k1 x1 o1 _ (by omega) (by omega) (by omega)).mono ?_
      rintro e wh ⟨rfl, hb⟩
      exact hK _ _ hb (by rw [HTT.out])
    refine Grow.stepC (.bool false) rfl ?_ ?_
    · refine Obl.plain rfl ?_
      intro ac wg K hsz hW hf hK; clear hsz
      have e46 := hf 46 (by decide)
      simp [slotFact, List.lookup] at e46
      have e48 := hf 48 (by decide)
      simp [slotFact, List.lookup] at e48
      clear hf
      go_simp
      refine hK _ _ (Below.refl _ _) ?_
      first | with_reducible rfl | (simp; done) | (simp; omega) | rfl
    refine Grow.stepC (.bool false) rfl ?_ ?_
    · refine Obl.plain rfl ?_
      intro ac wg K hsz hW hf hK; clear hsz
      have e49 := hf 49 (by decide)
      simp [slotFact, List.lookup] at e49
      clear hf
      go_simp
      refine hK _ _ (Below.refl _ _) ?_
      first | with_reducible rfl | (simp; done) | (simp; omega) | rfl
    refine Grow.stepC (.string u) rfl ?_ ?_
    · refine Obl.want rfl rfl (by intro a w e; simpa [slotFact, List.lookup] using e) ?_
      intro ac wg K hsz hW hf hK; clear hsz
      have e8 := hf 8 (by decide)
      simp [slotFact, List.lookup] at e8
      clear hf
      go_simp
      refine hK _ _ (Below.refl _ _) ?_
      first | with_reducible rfl | (simp; done) | (simp; omega) | rfl
    refine Grow.stepC (.agg #[.string n2, .int .i64 c2, .string z2, .slice a2 l2 p2, .string d2, .int .i64 f2]) rfl ?_ ?_
    · refine Obl.want rfl rfl (by intro a w e; simpa [slotFact, List.lookup] using e) ?_
      intro ac wg K hsz hW hf hK; clear hsz
      have e6 := hf 6 (by decide)
      simp [slotFact, List.lookup] at e6
      clear hf
      have gd := (hW.block _ (lt_of_some GPA.out)).trans GPA.out
      have cl0 : wg.cell? ⟨(b2 + 1), 0, none⟩ = some (.string n2) := cellK gd 0
      have cl1 : wg.cell? ⟨(b2 + 1), 1, none⟩ = some (.int .i64 c2) := cellK gd 1
      have cl2 : wg.cell? ⟨(b2 + 1), 2, none⟩ = some (.string z2) := cellK gd 2
      have cl3 : wg.cell? ⟨(b2 + 1), 3, none⟩ = some (.slice a2 l2 p2) := cellK gd 3
      have cl4 : wg.cell? ⟨(b2 + 1), 4, none⟩ = some (.string d2) := cellK gd 4
      have cl5 : wg.cell? ⟨(b2 + 1), 5, none⟩ = some (.int .i64 f2) := cellK gd 5
      clear gd
      go_simp
      refine hK _ _ (Below.refl _ _) ?_
      first | with_reducible rfl | (simp; done) | (simp; omega) | rfl
    refine Grow.stepC (.string u) rfl ?_ ?_
    · refine Obl.want rfl rfl (by intro a w e; simpa [slotFact, List.lookup] using e) ?_
      intro ac wg K hsz hW hf hK; clear hsz
      have e52 := hf 52 (by decide)
      simp [slotFact, List.lookup] at e52
      clear hf
      go_simp
      refine (spodText_any n2 c2 z2 a2 l2 p2 zs2 d2 f2 _ (by omega) (by omega) (by omega) (HTA.out.below hW)).mono ?_
      rintro e wh ⟨rfl, hb⟩
      exact hK _ _ hb (by rw [HUU.out])
    refine Grow.stepC (.bool false) rfl ?_ ?_
    · refine Obl.want rfl rfl (by intro a w e; simpa [slotFact, List.lookup] using e) ?_
      intro ac wg K hsz hW hf hK; clear hsz
      have e51 := hf 51 (by decide)
      simp [slotFact, List.lookup] at e51
      have e53 := hf 53 (by decide)
      simp [slotFact, List.lookup] at e53
      clear hf
      go_simp
      refine hK _ _ (Below.refl _ _) ?_
      first | with_reducible rfl | (simp; done) | (simp; omega) | rfl
    refine Grow.stepC (.bool false) rfl ?_ ?_
    · refine Obl.plain rfl ?_
      intro ac wg K hsz hW hf hK; clear hsz
      have e50 := hf 50 (by decide)
      simp [slotFact, List.lookup] at e50
      have e54 := hf 54 (by decide)
      simp [slotFact, List.lookup] at e54
      clear hf
      go_simp
      refine hK _ _ (Below.refl _ _) ?_
      first | with_reducible rfl | (simp; done) | (simp; omega) | rfl
    refine Grow.stepC (.bool false) rfl ?_ ?_
    · refine Obl.plain rfl ?_
      intro ac wg K hsz hW hf hK; clear hsz
      have e55 := hf 55 (by decide)
      simp [slotFact, List.lookup] at e55
      clear hf
      go_simp
      refine hK _ _ (Below.refl _ _) ?_
      first | with_reducible rfl | (simp; done) | (simp; omega) | rfl
    refine Grow.stepC (.agg #[.string n5, .int .i64 c5, .string k5, .bool x5, .string o5, .int .i64 e5]) rfl ?_ ?_
    · refine Obl.want rfl rfl (by intro a w e; simpa [slotFact, List.lookup] using e) ?_
      intro ac wg K hsz hW hf hK; clear hsz
      have e11 := hf 11 (by decide)
      simp [slotFact, List.lookup] at e11
      clear hf
      have gd := (hW.block _ (lt_of_some GXA.out)).trans GXA.out
      have cl0 : wg.cell? ⟨b7, 0, none⟩ = some (.string n5) := cellK gd 0
      have cl1 : wg.cell? ⟨b7, 1, none⟩ = some (.int .i64 c5) := cellK gd 1
      have cl2 : wg.cell? ⟨b7, 2, none⟩ = some (.string k5) := cellK gd 2
      have cl3 : wg.cell? ⟨b7, 3, none⟩ = some (.bool x5) := cellK gd 3
      have cl4 : wg.cell? ⟨b7, 4, none⟩ = some (.string o5) := cellK gd 4
      have cl5 : wg.cell? ⟨b7, 5, none⟩ = some (.int .i64 e5) := cellK gd 5
      clear gd
      go_simp
      refine hK _ _ (Below.refl _ _) ?_
      first | with_reducible rfl | (simp; done) | (simp; omega) | rfl
    refine Grow.stepC (.string v) rfl ?_ ?_
    · refine Obl.want rfl rfl (by intro a w e; simpa [slotFact, List.lookup] using e) ?_
      intro ac wg K hsz hW hf hK; clear hsz
      have e9 := hf 9 (by decide)
      simp [slotFact, List.lookup] at e9
      clear hf
      go_simp
      refine hK _ _ (Below.refl _ _) ?_
      first | with_reducible rfl | (simp; done) | (simp; omega) | rfl
    refine Grow.stepC (.agg #[.string n5, .int .i64 c5, .string k5, .bool x5, .string o5, .int .i64 e5]) rfl ?_ ?_
    · refine Obl.want rfl rfl (by intro a w e; simpa [slotFact, List.lookup] using e) ?_
      intro ac wg K hsz hW hf hK; clear hsz
      have e58 := hf 58 (by decide)
      simp [slotFact, List.lookup] at e58
      clear hf
      go_simp
      refine (sclaimRead_any v _ (by omega)).mono ?_
      rintro e wh ⟨he, hb⟩
      rw [HCR.out] at he
      unfold claimOutV at he
      subst he
      exact hK _ _ hb rfl
    refine Grow.stepC (.bool false) rfl ?_ ?_
    · refine Obl.want rfl rfl (by intro a w e; simpa [slotFact, List.lookup] using e) ?_
      intro ac wg K hsz hW hf hK; clear hsz
      have e57 := hf 57 (by decide)
      simp [slotFact, List.lookup] at e57
      have e59 := hf 59 (by decide)
      simp [slotFact, List.lookup] at e59
      clear hf
      have hq34 := fun W => eqClo n5 c5 k5 x5 o5 e5 W
      have hg34 : Tryz.prog.eqGuardType Tryz.prog.depth 34 = false := by kernel_rfl
      go_simp
      refine hK _ _ (Below.refl _ _) ?_
      first | with_reducible rfl | (simp; done) | (simp; omega) | rfl
    refine Grow.stepC (.bool false) rfl ?_ ?_
    · refine Obl.plain rfl ?_
      intro ac wg K hsz hW hf hK; clear hsz
      have e56 := hf 56 (by decide)
      simp [slotFact, List.lookup] at e56
      have e60 := hf 60 (by decide)
      simp [slotFact, List.lookup] at e60
      clear hf
      go_simp
      refine hK _ _ (Below.refl _ _) ?_
      first | with_reducible rfl | (simp; done) | (simp; omega) | rfl
    refine Grow.stepC (.bool false) rfl ?_ ?_
    · refine Obl.plain rfl ?_
      intro ac wg K hsz hW hf hK; clear hsz
      have e61 := hf 61 (by decide)
      simp [slotFact, List.lookup] at e61
      clear hf
      go_simp
      refine hK _ _ (Below.refl _ _) ?_
      first | with_reducible rfl | (simp; done) | (simp; omega) | rfl
    refine Grow.stepC (.pointer (some ⟨(b7 + 1), 6, none⟩)) rfl ?_ ?_
    · refine Obl.want rfl rfl (by intro a w e; simpa [slotFact, List.lookup] using e) ?_
      intro ac wg K hsz hW hf hK; clear hsz
      have e12 := hf 12 (by decide)
      simp [slotFact, List.lookup] at e12
      clear hf
      go_simp
      refine hK _ _ (Below.refl _ _) ?_
      first | with_reducible rfl | (simp; done) | (simp; omega) | rfl
    refine Grow.stepC (.int .i64 e6) rfl ?_ ?_
    · refine Obl.want rfl rfl (by intro a w e; simpa [slotFact, List.lookup] using e) ?_
      intro ac wg K hsz hW hf hK; clear hsz
      have e63 := hf 63 (by decide)
      simp [slotFact, List.lookup] at e63
      clear hf
      have gd := (hW.block _ (lt_of_some GYA.out)).trans GYA.out
      have cl6 : wg.cell? ⟨(b7 + 1), 6, none⟩ = some (.int .i64 e6) := cellK gd 6
      clear gd
      go_simp
      refine hK _ _ (Below.refl _ _) ?_
      first | with_reducible rfl | (simp; done) | (simp; omega) | rfl
    refine Grow.stepC (.string ww) rfl ?_ ?_
    · refine Obl.want rfl rfl (by intro a w e; simpa [slotFact, List.lookup] using e) ?_
      intro ac wg K hsz hW hf hK; clear hsz
      have e10 := hf 10 (by decide)
      simp [slotFact, List.lookup] at e10
      clear hf
      go_simp
      refine hK _ _ (Below.refl _ _) ?_
      first | with_reducible rfl | (simp; done) | (simp; omega) | rfl
    refine Grow.step (PodSame ww n6 c6 z6 zs6 d6 f6 e6) rfl (PodSame.mono ww n6 c6 z6 zs6 d6 f6 e6) ?_ ?_
    · refine Obl.want rfl rfl (by intro a w e; simpa [slotFact, List.lookup] using e) ?_
      intro ac wg K hsz hW hf hK; clear hsz
      have e65 := hf 65 (by decide)
      simp [slotFact, List.lookup] at e65
      clear hf
      go_simp
      refine (spodRead_any ww _ (by omega)).mono ?_
      rintro e wh ⟨n', c', z', a', l', p', zs', d', f', e', rfl, hp', htx, -, hb⟩
      obtain ⟨rfl, rfl, rfl, rfl, rfl, rfl, rfl⟩ := HPI.out.same hp'
      exact hK _ _ hb ⟨a', l', p', rfl, htx⟩
    refine Grow.stepC (.int .i64 e6) rfl ?_ ?_
    · refine Obl.want rfl rfl (by intro a w e; simpa [slotFact, List.lookup] using e) ?_
      intro ac wg K hsz hW hf hK; clear hsz
      have e66 := hf 66 (by decide)
      simp [slotFact, List.lookup] at e66
      obtain ⟨a', l', c', e66, -⟩ := e66
      clear hf
      go_simp
      refine hK _ _ (Below.refl _ _) ?_
      first | with_reducible rfl | (simp; done) | (simp; omega) | rfl
    refine Grow.stepC (.bool false) rfl ?_ ?_
    · refine Obl.want rfl rfl (by intro a w e; simpa [slotFact, List.lookup] using e) ?_
      intro ac wg K hsz hW hf hK; clear hsz
      have e64 := hf 64 (by decide)
      simp [slotFact, List.lookup] at e64
      have e67 := hf 67 (by decide)
      simp [slotFact, List.lookup] at e67
      clear hf
      go_simp
      refine hK _ _ (Below.refl _ _) ?_
      first | with_reducible rfl | (simp; done) | (simp; omega) | rfl
    refine Grow.stepC (.bool false) rfl ?_ ?_
    · refine Obl.plain rfl ?_
      intro ac wg K hsz hW hf hK; clear hsz
      have e62 := hf 62 (by decide)
      simp [slotFact, List.lookup] at e62
      have e68 := hf 68 (by decide)
      simp [slotFact, List.lookup] at e68
      clear hf
      go_simp
      refine hK _ _ (Below.refl _ _) ?_
      first | with_reducible rfl | (simp; done) | (simp; omega) | rfl
    refine Grow.stepC (.bool false) rfl ?_ ?_
    · refine Obl.plain rfl ?_
      intro ac wg K hsz hW hf hK; clear hsz
      have e69 := hf 69 (by decide)
      simp [slotFact, List.lookup] at e69
      clear hf
      go_simp
      refine hK _ _ (Below.refl _ _) ?_
      first | with_reducible rfl | (simp; done) | (simp; omega) | rfl
    refine Grow.stepC (.pointer (some ⟨(b7 + 1), 0, none⟩)) rfl ?_ ?_
    · refine Obl.want rfl rfl (by intro a w e; simpa [slotFact, List.lookup] using e) ?_
      intro ac wg K hsz hW hf hK; clear hsz
      have e12 := hf 12 (by decide)
      simp [slotFact, List.lookup] at e12
      clear hf
      go_simp
      refine hK _ _ (Below.refl _ _) ?_
      first | with_reducible rfl | (simp; done) | (simp; omega) | rfl
    refine Grow.stepC (.agg #[.string n6, .int .i64 c6, .string z6, .slice a6 l6 p6, .string d6, .int .i64 f6]) rfl ?_ ?_
    · refine Obl.want rfl rfl (by intro a w e; simpa [slotFact, List.lookup] using e) ?_
      intro ac wg K hsz hW hf hK; clear hsz
      have e71 := hf 71 (by decide)
      simp [slotFact, List.lookup] at e71
      clear hf
      have gd := (hW.block _ (lt_of_some GYA.out)).trans GYA.out
      have cl0 : wg.cell? ⟨(b7 + 1), 0, none⟩ = some (.string n6) := cellK gd 0
      have cl1 : wg.cell? ⟨(b7 + 1), 1, none⟩ = some (.int .i64 c6) := cellK gd 1
      have cl2 : wg.cell? ⟨(b7 + 1), 2, none⟩ = some (.string z6) := cellK gd 2
      have cl3 : wg.cell? ⟨(b7 + 1), 3, none⟩ = some (.slice a6 l6 p6) := cellK gd 3
      have cl4 : wg.cell? ⟨(b7 + 1), 4, none⟩ = some (.string d6) := cellK gd 4
      have cl5 : wg.cell? ⟨(b7 + 1), 5, none⟩ = some (.int .i64 f6) := cellK gd 5
      clear gd
      go_simp
      refine hK _ _ (Below.refl _ _) ?_
      first | with_reducible rfl | (simp; done) | (simp; omega) | rfl
    refine Grow.stepC (.string ww) rfl ?_ ?_
    · refine Obl.want rfl rfl (by intro a w e; simpa [slotFact, List.lookup] using e) ?_
      intro ac wg K hsz hW hf hK; clear hsz
      have e10 := hf 10 (by decide)
      simp [slotFact, List.lookup] at e10
      clear hf
      go_simp
      refine hK _ _ (Below.refl _ _) ?_
      first | with_reducible rfl | (simp; done) | (simp; omega) | rfl
    refine Grow.step (PodSame ww n6 c6 z6 zs6 d6 f6 e6) rfl (PodSame.mono ww n6 c6 z6 zs6 d6 f6 e6) ?_ ?_
    · refine Obl.want rfl rfl (by intro a w e; simpa [slotFact, List.lookup] using e) ?_
      intro ac wg K hsz hW hf hK; clear hsz
      have e73 := hf 73 (by decide)
      simp [slotFact, List.lookup] at e73
      clear hf
      go_simp
      refine (spodRead_any ww _ (by omega)).mono ?_
      rintro e wh ⟨n', c', z', a', l', p', zs', d', f', e', rfl, hp', htx, -, hb⟩
      obtain ⟨rfl, rfl, rfl, rfl, rfl, rfl, rfl⟩ := HPI.out.same hp'
      exact hK _ _ hb ⟨a', l', p', rfl, htx⟩
    refine Grow.step (PodOne n6 c6 z6 zs6 d6 f6) rfl (PodOne.mono n6 c6 z6 zs6 d6 f6) ?_ ?_
    · refine Obl.want rfl rfl (by intro a w e; simpa [slotFact, List.lookup] using e) ?_
      intro ac wg K hsz hW hf hK; clear hsz
      have e74 := hf 74 (by decide)
      simp [slotFact, List.lookup] at e74
      obtain ⟨a', l', c', e74, htx⟩ := e74
      clear hf
      go_simp
      exact hK _ _ (Below.refl _ _) ⟨a', l', c', rfl, htx⟩
    refine Grow.stepC (.bool true) rfl ?_ ?_
    · refine Obl.want rfl rfl (by intro a w e; simpa [slotFact, List.lookup] using e) ?_
      intro ac wg K hsz hW hf hK; clear hsz
      have e72 := hf 72 (by decide)
      simp [slotFact, List.lookup] at e72
      have e75 := hf 75 (by decide)
      simp [slotFact, List.lookup] at e75
      clear hf
      obtain ⟨a', l', c', e75, htx⟩ := e75
      go_simp
      refine (lwPod_any n6 c6 z6 a6 l6 p6 zs6 d6 f6 a' l' c' _ (HUA.out.below hW) htx).mono ?_
      rintro e wh ⟨rfl, hb⟩
      exact hK _ _ hb rfl
    refine Grow.stepC (.bool false) rfl ?_ ?_
    · refine Obl.want rfl rfl (by intro a w e; simpa [slotFact, List.lookup] using e) ?_
      intro ac wg K hsz hW hf hK; clear hsz
      have e76 := hf 76 (by decide)
      simp [slotFact, List.lookup] at e76
      clear hf
      go_simp
      refine hK _ _ (Below.refl _ _) ?_
      first | with_reducible rfl | (simp; done) | (simp; omega) | rfl
    refine Grow.stepC (.bool false) rfl ?_ ?_
    · refine Obl.plain rfl ?_
      intro ac wg K hsz hW hf hK; clear hsz
      have e70 := hf 70 (by decide)
      simp [slotFact, List.lookup] at e70
      have e77 := hf 77 (by decide)
      simp [slotFact, List.lookup] at e77
      clear hf
      go_simp
      refine hK _ _ (Below.refl _ _) ?_
      first | with_reducible rfl | (simp; done) | (simp; omega) | rfl
    refine Grow.stepC (.bool false) rfl ?_ ?_
    · refine Obl.plain rfl ?_
      intro ac wg K hsz hW hf hK; clear hsz
      have e78 := hf 78 (by decide)
      simp [slotFact, List.lookup] at e78
      clear hf
      go_simp
      refine hK _ _ (Below.refl _ _) ?_
      first | with_reducible rfl | (simp; done) | (simp; omega) | rfl
    refine Grow.stepC (.agg #[.string n7, .string z7, .int .i64 c7, .int .i64 s7, .int .i64 u7, .bool d7, .slice a7 l7 p7]) rfl ?_ ?_
    · refine Obl.want rfl rfl (by intro a w e; simpa [slotFact, List.lookup] using e) ?_
      intro ac wg K hsz hW hf hK; clear hsz
      have e13 := hf 13 (by decide)
      simp [slotFact, List.lookup] at e13
      clear hf
      have gd := (hW.block _ (lt_of_some GNA.out)).trans GNA.out
      have cl0 : wg.cell? ⟨b10, 0, none⟩ = some (.string n7) := cellK gd 0
      have cl1 : wg.cell? ⟨b10, 1, none⟩ = some (.string z7) := cellK gd 1
      have cl2 : wg.cell? ⟨b10, 2, none⟩ = some (.int .i64 c7) := cellK gd 2
      have cl3 : wg.cell? ⟨b10, 3, none⟩ = some (.int .i64 s7) := cellK gd 3
      have cl4 : wg.cell? ⟨b10, 4, none⟩ = some (.int .i64 u7) := cellK gd 4
      have cl5 : wg.cell? ⟨b10, 5, none⟩ = some (.bool d7) := cellK gd 5
      have cl6 : wg.cell? ⟨b10, 6, none⟩ = some (.slice a7 l7 p7) := cellK gd 6
      clear gd
      go_simp
      refine hK _ _ (Below.refl _ _) ?_
      first | with_reducible rfl | (simp; done) | (simp; omega) | rfl
    refine Grow.stepC (.bool rn) rfl ?_ ?_
    · refine Obl.want rfl rfl (by intro a w e; simpa [slotFact, List.lookup] using e) ?_
      intro ac wg K hsz hW hf hK; clear hsz
      have e80 := hf 80 (by decide)
      simp [slotFact, List.lookup] at e80
      clear hf
      go_simp
      refine (inode_any n7 z7 c7 s7 u7 d7 a7 l7 p7 zs7 _ (by omega) (by omega) (HNA.out.below hW)).mono ?_
      rintro e wh ⟨r, rfl, hr, hx⟩
      obtain rfl : r = rn := Bool.eq_iff_iff.2 (hr.trans HRN.out.symm)
      first | (subst hx; exact hK _ _ (Below.refl _ _) rfl) | exact hK _ _ hx rfl
    refine Grow.stepC (.agg #[.string n7, .string z7, .int .i64 c7, .int .i64 s7, .int .i64 u7, .bool d7, .slice a7 l7 p7]) rfl ?_ ?_
    · refine Obl.want rfl rfl (by intro a w e; simpa [slotFact, List.lookup] using e) ?_
      intro ac wg K hsz hW hf hK; clear hsz
      have e13 := hf 13 (by decide)
      simp [slotFact, List.lookup] at e13
      clear hf
      have gd := (hW.block _ (lt_of_some GNA.out)).trans GNA.out
      have cl0 : wg.cell? ⟨b10, 0, none⟩ = some (.string n7) := cellK gd 0
      have cl1 : wg.cell? ⟨b10, 1, none⟩ = some (.string z7) := cellK gd 1
      have cl2 : wg.cell? ⟨b10, 2, none⟩ = some (.int .i64 c7) := cellK gd 2
      have cl3 : wg.cell? ⟨b10, 3, none⟩ = some (.int .i64 s7) := cellK gd 3
      have cl4 : wg.cell? ⟨b10, 4, none⟩ = some (.int .i64 u7) := cellK gd 4
      have cl5 : wg.cell? ⟨b10, 5, none⟩ = some (.bool d7) := cellK gd 5
      have cl6 : wg.cell? ⟨b10, 6, none⟩ = some (.slice a7 l7 p7) := cellK gd 6
      clear gd
      go_simp
      refine hK _ _ (Below.refl _ _) ?_
      first | with_reducible rfl | (simp; done) | (simp; omega) | rfl
    refine Grow.stepC (.bool rn) rfl ?_ ?_
    · refine Obl.want rfl rfl (by intro a w e; simpa [slotFact, List.lookup] using e) ?_
      intro ac wg K hsz hW hf hK; clear hsz
      have e82 := hf 82 (by decide)
      simp [slotFact, List.lookup] at e82
      clear hf
      go_simp
      refine (snode_any n7 z7 c7 s7 u7 d7 a7 l7 p7 zs7 _ (by omega) (by omega) (HNA.out.below hW)).mono ?_
      rintro e wh ⟨r, rfl, hr, hx⟩
      obtain rfl : r = rn := Bool.eq_iff_iff.2 (hr.trans HRN.out.symm)
      first | (subst hx; exact hK _ _ (Below.refl _ _) rfl) | exact hK _ _ hx rfl
    refine Grow.stepC (.bool false) rfl ?_ ?_
    · refine Obl.want rfl rfl (by intro a w e; simpa [slotFact, List.lookup] using e) ?_
      intro ac wg K hsz hW hf hK; clear hsz
      have e81 := hf 81 (by decide)
      simp [slotFact, List.lookup] at e81
      have e83 := hf 83 (by decide)
      simp [slotFact, List.lookup] at e83
      clear hf
      go_simp
      refine hK _ _ (Below.refl _ _) ?_
      first | with_reducible rfl | (simp; done) | (simp; omega) | rfl
    refine Grow.stepC (.bool false) rfl ?_ ?_
    · refine Obl.plain rfl ?_
      intro ac wg K hsz hW hf hK; clear hsz
      have e79 := hf 79 (by decide)
      simp [slotFact, List.lookup] at e79
      have e84 := hf 84 (by decide)
      simp [slotFact, List.lookup] at e84
      clear hf
      go_simp
      refine hK _ _ (Below.refl _ _) ?_
      first | with_reducible rfl | (simp; done) | (simp; omega) | rfl
    refine Grow.stepC (.bool false) rfl ?_ ?_
    · refine Obl.plain rfl ?_
      intro ac wg K hsz hW hf hK; clear hsz
      have e85 := hf 85 (by decide)
      simp [slotFact, List.lookup] at e85
      clear hf
      go_simp
      refine hK _ _ (Below.refl _ _) ?_
      first | with_reducible rfl | (simp; done) | (simp; omega) | rfl
    refine Grow.stepC (.agg #[.string n8, .bool x8, .bool y8, .string z8]) rfl ?_ ?_
    · refine Obl.want rfl rfl (by intro a w e; simpa [slotFact, List.lookup] using e) ?_
      intro ac wg K hsz hW hf hK; clear hsz
      have e14 := hf 14 (by decide)
      simp [slotFact, List.lookup] at e14
      clear hf
      have gd := (hW.block _ (lt_of_some GKA.out)).trans GKA.out
      have cl0 : wg.cell? ⟨(b10 + 1), 0, none⟩ = some (.string n8) := cellK gd 0
      have cl1 : wg.cell? ⟨(b10 + 1), 1, none⟩ = some (.bool x8) := cellK gd 1
      have cl2 : wg.cell? ⟨(b10 + 1), 2, none⟩ = some (.bool y8) := cellK gd 2
      have cl3 : wg.cell? ⟨(b10 + 1), 3, none⟩ = some (.string z8) := cellK gd 3
      clear gd
      go_simp
      refine hK _ _ (Below.refl _ _) ?_
      first | with_reducible rfl | (simp; done) | (simp; omega) | rfl
    refine Grow.stepC (.bool rk) rfl ?_ ?_
    · refine Obl.want rfl rfl (by intro a w e; simpa [slotFact, List.lookup] using e) ?_
      intro ac wg K hsz hW hf hK; clear hsz
      have e87 := hf 87 (by decide)
      simp [slotFact, List.lookup] at e87
      clear hf
      go_simp
      refine (iclass_any n8 z8 x8 y8 _ (by omega) (by omega)).mono ?_
      rintro e wh ⟨r, rfl, hr, hx⟩
      obtain rfl : r = rk := Bool.eq_iff_iff.2 (hr.trans HRK.out.symm)
      first | (subst hx; exact hK _ _ (Below.refl _ _) rfl) | exact hK _ _ hx rfl
    refine Grow.stepC (.agg #[.string n8, .bool x8, .bool y8, .string z8]) rfl ?_ ?_
    · refine Obl.want rfl rfl (by intro a w e; simpa [slotFact, List.lookup] using e) ?_
      intro ac wg K hsz hW hf hK; clear hsz
      have e14 := hf 14 (by decide)
      simp [slotFact, List.lookup] at e14
      clear hf
      have gd := (hW.block _ (lt_of_some GKA.out)).trans GKA.out
      have cl0 : wg.cell? ⟨(b10 + 1), 0, none⟩ = some (.string n8) := cellK gd 0
      have cl1 : wg.cell? ⟨(b10 + 1), 1, none⟩ = some (.bool x8) := cellK gd 1
      have cl2 : wg.cell? ⟨(b10 + 1), 2, none⟩ = some (.bool y8) := cellK gd 2
      have cl3 : wg.cell? ⟨(b10 + 1), 3, none⟩ = some (.string z8) := cellK gd 3
      clear gd
      go_simp
      refine hK _ _ (Below.refl _ _) ?_
      first | with_reducible rfl | (simp; done) | (simp; omega) | rfl
    refine Grow.stepC (.bool rk) rfl ?_ ?_
    · refine Obl.want rfl rfl (by intro a w e; simpa [slotFact, List.lookup] using e) ?_
      intro ac wg K hsz hW hf hK; clear hsz
      have e89 := hf 89 (by decide)
      simp [slotFact, List.lookup] at e89
      clear hf
      go_simp
      refine (sclass_any n8 z8 x8 y8 _ (by omega) (by omega)).mono ?_
      rintro e wh ⟨r, rfl, hr, hx⟩
      obtain rfl : r = rk := Bool.eq_iff_iff.2 (hr.trans HRK.out.symm)
      first | (subst hx; exact hK _ _ (Below.refl _ _) rfl) | exact hK _ _ hx rfl
    refine Grow.stepC (.bool false) rfl ?_ ?_
    · refine Obl.want rfl rfl (by intro a w e; simpa [slotFact, List.lookup] using e) ?_
      intro ac wg K hsz hW hf hK; clear hsz
      have e88 := hf 88 (by decide)
      simp [slotFact, List.lookup] at e88
      have e90 := hf 90 (by decide)
      simp [slotFact, List.lookup] at e90
      clear hf
      go_simp
      refine hK _ _ (Below.refl _ _) ?_
      first | with_reducible rfl | (simp; done) | (simp; omega) | rfl
    refine Grow.stepC (.bool false) rfl ?_ ?_
    · refine Obl.plain rfl ?_
      intro ac wg K hsz hW hf hK; clear hsz
      have e86 := hf 86 (by decide)
      simp [slotFact, List.lookup] at e86
      have e91 := hf 91 (by decide)
      simp [slotFact, List.lookup] at e91
      clear hf
      go_simp
      refine hK _ _ (Below.refl _ _) ?_
      first | with_reducible rfl | (simp; done) | (simp; omega) | rfl
    refine Grow.stepC (.bool false) rfl ?_ ?_
    · refine Obl.plain rfl ?_
      intro ac wg K hsz hW hf hK; clear hsz
      have e92 := hf 92 (by decide)
      simp [slotFact, List.lookup] at e92
      clear hf
      go_simp
      refine hK _ _ (Below.refl _ _) ?_
      first | with_reducible rfl | (simp; done) | (simp; omega) | rfl
    refine Grow.stepC (.agg #[.string n9, .int .i64 c9, .string z9, .string k9, .bool x9, .string m9, .bool y9, .slice a9 l9 p9]) rfl ?_ ?_
    · refine Obl.want rfl rfl (by intro a w e; simpa [slotFact, List.lookup] using e) ?_
      intro ac wg K hsz hW hf hK; clear hsz
      have e15 := hf 15 (by decide)
      simp [slotFact, List.lookup] at e15
      clear hf
      have gd := (hW.block _ (lt_of_some GVA.out)).trans GVA.out
      have cl0 : wg.cell? ⟨(b10 + 1 + 1), 0, none⟩ = some (.string n9) := cellK gd 0
      have cl1 : wg.cell? ⟨(b10 + 1 + 1), 1, none⟩ = some (.int .i64 c9) := cellK gd 1
      have cl2 : wg.cell? ⟨(b10 + 1 + 1), 2, none⟩ = some (.string z9) := cellK gd 2
      have cl3 : wg.cell? ⟨(b10 + 1 + 1), 3, none⟩ = some (.string k9) := cellK gd 3
      have cl4 : wg.cell? ⟨(b10 + 1 + 1), 4, none⟩ = some (.bool x9) := cellK gd 4
      have cl5 : wg.cell? ⟨(b10 + 1 + 1), 5, none⟩ = some (.string m9) := cellK gd 5
      have cl6 : wg.cell? ⟨(b10 + 1 + 1), 6, none⟩ = some (.bool y9) := cellK gd 6
      have cl7 : wg.cell? ⟨(b10 + 1 + 1), 7, none⟩ = some (.slice a9 l9 p9) := cellK gd 7
      clear gd
      go_simp
      refine hK _ _ (Below.refl _ _) ?_
      first | with_reducible rfl | (simp; done) | (simp; omega) | rfl
    refine Grow.stepC (.bool rv) rfl ?_ ?_
    · refine Obl.want rfl rfl (by intro a w e; simpa [slotFact, List.lookup] using e) ?_
      intro ac wg K hsz hW hf hK; clear hsz
      have e94 := hf 94 (by decide)
      simp [slotFact, List.lookup] at e94
      clear hf
      go_simp
      refine (ivol_any n9 c9 z9 k9 x9 m9 y9 a9 l9 p9 zs9 _ (by omega) (by omega) (by omega) (by omega) (HVA.out.below hW)).mono ?_
      rintro e wh ⟨r, rfl, hr, hx⟩
      obtain rfl : r = rv := Bool.eq_iff_iff.2 (hr.trans HRV.out.symm)
      first | (subst hx; exact hK _ _ (Below.refl _ _) rfl) | exact hK _ _ hx rfl
    refine Grow.stepC (.agg #[.string n9, .int .i64 c9, .string z9, .string k9, .bool x9, .string m9, .bool y9, .slice a9 l9 p9]) rfl ?_ ?_
    · refine Obl.want rfl rfl (by intro a w e; simpa [slotFact, List.lookup] using e) ?_
      intro ac wg K hsz hW hf hK; clear hsz
      have e15 := hf 15 (by decide)
      simp [slotFact, List.lookup] at e15
      clear hf
      have gd := (hW.block _ (lt_of_some GVA.out)).trans GVA.out
      have cl0 : wg.cell? ⟨(b10 + 1 + 1), 0, none⟩ = some (.string n9) := cellK gd 0
      have cl1 : wg.cell? ⟨(b10 + 1 + 1), 1, none⟩ = some (.int .i64 c9) := cellK gd 1
      have cl2 : wg.cell? ⟨(b10 + 1 + 1), 2, none⟩ = some (.string z9) := cellK gd 2
      have cl3 : wg.cell? ⟨(b10 + 1 + 1), 3, none⟩ = some (.string k9) := cellK gd 3
      have cl4 : wg.cell? ⟨(b10 + 1 + 1), 4, none⟩ = some (.bool x9) := cellK gd 4
      have cl5 : wg.cell? ⟨(b10 + 1 + 1), 5, none⟩ = some (.string m9) := cellK gd 5
      have cl6 : wg.cell? ⟨(b10 + 1 + 1), 6, none⟩ = some (.bool y9) := cellK gd 6
      have cl7 : wg.cell? ⟨(b10 + 1 + 1), 7, none⟩ = some (.slice a9 l9 p9) := cellK gd 7
      clear gd
      go_simp
      refine hK _ _ (Below.refl _ _) ?_
      first | with_reducible rfl | (simp; done) | (simp; omega) | rfl
    refine Grow.stepC (.bool rv) rfl ?_ ?_
    · refine Obl.want rfl rfl (by intro a w e; simpa [slotFact, List.lookup] using e) ?_
      intro ac wg K hsz hW hf hK; clear hsz
      have e96 := hf 96 (by decide)
      simp [slotFact, List.lookup] at e96
      clear hf
      go_simp
      refine (svol_any n9 c9 z9 k9 x9 m9 y9 a9 l9 p9 zs9 _ (by omega) (by omega) (by omega) (by omega) (HVA.out.below hW)).mono ?_
      rintro e wh ⟨r, rfl, hr, hx⟩
      obtain rfl : r = rv := Bool.eq_iff_iff.2 (hr.trans HRV.out.symm)
      first | (subst hx; exact hK _ _ (Below.refl _ _) rfl) | exact hK _ _ hx rfl
    refine Grow.stepC (.bool false) rfl ?_ ?_
    · refine Obl.want rfl rfl (by intro a w e; simpa [slotFact, List.lookup] using e) ?_
      intro ac wg K hsz hW hf hK; clear hsz
      have e95 := hf 95 (by decide)
      simp [slotFact, List.lookup] at e95
      have e97 := hf 97 (by decide)
      simp [slotFact, List.lookup] at e97
      clear hf
      go_simp
      refine hK _ _ (Below.refl _ _) ?_
      first | with_reducible rfl | (simp; done) | (simp; omega) | rfl
    refine Grow.stepC (.bool false) rfl ?_ ?_
    · refine Obl.plain rfl ?_
      intro ac wg K hsz hW hf hK; clear hsz
      have e93 := hf 93 (by decide)
      simp [slotFact, List.lookup] at e93
      have e98 := hf 98 (by decide)
      simp [slotFact, List.lookup] at e98
      clear hf
      go_simp
      refine hK _ _ (Below.refl _ _) ?_
      first | with_reducible rfl | (simp; done) | (simp; omega) | rfl
    refine Grow.stepC (.bool false) rfl ?_ ?_
    · refine Obl.plain rfl ?_
      intro ac wg K hsz hW hf hK; clear hsz
      have e99 := hf 99 (by decide)
      simp [slotFact, List.lookup] at e99
      clear hf
      go_simp
      refine hK _ _ (Below.refl _ _) ?_
      first | with_reducible rfl | (simp; done) | (simp; omega) | rfl
    refine Grow.stepC (.agg #[.string n1, .int .i64 c1, .string k1, .bool x1, .string o1]) rfl ?_ ?_
    · refine Obl.want rfl rfl (by intro a w e; simpa [slotFact, List.lookup] using e) ?_
      intro ac wg K hsz hW hf hK; clear hsz
      have e5 := hf 5 (by decide)
      simp [slotFact, List.lookup] at e5
      clear hf
      have gd := (hW.block _ (lt_of_some GCA.out)).trans GCA.out
      have cl0 : wg.cell? ⟨b2, 0, none⟩ = some (.string n1) := cellK gd 0
      have cl1 : wg.cell? ⟨b2, 1, none⟩ = some (.int .i64 c1) := cellK gd 1
      have cl2 : wg.cell? ⟨b2, 2, none⟩ = some (.string k1) := cellK gd 2
      have cl3 : wg.cell? ⟨b2, 3, none⟩ = some (.bool x1) := cellK gd 3
      have cl4 : wg.cell? ⟨b2, 4, none⟩ = some (.string o1) := cellK gd 4
      clear gd
      go_simp
      refine hK _ _ (Below.refl _ _) ?_
      first | with_reducible rfl | (simp; done) | (simp; omega) | rfl
    refine Grow.stepC (.bool rc) rfl ?_ ?_
    · refine Obl.want rfl rfl (by intro a w e; simpa [slotFact, List.lookup] using e) ?_
      intro ac wg K hsz hW hf hK; clear hsz
      have e101 := hf 101 (by decide)
      simp [slotFact, List.lookup] at e101
      clear hf
      go_simp
      refine (iclaim_any n1 c1 k1 x1 o1 _ (by omega) (by omega) (by omega)).mono ?_
      rintro e wh ⟨r, rfl, hr, hx⟩
      obtain rfl : r = rc := Bool.eq_iff_iff.2 (hr.trans HRC.out.symm)
      first | (subst hx; exact hK _ _ (Below.refl _ _) rfl) | exact hK _ _ hx rfl
    refine Grow.stepC (.agg #[.string n1, .int .i64 c1, .string k1, .bool x1, .string o1]) rfl ?_ ?_
    · refine Obl.want rfl rfl (by intro a w e; simpa [slotFact, List.lookup] using e) ?_
      intro ac wg K hsz hW hf hK; clear hsz
      have e5 := hf 5 (by decide)
      simp [slotFact, List.lookup] at e5
      clear hf
      have gd := (hW.block _ (lt_of_some GCA.out)).trans GCA.out
      have cl0 : wg.cell? ⟨b2, 0, none⟩ = some (.string n1) := cellK gd 0
      have cl1 : wg.cell? ⟨b2, 1, none⟩ = some (.int .i64 c1) := cellK gd 1
      have cl2 : wg.cell? ⟨b2, 2, none⟩ = some (.string k1) := cellK gd 2
      have cl3 : wg.cell? ⟨b2, 3, none⟩ = some (.bool x1) := cellK gd 3
      have cl4 : wg.cell? ⟨b2, 4, none⟩ = some (.string o1) := cellK gd 4
      clear gd
      go_simp
      refine hK _ _ (Below.refl _ _) ?_
      first | with_reducible rfl | (simp; done) | (simp; omega) | rfl
    refine Grow.stepC (.bool rc) rfl ?_ ?_
    · refine Obl.want rfl rfl (by intro a w e; simpa [slotFact, List.lookup] using e) ?_
      intro ac wg K hsz hW hf hK; clear hsz
      have e103 := hf 103 (by decide)
      simp [slotFact, List.lookup] at e103
      clear hf
      go_simp
      refine (sclaim_any n1 c1 k1 x1 o1 _ (by omega) (by omega) (by omega)).mono ?_
      rintro e wh ⟨r, rfl, hr, hx⟩
      obtain rfl : r = rc := Bool.eq_iff_iff.2 (hr.trans HRC.out.symm)
      first | (subst hx; exact hK _ _ (Below.refl _ _) rfl) | exact hK _ _ hx rfl
    refine Grow.stepC (.bool false) rfl ?_ ?_
    · refine Obl.want rfl rfl (by intro a w e; simpa [slotFact, List.lookup] using e) ?_
      intro ac wg K hsz hW hf hK; clear hsz
      have e102 := hf 102 (by decide)
      simp [slotFact, List.lookup] at e102
      have e104 := hf 104 (by decide)
      simp [slotFact, List.lookup] at e104
      clear hf
      go_simp
      refine hK _ _ (Below.refl _ _) ?_
      first | with_reducible rfl | (simp; done) | (simp; omega) | rfl
    refine Grow.stepC (.bool false) rfl ?_ ?_
    · refine Obl.plain rfl ?_
      intro ac wg K hsz hW hf hK; clear hsz
      have e100 := hf 100 (by decide)
      simp [slotFact, List.lookup] at e100
      have e105 := hf 105 (by decide)
      simp [slotFact, List.lookup] at e105
      clear hf
      go_simp
      refine hK _ _ (Below.refl _ _) ?_
      first | with_reducible rfl | (simp; done) | (simp; omega) | rfl
    refine Grow.stepC (.bool false) rfl ?_ ?_
    · refine Obl.plain rfl ?_
      intro ac wg K hsz hW hf hK; clear hsz
      have e106 := hf 106 (by decide)
      simp [slotFact, List.lookup] at e106
      clear hf
      go_simp
      refine hK _ _ (Below.refl _ _) ?_
      first | with_reducible rfl | (simp; done) | (simp; omega) | rfl
    refine Grow.stepC (.agg #[.string n2, .int .i64 c2, .string z2, .slice a2 l2 p2, .string d2, .int .i64 f2]) rfl ?_ ?_
    · refine Obl.want rfl rfl (by intro a w e; simpa [slotFact, List.lookup] using e) ?_
      intro ac wg K hsz hW hf hK; clear hsz
      have e6 := hf 6 (by decide)
      simp [slotFact, List.lookup] at e6
      clear hf
      have gd := (hW.block _ (lt_of_some GPA.out)).trans GPA.out
      have cl0 : wg.cell? ⟨(b2 + 1), 0, none⟩ = some (.string n2) := cellK gd 0
      have cl1 : wg.cell? ⟨(b2 + 1), 1, none⟩ = some (.int .i64 c2) := cellK gd 1
      have cl2 : wg.cell? ⟨(b2 + 1), 2, none⟩ = some (.string z2) := cellK gd 2
      have cl3 : wg.cell? ⟨(b2 + 1), 3, none⟩ = some (.slice a2 l2 p2) := cellK gd 3
      have cl4 : wg.cell? ⟨(b2 + 1), 4, none⟩ = some (.string d2) := cellK gd 4
      have cl5 : wg.cell? ⟨(b2 + 1), 5, none⟩ = some (.int .i64 f2) := cellK gd 5
      clear gd
      go_simp
      refine hK _ _ (Below.refl _ _) ?_
      first | with_reducible rfl | (simp; done) | (simp; omega) | rfl
    refine Grow.stepC (.bool rp) rfl ?_ ?_
    · refine Obl.want rfl rfl (by intro a w e; simpa [slotFact, List.lookup] using e) ?_
      intro ac wg K hsz hW hf hK; clear hsz
      have e108 := hf 108 (by decide)
      simp [slotFact, List.lookup] at e108
      clear hf
      go_simp
      refine (ipod_any n2 c2 z2 a2 l2 p2 zs2 d2 f2 _ (by omega) (by omega) (by omega) (HTA.out.below hW)).mono ?_
      rintro e wh ⟨r, rfl, hr, hx⟩
      obtain rfl : r = rp := Bool.eq_iff_iff.2 (hr.trans HRP.out.symm)
      first | (subst hx; exact hK _ _ (Below.refl _ _) rfl) | exact hK _ _ hx rfl
    refine Grow.stepC (.agg #[.string n2, .int .i64 c2, .string z2, .slice a2 l2 p2, .string d2, .int .i64 f2]) rfl ?_ ?_
    · refine Obl.want rfl rfl (by intro a w e; simpa [slotFact, List.lookup] using e) ?_
      intro ac wg K hsz hW hf hK; clear hsz
      have e6 := hf 6 (by decide)
      simp [slotFact, List.lookup] at e6
      clear hf
      have gd := (hW.block _ (lt_of_some GPA.out)).trans GPA.out
      have cl0 : wg.cell? ⟨(b2 + 1), 0, none⟩ = some (.string n2) := cellK gd 0
      have cl1 : wg.cell? ⟨(b2 + 1), 1, none⟩ = some (.int .i64 c2) := cellK gd 1
      have cl2 : wg.cell? ⟨(b2 + 1), 2, none⟩ = some (.string z2) := cellK gd 2
      have cl3 : wg.cell? ⟨(b2 + 1), 3, none⟩ = some (.slice a2 l2 p2) := cellK gd 3
      have cl4 : wg.cell? ⟨(b2 + 1), 4, none⟩ = some (.string d2) := cellK gd 4
      have cl5 : wg.cell? ⟨(b2 + 1), 5, none⟩ = some (.int .i64 f2) := cellK gd 5
      clear gd
      go_simp
      refine hK _ _ (Below.refl _ _) ?_
      first | with_reducible rfl | (simp; done) | (simp; omega) | rfl
    refine Grow.stepC (.bool rp) rfl ?_ ?_
    · refine Obl.want rfl rfl (by intro a w e; simpa [slotFact, List.lookup] using e) ?_
      intro ac wg K hsz hW hf hK; clear hsz
      have e110 := hf 110 (by decide)
      simp [slotFact, List.lookup] at e110
      clear hf
      go_simp
      refine (spod_any n2 c2 z2 a2 l2 p2 zs2 d2 f2 _ (by omega) (by omega) (by omega) (HTA.out.below hW)).mono ?_
      rintro e wh ⟨r, rfl, hr, hx⟩
      obtain rfl : r = rp := Bool.eq_iff_iff.2 (hr.trans HRP.out.symm)
      first | (subst hx; exact hK _ _ (Below.refl _ _) rfl) | exact hK _ _ hx rfl
    refine Grow.stepC (.bool false) rfl ?_ ?_
    · refine Obl.want rfl rfl (by intro a w e; simpa [slotFact, List.lookup] using e) ?_
      intro ac wg K hsz hW hf hK; clear hsz
      have e109 := hf 109 (by decide)
      simp [slotFact, List.lookup] at e109
      have e111 := hf 111 (by decide)
      simp [slotFact, List.lookup] at e111
      clear hf
      go_simp
      refine hK _ _ (Below.refl _ _) ?_
      first | with_reducible rfl | (simp; done) | (simp; omega) | rfl
    refine Grow.stepC (.bool false) rfl ?_ ?_
    · refine Obl.plain rfl ?_
      intro ac wg K hsz hW hf hK; clear hsz
      have e107 := hf 107 (by decide)
      simp [slotFact, List.lookup] at e107
      have e112 := hf 112 (by decide)
      simp [slotFact, List.lookup] at e112
      clear hf
      go_simp
      refine hK _ _ (Below.refl _ _) ?_
      first | with_reducible rfl | (simp; done) | (simp; omega) | rfl
    refine Grow.done ?_
    intro q wz hW hf
    simp only [List.forall_mem_cons] at hf
    obtain ⟨h113, -⟩ := hf
    refine hK0 _ _ ?_
    simp only [putsAll, List.foldr, Act.put, List.setIfInBounds_toArray, List.set_cons_zero, List.set_cons_succ]
    refine Met.intro ?_
    refine hJ0 _ _ ?_
    (repeat apply Exists.intro)
    refine ⟨?rel, rfl⟩
    exact ⟨h113, hW⟩
  case rest =>
    obtain ⟨rfl, hX⟩ := hcut
    have HXc := hidK hX
    clear hX HRN HRK HRV HRC HRP HNA HVA GNA GKA GVA
    go_wp2_with fail
    obtain ⟨bt, hbt⟩ := ex_boolK (t = ⟨#[]⟩)
    obtain ⟨bu, hbu⟩ := ex_boolK (u = ⟨#[]⟩)
    obtain ⟨bx, hbx⟩ := ex_boolK (¬ e5 = 0)
    obtain ⟨by1, hby⟩ := ex_boolK (¬ e6 = 0)
    have HBT := hidK hbt
    have HBU := hidK hbu
    have HBX := hidK hbx
    have HBY := hidK hby
    clear hbt hbu hbx hby
    have RCA := upK GCA HXc.out
    have RPA := upK GPA HXc.out
    have RXA := upK GXA HXc.out
    have RYA := upK GYA HXc.out
    have HTC := hidK (HTA.out.below HXc.out)
    have HUC := hidK (HUA.out.below HXc.out)
    have HPC := hidK (HPW.out.below HXc.out)
    have HMC := hidK (HMW.out.below HXc.out)
    clear GCA GPA GXA GYA HTA HUA HPW HMW
    rename_i K0 hK0
    refine wp_region_grow (back := none) (by kernel_rfl) (List.append_nil _).symm (by kernel_rfl) ?_
    refine Grow.stepC (.string t) rfl ?_ ?_
    · refine Obl.plain rfl ?_
      intro ac wg K hsz hW hf hK; clear hsz
      have e7 := hf 7 (by decide)
      simp [slotFact, List.lookup] at e7
      clear hf
      go_simp
      refine hK _ _ (Below.refl _ _) ?_
      first | with_reducible rfl | (simp; done) | (simp; omega) | rfl
    refine Grow.stepC (.bool bt) rfl ?_ ?_
    · refine Obl.plain rfl ?_
      intro ac wg K hsz hW hf hK; clear hsz
      have e114 := hf 114 (by decide)
      simp [slotFact, List.lookup] at e114
      clear hf
      go_simp
      refine hK _ _ (Below.refl _ _) ?_
      first | with_reducible rfl | (simp; done) | (simp; omega) | rfl | (refine congrArg Value.bool ?_; rw [Bool.eq_iff_iff, HBT.out]; simp [tlE]; done)
    refine Grow.stepC (.bool bt) rfl ?_ ?_
    · refine Obl.plain rfl ?_
      intro ac wg K hsz hW hf hK; clear hsz
      have e115 := hf 115 (by decide)
      simp [slotFact, List.lookup] at e115
      clear hf
      go_simp
      refine hK _ _ (Below.refl _ _) ?_
      first | with_reducible rfl | (simp; done) | (simp; omega) | rfl
    refine Grow.stepC (cond bt undef (.string t)) rfl ?_ ?_
    · cases bt
      · refine Obl.want rfl rfl (by intro a w e; simpa [slotFact, List.lookup] using e) ?_
        intro ac wg K hsz hW hf hK; clear hsz
        have e7 := hf 7 (by decide)
        simp [slotFact, List.lookup] at e7
        clear hf
        go_simp
        refine hK _ _ (Below.refl _ _) ?_
        first | with_reducible rfl | (simp; done) | (simp; omega) | rfl
      · exact Obl.pass rfl rfl (by intro a w e h; have e9 : a.tmps.getD 116 undef = .bool true := (by simpa [slotFact, List.lookup] using e); rw [e9] at h; cases h)
    refine Grow.stepC (cond bt undef (.agg #[.string n1, .int .i64 c1, .string k1, .bool x1, .string o1, .int .i64 0])) rfl ?_ ?_
    · cases bt
      · refine Obl.want rfl rfl (by intro a w e; simpa [slotFact, List.lookup] using e) ?_
        intro ac wg K hsz hW hf hK; clear hsz
        have e117 := hf 117 (by decide)
        simp [slotFact, List.lookup] at e117
        clear hf
        go_simp
        refine (iclaimRead_any t _ (by rw [HTT.out]; have := claimX_size n1 c1 k1 x1 o1; omega) (HPC.out.below hW) (HMC.out.below hW)).mono ?_
        rintro e wh ⟨he, hb⟩
        have h9 : claimR t = claimOutV n1 c1 k1 x1 o1 0 := by
          rw [HTT.out]
          exact claim_back (fun h => by have h8 := HBT.out.2 (HTT.out.trans h); cases h8)
        rw [h9] at he
        unfold claimOutV at he
        subst he
        exact hK _ _ hb rfl
      · exact Obl.pass rfl rfl (by intro a w e h; have e9 : a.tmps.getD 116 undef = .bool true := (by simpa [slotFact, List.lookup] using e); rw [e9] at h; cases h)
    refine Grow.stepC (cond bt undef (.agg #[.string n1, .int .i64 c1, .string k1, .bool x1, .string o1])) rfl ?_ ?_
    · cases bt
      · refine Obl.want rfl rfl (by intro a w e; simpa [slotFact, List.lookup] using e) ?_
        intro ac wg K hsz hW hf hK; clear hsz
        have e118 := hf 118 (by decide)
        simp [slotFact, List.lookup] at e118
        clear hf
        go_simp
        refine hK _ _ (Below.refl _ _) ?_
        first | with_reducible rfl | (simp; done) | (simp; omega) | rfl
      · exact Obl.pass rfl rfl (by intro a w e h; have e9 : a.tmps.getD 116 undef = .bool true := (by simpa [slotFact, List.lookup] using e); rw [e9] at h; cases h)
    refine Grow.stepC (cond bt undef (.agg #[.string n1, .int .i64 c1, .string k1, .bool x1, .string o1])) rfl ?_ ?_
    · cases bt
      · refine Obl.want rfl rfl (by intro a w e; simpa [slotFact, List.lookup] using e) ?_
        intro ac wg K hsz hW hf hK; clear hsz
        have e5 := hf 5 (by decide)
        simp [slotFact, List.lookup] at e5
        clear hf
        have gd := (hW.block _ (lt_of_some RCA.out)).trans RCA.out
        have cl0 : wg.cell? ⟨b2, 0, none⟩ = some (.string n1) := cellK gd 0
        have cl1 : wg.cell? ⟨b2, 1, none⟩ = some (.int .i64 c1) := cellK gd 1
        have cl2 : wg.cell? ⟨b2, 2, none⟩ = some (.string k1) := cellK gd 2
        have cl3 : wg.cell? ⟨b2, 3, none⟩ = some (.bool x1) := cellK gd 3
        have cl4 : wg.cell? ⟨b2, 4, none⟩ = some (.string o1) := cellK gd 4
        clear gd
        go_simp
        refine hK _ _ (Below.refl _ _) ?_
        first | with_reducible rfl | (simp; done) | (simp; omega) | rfl
      · exact Obl.pass rfl rfl (by intro a w e h; have e9 : a.tmps.getD 116 undef = .bool true := (by simpa [slotFact, List.lookup] using e); rw [e9] at h; cases h)
    refine Grow.stepC (cond bt undef (.bool true)) rfl ?_ ?_
    · cases bt
      · refine Obl.want rfl rfl (by intro a w e; simpa [slotFact, List.lookup] using e) ?_
        intro ac wg K hsz hW hf hK; clear hsz
        have e119 := hf 119 (by decide)
        simp [slotFact, List.lookup] at e119
        have e120 := hf 120 (by decide)
        simp [slotFact, List.lookup] at e120
        clear hf
        have hq24 := fun W => eqClm n1 c1 k1 x1 o1 9998 W
        have hg24 : Tryz.prog.eqGuardType Tryz.prog.depth 24 = false := by kernel_rfl
        go_simp
        refine hK _ _ (Below.refl _ _) ?_
        first | with_reducible rfl | (simp; done) | (simp; omega) | rfl
      · exact Obl.pass rfl rfl (by intro a w e h; have e9 : a.tmps.getD 116 undef = .bool true := (by simpa [slotFact, List.lookup] using e); rw [e9] at h; cases h)
    refine Grow.stepC (.bool true) rfl ?_ ?_
    · cases bt
      · refine Obl.plain rfl ?_
        intro ac wg K hsz hW hf hK; clear hsz
        have e116 := hf 116 (by decide)
        simp [slotFact, List.lookup] at e116
        have e121 := hf 121 (by decide)
        simp [slotFact, List.lookup] at e121
        clear hf
        go_simp
        refine hK _ _ (Below.refl _ _) ?_
        first | with_reducible rfl | (simp; done) | (simp; omega) | rfl
      · refine Obl.plain rfl ?_
        intro ac wg K hsz hW hf hK; clear hsz
        have e116 := hf 116 (by decide)
        simp [slotFact, List.lookup] at e116
        have e121 := hf 121 (by decide)
        simp [slotFact, List.lookup] at e121
        clear hf
        go_simp
        refine hK _ _ (Below.refl _ _) ?_
        first | with_reducible rfl | (simp; done) | (simp; omega) | rfl
    refine Grow.stepC (.bool true) rfl ?_ ?_
    · refine Obl.plain rfl ?_
      intro ac wg K hsz hW hf hK; clear hsz
      have e122 := hf 122 (by decide)
      simp [slotFact, List.lookup] at e122
      clear hf
      go_simp
      refine hK _ _ (Below.refl _ _) ?_
      first | with_reducible rfl | (simp; done) | (simp; omega) | rfl
    refine Grow.stepC (.string u) rfl ?_ ?_
    · refine Obl.want rfl rfl (by intro a w e; simpa [slotFact, List.lookup] using e) ?_
      intro ac wg K hsz hW hf hK; clear hsz
      have e8 := hf 8 (by decide)
      simp [slotFact, List.lookup] at e8
      clear hf
      go_simp
      refine hK _ _ (Below.refl _ _) ?_
      first | with_reducible rfl | (simp; done) | (simp; omega) | rfl
    refine Grow.stepC (.bool bu) rfl ?_ ?_
    · refine Obl.want rfl rfl (by intro a w e; simpa [slotFact, List.lookup] using e) ?_
      intro ac wg K hsz hW hf hK; clear hsz
      have e124 := hf 124 (by decide)
      simp [slotFact, List.lookup] at e124
      clear hf
      go_simp
      refine hK _ _ (Below.refl _ _) ?_
      first | with_reducible rfl | (simp; done) | (simp; omega) | rfl | (refine congrArg Value.bool ?_; rw [Bool.eq_iff_iff, HBU.out]; simp [tlE]; done)
    refine Grow.stepC (.bool bu) rfl ?_ ?_
    · refine Obl.want rfl rfl (by intro a w e; simpa [slotFact, List.lookup] using e) ?_
      intro ac wg K hsz hW hf hK; clear hsz
      have e125 := hf 125 (by decide)
      simp [slotFact, List.lookup] at e125
      clear hf
      go_simp
      refine hK _ _ (Below.refl _ _) ?_
      first | with_reducible rfl | (simp; done) | (simp; omega) | rfl
    refine Grow.stepC (cond bu undef (.string u)) rfl ?_ ?_
    · cases bu
      · refine Obl.want rfl rfl (by intro a w e; simpa [slotFact, List.lookup] using e) ?_
        intro ac wg K hsz hW hf hK; clear hsz
        have e8 := hf 8 (by decide)
        simp [slotFact, List.lookup] at e8
        clear hf
        go_simp
        refine hK _ _ (Below.refl _ _) ?_
        first | with_reducible rfl | (simp; done) | (simp; omega) | rfl
      · exact Obl.pass rfl rfl (by intro a w e h; have e9 : a.tmps.getD 126 undef = .bool true := (by simpa [slotFact, List.lookup] using e); rw [e9] at h; cases h)
    refine Grow.step (Ei bu (PodSame u n2 c2 z2 zs2 d2 f2 0)) rfl (Ei.mono (PodSame.mono u n2 c2 z2 zs2 d2 f2 0)) ?_ ?_
    · cases bu
      · refine Obl.want rfl rfl (by intro a w e; simpa [slotFact, List.lookup] using e) ?_
        intro ac wg K hsz hW hf hK; clear hsz
        have e127 := hf 127 (by decide)
        simp [slotFact, List.lookup] at e127
        clear hf
        go_simp
        refine (ipodRead_any u _ (by rw [HUU.out]; have := podX_size n2 c2 z2 zs2 d2 f2; omega) (HPC.out.below hW) (HMC.out.below hW)).mono ?_
        rintro e wh ⟨n', c', z', a', l', p', zs', d', f', e', rfl, hp', htx, -, hb⟩
        have h9 : PodIs u n2 c2 z2 zs2 d2 f2 0 := by
          rw [HUU.out]
          exact pod_back (fun h => by have h8 := HBU.out.2 (HUU.out.trans h); cases h8)
        obtain ⟨rfl, rfl, rfl, rfl, rfl, rfl, rfl⟩ := h9.same hp'
        exact hK _ _ hb (.inr ⟨rfl, a', l', p', rfl, htx⟩)
      · exact Obl.passE rfl rfl (by intro a w e h; have e9 : a.tmps.getD 126 undef = .bool true := (by simpa [slotFact, List.lookup] using e); rw [e9] at h; cases h)
    refine Grow.step (Ei bu (PodOne n2 c2 z2 zs2 d2 f2)) rfl (Ei.mono (PodOne.mono n2 c2 z2 zs2 d2 f2)) ?_ ?_
    · cases bu
      · refine Obl.want rfl rfl (by intro a w e; simpa [slotFact, List.lookup] using e) ?_
        intro ac wg K hsz hW hf hK; clear hsz
        have e128 := hf 128 (by decide)
        simp [slotFact, List.lookup] at e128
        clear hf
        have e128' := e128
        obtain ⟨a', l', c', e128, htx⟩ := PodE e128'
        go_simp
        exact hK _ _ (Below.refl _ _) (.inr ⟨rfl, a', l', c', rfl, htx⟩)
      · exact Obl.passE rfl rfl (by intro a w e h; have e9 : a.tmps.getD 126 undef = .bool true := (by simpa [slotFact, List.lookup] using e); rw [e9] at h; cases h)
    refine Grow.stepC (cond bu undef (.agg #[.string n2, .int .i64 c2, .string z2, .slice a2 l2 p2, .string d2, .int .i64 f2])) rfl ?_ ?_
    · cases bu
      · refine Obl.want rfl rfl (by intro a w e; simpa [slotFact, List.lookup] using e) ?_
        intro ac wg K hsz hW hf hK; clear hsz
        have e6 := hf 6 (by decide)
        simp [slotFact, List.lookup] at e6
        clear hf
        have gd := (hW.block _ (lt_of_some RPA.out)).trans RPA.out
        have cl0 : wg.cell? ⟨(b2 + 1), 0, none⟩ = some (.string n2) := cellK gd 0
        have cl1 : wg.cell? ⟨(b2 + 1), 1, none⟩ = some (.int .i64 c2) := cellK gd 1
        have cl2 : wg.cell? ⟨(b2 + 1), 2, none⟩ = some (.string z2) := cellK gd 2
        have cl3 : wg.cell? ⟨(b2 + 1), 3, none⟩ = some (.slice a2 l2 p2) := cellK gd 3
        have cl4 : wg.cell? ⟨(b2 + 1), 4, none⟩ = some (.string d2) := cellK gd 4
        have cl5 : wg.cell? ⟨(b2 + 1), 5, none⟩ = some (.int .i64 f2) := cellK gd 5
        clear gd
        go_simp
        refine hK _ _ (Below.refl _ _) ?_
        first | with_reducible rfl | (simp; done) | (simp; omega) | rfl
      · exact Obl.pass rfl rfl (by intro a w e h; have e9 : a.tmps.getD 126 undef = .bool true := (by simpa [slotFact, List.lookup] using e); rw [e9] at h; cases h)
    refine Grow.stepC (cond bu undef (.bool true)) rfl ?_ ?_
    · cases bu
      · refine Obl.want rfl rfl (by intro a w e; simpa [slotFact, List.lookup] using e) ?_
        intro ac wg K hsz hW hf hK; clear hsz
        have e129 := hf 129 (by decide)
        simp [slotFact, List.lookup] at e129
        have e130 := hf 130 (by decide)
        simp [slotFact, List.lookup] at e130
        clear hf
        obtain ⟨a', l', c', e129, htx⟩ := PodF e129
        go_simp
        refine (lwPod_any n2 c2 z2 a' l' c' zs2 d2 f2 a2 l2 p2 _ htx (HTC.out.below hW)).mono ?_
        rintro e wh ⟨rfl, hb⟩
        exact hK _ _ hb rfl
      · exact Obl.pass rfl rfl (by intro a w e h; have e9 : a.tmps.getD 126 undef = .bool true := (by simpa [slotFact, List.lookup] using e); rw [e9] at h; cases h)
    refine Grow.stepC (.bool true) rfl ?_ ?_
    · cases bu
      · refine Obl.want rfl rfl (by intro a w e; simpa [slotFact, List.lookup] using e) ?_
        intro ac wg K hsz hW hf hK; clear hsz
        have e126 := hf 126 (by decide)
        simp [slotFact, List.lookup] at e126
        have e131 := hf 131 (by decide)
        simp [slotFact, List.lookup] at e131
        clear hf
        go_simp
        refine hK _ _ (Below.refl _ _) ?_
        first | with_reducible rfl | (simp; done) | (simp; omega) | rfl
      · refine Obl.want rfl rfl (by intro a w e; simpa [slotFact, List.lookup] using e) ?_
        intro ac wg K hsz hW hf hK; clear hsz
        have e126 := hf 126 (by decide)
        simp [slotFact, List.lookup] at e126
        have e131 := hf 131 (by decide)
        simp [slotFact, List.lookup] at e131
        clear hf
        go_simp
        refine hK _ _ (Below.refl _ _) ?_
        first | with_reducible rfl | (simp; done) | (simp; omega) | rfl
    refine Grow.stepC (.bool true) rfl ?_ ?_
    · refine Obl.plain rfl ?_
      intro ac wg K hsz hW hf hK; clear hsz
      have e123 := hf 123 (by decide)
      simp [slotFact, List.lookup] at e123
      have e132 := hf 132 (by decide)
      simp [slotFact, List.lookup] at e132
      clear hf
      go_simp
      refine hK _ _ (Below.refl _ _) ?_
      first | with_reducible rfl | (simp; done) | (simp; omega) | rfl
    refine Grow.stepC (.bool true) rfl ?_ ?_
    · refine Obl.plain rfl ?_
      intro ac wg K hsz hW hf hK; clear hsz
      have e133 := hf 133 (by decide)
      simp [slotFact, List.lookup] at e133
      clear hf
      go_simp
      refine hK _ _ (Below.refl _ _) ?_
      first | with_reducible rfl | (simp; done) | (simp; omega) | rfl
    refine Grow.stepC (.pointer (some ⟨b7, 5, none⟩)) rfl ?_ ?_
    · refine Obl.want rfl rfl (by intro a w e; simpa [slotFact, List.lookup] using e) ?_
      intro ac wg K hsz hW hf hK; clear hsz
      have e11 := hf 11 (by decide)
      simp [slotFact, List.lookup] at e11
      clear hf
      go_simp
      refine hK _ _ (Below.refl _ _) ?_
      first | with_reducible rfl | (simp; done) | (simp; omega) | rfl
    refine Grow.stepC (.int .i64 e5) rfl ?_ ?_
    · refine Obl.want rfl rfl (by intro a w e; simpa [slotFact, List.lookup] using e) ?_
      intro ac wg K hsz hW hf hK; clear hsz
      have e135 := hf 135 (by decide)
      simp [slotFact, List.lookup] at e135
      clear hf
      have gd := (hW.block _ (lt_of_some RXA.out)).trans RXA.out
      have cl5 : wg.cell? ⟨b7, 5, none⟩ = some (.int .i64 e5) := cellK gd 5
      clear gd
      go_simp
      refine hK _ _ (Below.refl _ _) ?_
      first | with_reducible rfl | (simp; done) | (simp; omega) | rfl
    refine Grow.stepC (.bool bx) rfl ?_ ?_
    · refine Obl.want rfl rfl (by intro a w e; simpa [slotFact, List.lookup] using e) ?_
      intro ac wg K hsz hW hf hK; clear hsz
      have e136 := hf 136 (by decide)
      simp [slotFact, List.lookup] at e136
      clear hf
      go_simp
      refine hK _ _ (Below.refl _ _) ?_
      first | with_reducible rfl | (simp; done) | (simp; omega) | rfl | (refine congrArg Value.bool ?_; rw [Bool.eq_iff_iff, HBX.out]; simp)
    refine Grow.stepC (.bool bx) rfl ?_ ?_
    · refine Obl.want rfl rfl (by intro a w e; simpa [slotFact, List.lookup] using e) ?_
      intro ac wg K hsz hW hf hK; clear hsz
      have e137 := hf 137 (by decide)
      simp [slotFact, List.lookup] at e137
      clear hf
      go_simp
      refine hK _ _ (Below.refl _ _) ?_
      first | with_reducible rfl | (simp; done) | (simp; omega) | rfl
    refine Grow.stepC (cond bx undef (.pointer (some ⟨b7, 0, none⟩))) rfl ?_ ?_
    · cases bx
      · refine Obl.want rfl rfl (by intro a w e; simpa [slotFact, List.lookup] using e) ?_
        intro ac wg K hsz hW hf hK; clear hsz
        have e11 := hf 11 (by decide)
        simp [slotFact, List.lookup] at e11
        clear hf
        go_simp
        refine hK _ _ (Below.refl _ _) ?_
        first | with_reducible rfl | (simp; done) | (simp; omega) | rfl
      · exact Obl.pass rfl rfl (by intro a w e h; have e9 : a.tmps.getD 138 undef = .bool true := (by simpa [slotFact, List.lookup] using e); rw [e9] at h; cases h)
    refine Grow.stepC (cond bx undef (.agg #[.string n5, .int .i64 c5, .string k5, .bool x5, .string o5])) rfl ?_ ?_
    · cases bx
      · refine Obl.want rfl rfl (by intro a w e; simpa [slotFact, List.lookup] using e) ?_
        intro ac wg K hsz hW hf hK; clear hsz
        have e139 := hf 139 (by decide)
        simp [slotFact, List.lookup] at e139
        clear hf
        have gd := (hW.block _ (lt_of_some RXA.out)).trans RXA.out
        have cl0 : wg.cell? ⟨b7, 0, none⟩ = some (.string n5) := cellK gd 0
        have cl1 : wg.cell? ⟨b7, 1, none⟩ = some (.int .i64 c5) := cellK gd 1
        have cl2 : wg.cell? ⟨b7, 2, none⟩ = some (.string k5) := cellK gd 2
        have cl3 : wg.cell? ⟨b7, 3, none⟩ = some (.bool x5) := cellK gd 3
        have cl4 : wg.cell? ⟨b7, 4, none⟩ = some (.string o5) := cellK gd 4
        clear gd
        go_simp
        refine hK _ _ (Below.refl _ _) ?_
        first | with_reducible rfl | (simp; done) | (simp; omega) | rfl
      · exact Obl.pass rfl rfl (by intro a w e h; have e9 : a.tmps.getD 138 undef = .bool true := (by simpa [slotFact, List.lookup] using e); rw [e9] at h; cases h)
    refine Grow.stepC (cond bx undef (.string v)) rfl ?_ ?_
    · cases bx
      · refine Obl.want rfl rfl (by intro a w e; simpa [slotFact, List.lookup] using e) ?_
        intro ac wg K hsz hW hf hK; clear hsz
        have e140 := hf 140 (by decide)
        simp [slotFact, List.lookup] at e140
        clear hf
        go_simp
        have h5 : e5 = 0 := Classical.byContradiction fun hn => by have h8 := HBX.out.2 hn; cases h8
        have h6 := HCR.out
        rw [h5] at h6
        obtain ⟨h7, h8⟩ := claim_zero h6
        refine (iclaimText_any n5 c5 k5 x5 o5 _ (by have := h8.1.2.1; omega) (by have := h8.2.2.1.2.1; omega) (by rcases h8.2.2.2 with h | h; rw [h]; decide; have := h.2.1; omega) (HPC.out.below hW)).mono ?_
        rintro e wh ⟨rfl, hb⟩
        exact hK _ _ hb (by rw [h7]; rfl)
      · exact Obl.pass rfl rfl (by intro a w e h; have e9 : a.tmps.getD 138 undef = .bool true := (by simpa [slotFact, List.lookup] using e); rw [e9] at h; cases h)
    refine Grow.stepC (cond bx undef (.string v)) rfl ?_ ?_
    · cases bx
      · refine Obl.want rfl rfl (by intro a w e; simpa [slotFact, List.lookup] using e) ?_
        intro ac wg K hsz hW hf hK; clear hsz
        have e9 := hf 9 (by decide)
        simp [slotFact, List.lookup] at e9
        clear hf
        go_simp
        refine hK _ _ (Below.refl _ _) ?_
        first | with_reducible rfl | (simp; done) | (simp; omega) | rfl
      · exact Obl.pass rfl rfl (by intro a w e h; have e9 : a.tmps.getD 138 undef = .bool true := (by simpa [slotFact, List.lookup] using e); rw [e9] at h; cases h)
    refine Grow.stepC (cond bx undef (.bool true)) rfl ?_ ?_
    · cases bx
      · refine Obl.want rfl rfl (by intro a w e; simpa [slotFact, List.lookup] using e) ?_
        intro ac wg K hsz hW hf hK; clear hsz
        have e141 := hf 141 (by decide)
        simp [slotFact, List.lookup] at e141
        have e142 := hf 142 (by decide)
        simp [slotFact, List.lookup] at e142
        clear hf
        go_simp
        refine hK _ _ (Below.refl _ _) ?_
        first | with_reducible rfl | (simp; done) | (simp; omega) | rfl
      · exact Obl.pass rfl rfl (by intro a w e h; have e9 : a.tmps.getD 138 undef = .bool true := (by simpa [slotFact, List.lookup] using e); rw [e9] at h; cases h)
    refine Grow.stepC (.bool true) rfl ?_ ?_
    · cases bx
      · refine Obl.want rfl rfl (by intro a w e; simpa [slotFact, List.lookup] using e) ?_
        intro ac wg K hsz hW hf hK; clear hsz
        have e138 := hf 138 (by decide)
        simp [slotFact, List.lookup] at e138
        have e143 := hf 143 (by decide)
        simp [slotFact, List.lookup] at e143
        clear hf
        go_simp
        refine hK _ _ (Below.refl _ _) ?_
        first | with_reducible rfl | (simp; done) | (simp; omega) | rfl
      · refine Obl.want rfl rfl (by intro a w e; simpa [slotFact, List.lookup] using e) ?_
        intro ac wg K hsz hW hf hK; clear hsz
        have e138 := hf 138 (by decide)
        simp [slotFact, List.lookup] at e138
        have e143 := hf 143 (by decide)
        simp [slotFact, List.lookup] at e143
        clear hf
        go_simp
        refine hK _ _ (Below.refl _ _) ?_
        first | with_reducible rfl | (simp; done) | (simp; omega) | rfl
    refine Grow.stepC (.bool true) rfl ?_ ?_
    · refine Obl.plain rfl ?_
      intro ac wg K hsz hW hf hK; clear hsz
      have e134 := hf 134 (by decide)
      simp [slotFact, List.lookup] at e134
      have e144 := hf 144 (by decide)
      simp [slotFact, List.lookup] at e144
      clear hf
      go_simp
      refine hK _ _ (Below.refl _ _) ?_
      first | with_reducible rfl | (simp; done) | (simp; omega) | rfl
    refine Grow.stepC (.bool true) rfl ?_ ?_
    · refine Obl.plain rfl ?_
      intro ac wg K hsz hW hf hK; clear hsz
      have e145 := hf 145 (by decide)
      simp [slotFact, List.lookup] at e145
      clear hf
      go_simp
      refine hK _ _ (Below.refl _ _) ?_
      first | with_reducible rfl | (simp; done) | (simp; omega) | rfl
    refine Grow.stepC (.pointer (some ⟨(b7 + 1), 6, none⟩)) rfl ?_ ?_
    · refine Obl.want rfl rfl (by intro a w e; simpa [slotFact, List.lookup] using e) ?_
      intro ac wg K hsz hW hf hK; clear hsz
      have e12 := hf 12 (by decide)
      simp [slotFact, List.lookup] at e12
      clear hf
      go_simp
      refine hK _ _ (Below.refl _ _) ?_
      first | with_reducible rfl | (simp; done) | (simp; omega) | rfl
    refine Grow.stepC (.int .i64 e6) rfl ?_ ?_
    · refine Obl.want rfl rfl (by intro a w e; simpa [slotFact, List.lookup] using e) ?_
      intro ac wg K hsz hW hf hK; clear hsz
      have e147 := hf 147 (by decide)
      simp [slotFact, List.lookup] at e147
      clear hf
      have gd := (hW.block _ (lt_of_some RYA.out)).trans RYA.out
      have cl6 : wg.cell? ⟨(b7 + 1), 6, none⟩ = some (.int .i64 e6) := cellK gd 6
      clear gd
      go_simp
      refine hK _ _ (Below.refl _ _) ?_
      first | with_reducible rfl | (simp; done) | (simp; omega) | rfl
    refine Grow.stepC (.bool by1) rfl ?_ ?_
    · refine Obl.want rfl rfl (by intro a w e; simpa [slotFact, List.lookup] using e) ?_
      intro ac wg K hsz hW hf hK; clear hsz
      have e148 := hf 148 (by decide)
      simp [slotFact, List.lookup] at e148
      clear hf
      go_simp
      refine hK _ _ (Below.refl _ _) ?_
      first | with_reducible rfl | (simp; done) | (simp; omega) | rfl | (refine congrArg Value.bool ?_; rw [Bool.eq_iff_iff, HBY.out]; simp)
    refine Grow.stepC (.bool by1) rfl ?_ ?_
    · refine Obl.want rfl rfl (by intro a w e; simpa [slotFact, List.lookup] using e) ?_
      intro ac wg K hsz hW hf hK; clear hsz
      have e149 := hf 149 (by decide)
      simp [slotFact, List.lookup] at e149
      clear hf
      go_simp
      refine hK _ _ (Below.refl _ _) ?_
      first | with_reducible rfl | (simp; done) | (simp; omega) | rfl
    refine Grow.stepC (cond by1 undef (.pointer (some ⟨(b7 + 1), 0, none⟩))) rfl ?_ ?_
    · cases by1
      · refine Obl.want rfl rfl (by intro a w e; simpa [slotFact, List.lookup] using e) ?_
        intro ac wg K hsz hW hf hK; clear hsz
        have e12 := hf 12 (by decide)
        simp [slotFact, List.lookup] at e12
        clear hf
        go_simp
        refine hK _ _ (Below.refl _ _) ?_
        first | with_reducible rfl | (simp; done) | (simp; omega) | rfl
      · exact Obl.pass rfl rfl (by intro a w e h; have e9 : a.tmps.getD 150 undef = .bool true := (by simpa [slotFact, List.lookup] using e); rw [e9] at h; cases h)
    refine Grow.stepC (cond by1 undef (.agg #[.string n6, .int .i64 c6, .string z6, .slice a6 l6 p6, .string d6, .int .i64 f6])) rfl ?_ ?_
    · cases by1
      · refine Obl.want rfl rfl (by intro a w e; simpa [slotFact, List.lookup] using e) ?_
        intro ac wg K hsz hW hf hK; clear hsz
        have e151 := hf 151 (by decide)
        simp [slotFact, List.lookup] at e151
        clear hf
        have gd := (hW.block _ (lt_of_some RYA.out)).trans RYA.out
        have cl0 : wg.cell? ⟨(b7 + 1), 0, none⟩ = some (.string n6) := cellK gd 0
        have cl1 : wg.cell? ⟨(b7 + 1), 1, none⟩ = some (.int .i64 c6) := cellK gd 1
        have cl2 : wg.cell? ⟨(b7 + 1), 2, none⟩ = some (.string z6) := cellK gd 2
        have cl3 : wg.cell? ⟨(b7 + 1), 3, none⟩ = some (.slice a6 l6 p6) := cellK gd 3
        have cl4 : wg.cell? ⟨(b7 + 1), 4, none⟩ = some (.string d6) := cellK gd 4
        have cl5 : wg.cell? ⟨(b7 + 1), 5, none⟩ = some (.int .i64 f6) := cellK gd 5
        clear gd
        go_simp
        refine hK _ _ (Below.refl _ _) ?_
        first | with_reducible rfl | (simp; done) | (simp; omega) | rfl
      · exact Obl.pass rfl rfl (by intro a w e h; have e9 : a.tmps.getD 150 undef = .bool true := (by simpa [slotFact, List.lookup] using e); rw [e9] at h; cases h)
    refine Grow.stepC (cond by1 undef (.string ww)) rfl ?_ ?_
    · cases by1
      · refine Obl.want rfl rfl (by intro a w e; simpa [slotFact, List.lookup] using e) ?_
        intro ac wg K hsz hW hf hK; clear hsz
        have e152 := hf 152 (by decide)
        simp [slotFact, List.lookup] at e152
        clear hf
        go_simp
        have h5 : e6 = 0 := Classical.byContradiction fun hn => by have h8 := HBY.out.2 hn; cases h8
        have h6 := HPI.out
        rw [h5] at h6
        obtain ⟨h7, h8⟩ := pod_zero h6
        refine (ipodText_any n6 c6 z6 a6 l6 p6 zs6 d6 f6 _ (by have := h8.1.2.1; omega) (zone9 h8.2.2.1) (by rw [h6.1]; decide) (HUC.out.below hW) HNK.out (HPC.out.below hW)).mono ?_
        rintro e wh ⟨rfl, hb⟩
        exact hK _ _ hb (by rw [h7]; rfl)
      · exact Obl.pass rfl rfl (by intro a w e h; have e9 : a.tmps.getD 150 undef = .bool true := (by simpa [slotFact, List.lookup] using e); rw [e9] at h; cases h)
    refine Grow.stepC (cond by1 undef (.string ww)) rfl ?_ ?_
    · cases by1
      · refine Obl.want rfl rfl (by intro a w e; simpa [slotFact, List.lookup] using e) ?_
        intro ac wg K hsz hW hf hK; clear hsz
        have e10 := hf 10 (by decide)
        simp [slotFact, List.lookup] at e10
        clear hf
        go_simp
        refine hK _ _ (Below.refl _ _) ?_
        first | with_reducible rfl | (simp; done) | (simp; omega) | rfl
      · exact Obl.pass rfl rfl (by intro a w e h; have e9 : a.tmps.getD 150 undef = .bool true := (by simpa [slotFact, List.lookup] using e); rw [e9] at h; cases h)
    refine Grow.stepC (cond by1 undef (.bool true)) rfl ?_ ?_
    · cases by1
      · refine Obl.want rfl rfl (by intro a w e; simpa [slotFact, List.lookup] using e) ?_
        intro ac wg K hsz hW hf hK; clear hsz
        have e153 := hf 153 (by decide)
        simp [slotFact, List.lookup] at e153
        have e154 := hf 154 (by decide)
        simp [slotFact, List.lookup] at e154
        clear hf
        go_simp
        refine hK _ _ (Below.refl _ _) ?_
        first | with_reducible rfl | (simp; done) | (simp; omega) | rfl
      · exact Obl.pass rfl rfl (by intro a w e h; have e9 : a.tmps.getD 150 undef = .bool true := (by simpa [slotFact, List.lookup] using e); rw [e9] at h; cases h)
    refine Grow.stepC (.bool true) rfl ?_ ?_
    · cases by1
      · refine Obl.want rfl rfl (by intro a w e; simpa [slotFact, List.lookup] using e) ?_
        intro ac wg K hsz hW hf hK; clear hsz
        have e150 := hf 150 (by decide)
        simp [slotFact, List.lookup] at e150
        have e155 := hf 155 (by decide)
        simp [slotFact, List.lookup] at e155
        clear hf
        go_simp
        refine hK _ _ (Below.refl _ _) ?_
        first | with_reducible rfl | (simp; done) | (simp; omega) | rfl
      · refine Obl.want rfl rfl (by intro a w e; simpa [slotFact, List.lookup] using e) ?_
        intro ac wg K hsz hW hf hK; clear hsz
        have e150 := hf 150 (by decide)
        simp [slotFact, List.lookup] at e150
        have e155 := hf 155 (by decide)
        simp [slotFact, List.lookup] at e155
        clear hf
        go_simp
        refine hK _ _ (Below.refl _ _) ?_
        first | with_reducible rfl | (simp; done) | (simp; omega) | rfl
    refine Grow.stepC (.bool true) rfl ?_ ?_
    · refine Obl.plain rfl ?_
      intro ac wg K hsz hW hf hK; clear hsz
      have e146 := hf 146 (by decide)
      simp [slotFact, List.lookup] at e146
      have e156 := hf 156 (by decide)
      simp [slotFact, List.lookup] at e156
      clear hf
      go_simp
      refine hK _ _ (Below.refl _ _) ?_
      first | with_reducible rfl | (simp; done) | (simp; omega) | rfl
    refine Grow.stepC (.bool true) rfl ?_ ?_
    · refine Obl.plain rfl ?_
      intro ac wg K hsz hW hf hK; clear hsz
      have e157 := hf 157 (by decide)
      simp [slotFact, List.lookup] at e157
      clear hf
      go_simp
      refine hK _ _ (Below.refl _ _) ?_
      first | with_reducible rfl | (simp; done) | (simp; omega) | rfl
    refine Grow.done ?_
    intro q wz hW hf
    simp only [List.forall_mem_cons] at hf
    obtain ⟨h4, -⟩ := hf
    refine hK0 _ _ ?_
    simp only [putsAll, List.foldr, Act.put, List.setIfInBounds_toArray, List.set_cons_zero, List.set_cons_succ, h4]
    have HBZ := hidK (HBA.out.trans ((HXc.out.trans (hW.mono HXc.out.size)).mono HBA.out.size))
    clear hW
    go_wp2_with fail
    go_ret
    exact ⟨rfl, HBZ.out⟩

set_option maxRecDepth 10000 in
set_option maxHeartbeats 800000 in
theorem fnKinds_walk (a0 : Option Addr) (len0 cap0 : Nat) (z0 : List Int) (a1 : Option Addr) (len1 cap1 : Nat) (z1 : List Int) (w : World) (w0 : IsRow .u8 w a0 len0 cap0 z0) (w1 : IsRow .u8 w a1 len1 cap1 z1) (ht : ptab w) (hmx : mxl w) :
    Calls Tryz.prog 3 #[.slice a0 len0 cap0, .slice a1 len1 cap1] w fun e w' => e = .returned (.bool true) ∧ Below w.heap.size w w' := by
  by_cases h0 : 1048576 < len0
  · clear w0 w1 ht hmx
    go_enter Tryz.func3, Tryz.ntmps3
    go_wp2
    go_ret
    exact ⟨rfl, Below.refl _ _⟩
  by_cases h1 : 1048576 < len1
  · clear w0 w1 ht hmx
    go_enter Tryz.func3, Tryz.ntmps3
    go_wp2
    go_ret
    exact ⟨rfl, Below.refl _ _⟩
  exact fnKinds_go _ _ len0 len1 w ⟨_, _, rfl⟩ ⟨_, _, rfl⟩ (w0.rowIn (by omega)) (w1.rowIn (by omega)) (by omega) (by omega) ht hmx

end Go.Proofs.YtfhlhckjgdmgkaaGreatDoor
