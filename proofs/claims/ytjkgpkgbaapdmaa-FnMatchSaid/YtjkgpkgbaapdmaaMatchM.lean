/-
  For FnMatch: the best is least, what is made serves, two volumes compared; an operation under a guard.
-/
import Derived.Test.YtjkgpkgbaapdmaaGrow
import Derived.Test.YtjkgpkgbaapdmaaBestF
import Derived.Test.YtjkgpkgbaapdmaaMake
namespace Go.Proofs.Ytjkgpkgbaapdmaa
open Go.RowKit

theorem best_least (sv : Vd → Bool) : ∀ (vs : List Vd) (acc : Option Vd), (∀ a, acc = some a → sv a = true) →
    (vs.foldl (stepB sv) acc = none → acc = none ∧ ∀ v ∈ vs, sv v = false) ∧
    (∀ u, vs.foldl (stepB sv) acc = some u → sv u = true ∧ (∀ a, acc = some a → u.c ≤ a.c) ∧ ∀ v ∈ vs, sv v = true → u.c ≤ v.c)
  | [], acc, ha => ⟨fun h => ⟨h, fun v hv => by simp at hv⟩, fun u h => ⟨ha u h, fun a e => (by simp only [List.foldl_nil] at h; rw [h] at e; cases e; exact Int.le_refl _), fun v hv => by simp at hv⟩⟩
  | y :: ys, acc, ha => by
    rw [List.foldl_cons]
    have key : (∀ a, stepB sv acc y = some a → sv a = true) ∧ (stepB sv acc y = none → acc = none ∧ sv y = false) ∧ (∀ b, stepB sv acc y = some b → (∀ a, acc = some a → b.c ≤ a.c) ∧ (sv y = true → b.c ≤ y.c)) := by
      cases hy : sv y with
      | false =>
        have e : stepB sv acc y = acc := by simp [stepB, hy]
        rw [e]
        exact ⟨ha, fun h => ⟨h, rfl⟩, fun b hb => ⟨fun a h => (by rw [hb] at h; cases h; exact Int.le_refl _), fun h => by cases h⟩⟩
      | true =>
        cases acc with
        | none =>
          have e : stepB sv none y = some y := by simp [stepB, hy]
          rw [e]
          exact ⟨fun a h => (by cases h; exact hy), fun h => (by cases h), fun b hb => by cases hb; exact ⟨fun a h => (by cases h), fun _ => Int.le_refl _⟩⟩
        | some a =>
          cases hb : betB y a with
          | true =>
            have e : stepB sv (some a) y = some y := by simp [stepB, hy, hb]
            have hc : y.c ≤ a.c := by
              simp only [betB, Bool.or_eq_true, decide_eq_true_eq, Bool.and_eq_true, beq_iff_eq] at hb
              omega
            rw [e]
            exact ⟨fun a h => (by cases h; exact hy), fun h => (by cases h), fun b hb => by cases hb; exact ⟨fun a h => (by cases h; exact hc), fun _ => Int.le_refl _⟩⟩
          | false =>
            have e : stepB sv (some a) y = some a := by simp [stepB, hy, hb]
            have hc : a.c ≤ y.c := by
              simp only [betB, Bool.or_eq_false_iff, decide_eq_false_iff_not] at hb
              omega
            rw [e]
            exact ⟨fun b h => ha b h, fun h => (by cases h), fun b hb => by cases hb; exact ⟨fun a h => (by cases h; exact Int.le_refl _), fun _ => hc⟩⟩
    obtain ⟨k1, k2, k3⟩ := key
    obtain ⟨i1, i2⟩ := best_least sv ys (stepB sv acc y) k1
    refine ⟨fun h => ?_, fun u h => ?_⟩
    · obtain ⟨j1, j2⟩ := i1 h
      exact ⟨(k2 j1).1, fun v hv => by rcases List.mem_cons.1 hv with rfl | hv; exact (k2 j1).2; exact j2 v hv⟩
    · obtain ⟨j1, j2, j3⟩ := i2 u h
      refine ⟨j1, fun a e => ?_, fun v hv hs => ?_⟩
      · cases hq : stepB sv acc y with
        | none => rw [(k2 hq).1] at e; cases e
        | some b => have := (k3 b hq).1 a e; have := j2 b hq; omega
      · rcases List.mem_cons.1 hv with rfl | hv
        · cases hq : stepB sv acc v with
          | none => rw [(k2 hq).2] at hs; cases hs
          | some b => have := (k3 b hq).2 hs; have := j2 b hq; omega
        · exact j3 v hv hs

/-- What the law asks of the best: none that serves is smaller, it serves; without one none serves. -/
theorem BestIs.law {vs : List Vd} {n' : ByteArray} {c' : Int} {k' : ByteArray} {x' : Bool} {v' t : ByteArray} {u : Vd} {p : Int} (h : BestIs vs n' c' k' x' v' t u p) :
    (p = 0 → ServeOk u.n u.c u.z u.k u.x u.m u.y u.zs n' c' k' x' v' t) ∧
    (p = 0 ∨ p = 6 → ∀ v ∈ vs, ServeOk v.n v.c v.z v.k v.x v.m v.y v.zs n' c' k' x' v' t → p = 0 ∧ ¬ v.c < u.c) := by
  rcases h with ⟨-, rfl, rfl⟩ | ⟨-, -, rfl, rfl⟩ | ⟨-, hR, hb, rfl, rfl⟩ | ⟨-, hR, hb, rfl⟩
  · exact ⟨fun h => by omega, fun h => by omega⟩
  · exact ⟨fun h => by omega, fun h => by omega⟩
  · refine ⟨fun h => by omega, fun _ v hv hs => ?_⟩
    have h1 := ((best_least (svV c' k' x' t) vs none (fun a e => by cases e)).1 hb).2 v hv
    rw [show svV c' k' x' t v = true from hs.2.2.2] at h1
    cases h1
  · obtain ⟨h1, -, h3⟩ := (best_least (svV c' k' x' t) vs none (fun a e => by cases e)).2 u hb
    refine ⟨fun _ => ⟨?_, hR.1, hR.2.1, h1⟩, fun _ v hv hs => ⟨rfl, ?_⟩⟩
    · have hm : u ∈ vs := by
        by_cases hv : u ∈ vs
        · exact hv
        · exfalso
          have gen : ∀ (l : List Vd) (acc : Option Vd), l.foldl (stepB (svV c' k' x' t)) acc = some u → u ∈ l ∨ acc = some u := by
            intro l
            induction l with
            | nil => intro acc h; exact .inr h
            | cons y ys ih =>
              intro acc h
              rcases ih _ h with h1 | h1
              · exact .inl (List.mem_cons_of_mem _ h1)
              · cases acc with
                | none =>
                  simp only [stepB] at h1
                  by_cases hq : (svV c' k' x' t y && true) = true
                  · rw [if_pos hq] at h1
                    obtain rfl := Option.some.inj h1
                    exact .inl List.mem_cons_self
                  · rw [if_neg hq] at h1
                    cases h1
                | some z =>
                  simp only [stepB] at h1
                  by_cases hq : (svV c' k' x' t y && betB y z) = true
                  · rw [if_pos hq] at h1
                    obtain rfl := Option.some.inj h1
                    exact .inl List.mem_cons_self
                  · rw [if_neg hq] at h1
                    exact .inr h1
          rcases gen vs none hb with h | h
          · exact hv h
          · cases h
      obtain ⟨j, hj⟩ := List.getElem?_of_mem hm
      exact hR.2.2.2 j u hj
    · have := h3 v hv hs.2.2.2
      omega

theorem made_size (s : ByteArray) : (wMade ++ s).size = 2 + s.size := by rw [ByteArray.size_append]; rfl
theorem made_name {s : ByteArray} (h : NameOk s) (hs : s.size ≤ 18) : NameOk (wMade ++ s) := by
  obtain ⟨h1, -, h3⟩ := h
  have hz := made_size s
  refine ⟨by omega, by omega, fun i hi => ?_⟩
  by_cases h2 : i < 2
  · have e : (wMade ++ s)[i]'hi = wMade[i]'(by exact h2) := ByteArray.getElem_append_left h2
    rw [e]
    match i, h2 with
    | 0, _ => rfl
    | 1, _ => rfl
  · have e : (wMade ++ s)[i]'hi = s[i - 2]'(by omega) := ByteArray.getElem_append_right (by show 2 ≤ i; omega)
    rw [e]
    have := h3 (i - 2) (by omega)
    revert this
    generalize (s[i - 2]'(by omega)).toNat = b
    intro h
    have hi0 : ¬ i = 0 := by omega
    unfold okB at h ⊢
    rw [if_neg hi0]
    by_cases h4 : i - 2 = 0
    · rw [if_pos h4] at h
      simp [nbB, h]
    · rw [if_neg h4] at h
      exact h

/-- What the law asks of what was made. -/
theorem MakeIs.law {n' : ByteArray} {c' : Int} {k' : ByteArray} {x' : Bool} {v' n z t : ByteArray} {n0 : ByteArray} {c0 : Int} {z0 k0 : ByteArray} {x0 : Bool} {m0 : ByteArray} (h : MakeIs n' c' k' x' v' n z t n0 c0 z0 k0 x0 m0 0) :
    ServeOk n0 c0 z0 k0 x0 ⟨#[]⟩ false [] n' c' k' x' v' t ∧ MayOk n z t ∧ m0 = n' ∧ VolOk n0 c0 z0 k0 x0 m0 false [] := by
  rcases h with ⟨-, -, h⟩ | ⟨-, -, -, h⟩ | ⟨-, -, -, -, h⟩ | ⟨-, ⟨hc, hk, ht⟩, ⟨e1, e2, e3, e4⟩, ⟨rfl, rfl, rfl, rfl, rfl, rfl⟩, -⟩
  · cases h
  · cases h
  · cases h
  · have hn : NamesOk [] (if x0 = true then 1 else 6) := ⟨by cases x0 <;> simp, fun i x h => by simp at h⟩
    have hv : ∀ m, ZoneOk m → VolOk (wMade ++ m0) c0 z0 k0 x0 m false [] := fun m hm => ⟨made_name hc.1 e4, hc.2.1, ht, hc.2.2.1, hm, fun h => (by cases h), hn⟩
    exact ⟨⟨hv _ (.inl rfl), hc, .inr ht, by simp [svB]⟩, ⟨hk, ht, e3⟩, rfl, hv _ (.inr hc.1)⟩

set_option maxHeartbeats 1600000 in
theorem lwTexts_any (a a' : Option Addr) (len len' cap cap' : Nat) (zs : List ByteArray) (w : World) (hr : TxRow w a len cap zs) (hr' : TxRow w a' len' cap' zs) :
    Calls Try.prog 59 #[.slice a len cap, .slice a' len' cap'] w fun e w' => e = .returned (.bool true) ∧ Below w.heap.size w w' := by
  obtain rfl : len = len' := hr.1.symm.trans hr'.1
  have HR : Hid (TxRow w a len cap zs) := hr
  have HR' : Hid (TxRow w a' len cap' zs) := hr'
  have hlc : len ≤ 9223372036854775807 := Nat.le_trans hr.2.1 hr.2.2.1
  clear hr hr'
  go_enter Try.func59, Try.ntmps59
  go_wp2
  go_loopw [5] (fun i wr => ∃ k : Nat, k ≤ len ∧ i = .int .i64 k ∧ Hid (Below w.heap.size w wr)) (fun i _ => len - (intOf i).toNat)
  case atStart => exact ⟨0, by omega, rfl, Below.refl _ _⟩
  case round =>
    obtain ⟨k, hk, rfl, HB⟩ := hrel
    by_cases hlt : k < len
    · obtain ⟨b, o, x, rfl, hb, hx, hc, hsz⟩ := (HR.out.below HB.out).at hlt
      obtain ⟨b', o', x', rfl, hb', hx', hc', hsz'⟩ := (HR'.out.below HB.out).at hlt
      obtain rfl : x = x' := Option.some.inj (hx.symm.trans hx')
      go_wp2
      go_quiet (fail)
      go_wp2
      exact ⟨⟨k + 1, by omega, by go_num, below_drewN HB.out _⟩, by simp [intOf]; omega⟩
    · obtain rfl : k = len := by omega
      go_wp2
      go_ret
      exact ⟨rfl, HB.out⟩

set_option maxHeartbeats 3200000 in
theorem lwVolume_any (n : ByteArray) (c : Int) (z : ByteArray) (k : ByteArray) (x : Bool) (m : ByteArray) (y : Bool) (a : Option Addr) (len cap : Nat) (zs : List ByteArray) (a' : Option Addr) (len' cap' : Nat) (w : World) (hr : TxRow w a len cap zs) (hr' : TxRow w a' len' cap' zs) :
    Calls Try.prog 15 #[.agg #[.string n, .int .i64 c, .string z, .string k, .bool x, .string m, .bool y, .slice a len cap], .agg #[.string n, .int .i64 c, .string z, .string k, .bool x, .string m, .bool y, .slice a' len' cap']] w fun e w' => e = .returned (.bool true) ∧ Below w.heap.size w w' := by
  have HR : Hid (TxRow w a len cap zs) := hr
  have HR' : Hid (TxRow w a' len' cap' zs) := hr'
  clear hr hr'
  go_enter Try.func15, Try.ntmps15
  go_wp2_with fail
  refine (lwTexts_any a a' len len' cap cap' zs _ (HR.out.below (below2 _ _ _)) (HR'.out.below (below2 _ _ _))).mono ?_
  rintro e w1 ⟨rfl, hb⟩
  have HB : Hid (Below w.heap.size w w1) := (below2 _ _ _).trans (hb.mono (by simp; omega))
  go_wp2_with fail
  go_ret
  exact ⟨rfl, HB.out⟩

/-- An operation under a guard that wants it done. -/
theorem Obl.guarded {P : Program} {ops : Array Oper} {Q : Exit → Act → World → Prop} {W : World} {a0 : Act} {known : List (Tmp × Fact)} {o : Oper} {φ : Fact} {i : Nat} {b : Bool} {t : Tmp} (hg : o.guard = some (i, b)) (hd : (ops[i]?).bind (·.dst) = some t)
    (ht : ∀ (a : Act) (w : World), slotFact a0 known a w t → a.tmps.getD t undef = .bool b)
    (h : ∀ (a : Act) (w : World) (K : Act → World → Prop), a.tmps.size = a0.tmps.size → Below W.heap.size W w → (∀ t ∈ looksOf o, slotFact a0 known a w t) → (∀ v w', Below w.heap.size w w' → φ v w' → K (a.put o.dst v) w') → o.wp P a w K Q) : Obl P ops Q W a0 known o φ := by
  intro a w K h1 h2 h3 h4
  have ha := ht a w (h3 t (by unfold Oper.looksAt; rw [hg]; refine List.mem_append_right _ ?_; simp only [hd]; simp))
  have hw : Region.wanted o (yielded ops a.tmps) = true := by
    unfold Region.wanted
    rw [hg]
    simp only [yielded, hd, Option.bind_some]
    have : a.tmps[t]? = some (.bool b) := by
      rw [Array.getD_eq_getD_getElem?] at ha
      cases hx : a.tmps[t]? with
      | none => rw [hx] at ha; cases ha
      | some v => rw [hx] at ha; exact congrArg some ha
    rw [this]
    simp
  rw [if_pos hw]
  exact h a w K h1 h2 (fun t ht => h3 t (by unfold Oper.looksAt; exact List.mem_append_left _ ht)) h4
/-- An operation under a guard that does not want it. -/
theorem Obl.passed {P : Program} {ops : Array Oper} {Q : Exit → Act → World → Prop} {W : World} {a0 : Act} {known : List (Tmp × Fact)} {o : Oper} {i : Nat} {b : Bool} {t : Tmp} (hg : o.guard = some (i, b)) (hd : (ops[i]?).bind (·.dst) = some t)
    (ht : ∀ (a : Act) (w : World), slotFact a0 known a w t → a.tmps.getD t undef ≠ .bool b) : Obl P ops Q W a0 known o (fun v _ => v = undef) := by
  intro a w K h1 h2 h3 h4
  have ha := ht a w (h3 t (by unfold Oper.looksAt; rw [hg]; refine List.mem_append_right _ ?_; simp only [hd]; simp))
  have hw : ¬ Region.wanted o (yielded ops a.tmps) = true := by
    unfold Region.wanted
    rw [hg]
    simp only [yielded, hd, Option.bind_some]
    intro h
    apply ha
    rw [Array.getD_eq_getD_getElem?]
    cases hx : a.tmps[t]? with
    | none => rw [hx] at h; simp at h
    | some v =>
      rw [hx] at h
      cases v <;> simp at h
      rw [h]
      rfl
  rw [if_neg hw]
  exact h4 _ _ (Below.refl _ _) rfl

end Go.Proofs.Ytjkgpkgbaapdmaa
