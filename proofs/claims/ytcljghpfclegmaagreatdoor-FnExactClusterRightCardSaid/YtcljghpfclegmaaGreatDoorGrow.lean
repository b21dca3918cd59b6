/-
  A statement that leaves its order open, whose operations read, lay new blocks or call what lays new blocks, and whose last one may write: each operation is looked at once, in whatever world it comes up.
-/
import Derived.Test.YtcljghpfclegmaaGreatDoorKinds
namespace Go.Proofs.YtcljghpfclegmaaGreatDoor
open Go.RowKit

/-- What is known of a slot in a world; it stays so while the world grows. -/
abbrev Fact := Value → World → Prop
def Fact.Mono (φ : Fact) : Prop := ∀ v w w', φ v w → Below w.heap.size w w' → φ v w'
theorem Fact.mono_eq (c : Value) : Fact.Mono (fun v _ => v = c) := fun _ _ _ h _ => h

def slotFact (a0 : Act) (known : List (Tmp × Fact)) (a : Act) (w : World) (t : Tmp) : Prop :=
  match known.lookup t with
  | some φ => φ (a.tmps.getD t undef) w
  | none => a.tmps.getD t undef = a0.tmps.getD t undef

/-- One operation, in whatever world it comes up. -/
def Obl (P : Program) (ops : Array Oper) (Q : Exit → Act → World → Prop) (W : World) (a0 : Act) (known : List (Tmp × Fact)) (o : Oper) (φ : Fact) : Prop :=
  ∀ (a : Act) (w : World) (K : Act → World → Prop), a.tmps.size = a0.tmps.size → Below W.heap.size W w → (∀ t ∈ o.looksAt ops, slotFact a0 known a w t) →
    (∀ v w', Below w.heap.size w w' → φ v w' → K (a.put o.dst v) w') → if Region.wanted o (yielded ops a.tmps) = true then o.wp P a w K Q else K (a.put o.dst undef) w

/-- The slots that an operation without a guard looks at. -/
def looksOf (o : Oper) : List Tmp := o.op.operands.toList.filterMap fun | .tmp t => some t | _ => none
theorem Obl.plain {P : Program} {ops : Array Oper} {Q : Exit → Act → World → Prop} {W : World} {a0 : Act} {known : List (Tmp × Fact)} {o : Oper} {φ : Fact} (hg : o.guard = none)
    (h : ∀ (a : Act) (w : World) (K : Act → World → Prop), a.tmps.size = a0.tmps.size → Below W.heap.size W w → (∀ t ∈ looksOf o, slotFact a0 known a w t) → (∀ v w', Below w.heap.size w w' → φ v w' → K (a.put o.dst v) w') → o.wp P a w K Q) : Obl P ops Q W a0 known o φ := by
  intro a w K h1 h2 h3 h4
  have hw : Region.wanted o (yielded ops a.tmps) = true := by simp [Region.wanted, hg]
  rw [if_pos hw]
  exact h a w K h1 h2 (fun t ht => h3 t (by unfold Oper.looksAt; exact List.mem_append_left _ ht)) h4

/-- The last operation, if there is one that waits for all. -/
def lastStep (P : Program) (ops : Array Oper) (Q : Exit → Act → World → Prop) (back : Option Oper) (a : Act) (w : World) : Prop :=
  match back with
  | none => Q .normal a w
  | some o => ∀ K : Act → World → Prop, (∀ a w, Q .normal a w → K a w) → if Region.wanted o (yielded ops a.tmps) = true then o.wp P a w K Q else K (a.put o.dst undef) w

/-- The slots that were written, with these values. -/
def putsAll (a0 : Act) (known : List (Tmp × Fact)) (x : Tmp → Value) : Act := known.foldr (fun p b => b.put (some p.1) (x p.1)) a0
def Fin (P : Program) (ops : Array Oper) (Q : Exit → Act → World → Prop) (W : World) (a0 : Act) (back : Option Oper) (known : List (Tmp × Fact)) : Prop :=
  ∀ (x : Tmp → Value) (w : World), Below W.heap.size W w → (∀ p ∈ known, p.2 (x p.1) w) → lastStep P ops Q back (putsAll a0 known x) w

def kn (d : Option Tmp) (φ : Fact) (known : List (Tmp × Fact)) : List (Tmp × Fact) := match d with | some t => (t, φ) :: known | none => known

/-- The operations one by one, each with what it yields. -/
def Grow (P : Program) (ops : Array Oper) (Q : Exit → Act → World → Prop) (W : World) (a0 : Act) (back : Option Oper) : List Oper → List (Tmp × Fact) → Prop
  | [], known => Fin P ops Q W a0 back known
  | o :: rest, known => ∃ φ : Fact, φ.Mono ∧ Obl P ops Q W a0 known o φ ∧ Grow P ops Q W a0 back rest (kn o.dst φ known)
theorem Grow.step {P : Program} {ops : Array Oper} {Q : Exit → Act → World → Prop} {W : World} {a0 : Act} {back : Option Oper} {o : Oper} {rest : List Oper} {known : List (Tmp × Fact)} {t : Tmp} (φ : Fact) (hd : o.dst = some t) (hφ : φ.Mono) (ho : Obl P ops Q W a0 known o φ)
    (h : Grow P ops Q W a0 back rest ((t, φ) :: known)) : Grow P ops Q W a0 back (o :: rest) known := ⟨φ, hφ, ho, by rw [hd]; exact h⟩
theorem Grow.stepC {P : Program} {ops : Array Oper} {Q : Exit → Act → World → Prop} {W : World} {a0 : Act} {back : Option Oper} {o : Oper} {rest : List Oper} {known : List (Tmp × Fact)} {t : Tmp} (c : Value) (hd : o.dst = some t) (ho : Obl P ops Q W a0 known o (fun v _ => v = c))
    (h : Grow P ops Q W a0 back rest ((t, fun v _ => v = c) :: known)) : Grow P ops Q W a0 back (o :: rest) known := Grow.step _ hd (Fact.mono_eq c) ho h
theorem Grow.done {P : Program} {ops : Array Oper} {Q : Exit → Act → World → Prop} {W : World} {a0 : Act} {back : Option Oper} {known : List (Tmp × Fact)} (h : Fin P ops Q W a0 back known) : Grow P ops Q W a0 back [] known := h

/-- The form that is asked of the operations. -/
def growB (n : Nat) (front : List Oper) (back : Option Oper) : Bool :=
  let ops := (front ++ back.toList).toArray
  decide ((front.filterMap (·.dst)).Nodup) && front.all (fun o => match o.dst with | some t => decide (t < n) | none => true) &&
  (List.range front.length).all (fun j => match front[j]? with
    | some o => (o.looksAt ops).all (fun t => (List.range front.length).all fun i => match front[i]? with
        | some p => p.dst != some t || (decide (i < j) && o.after.any fun e => e.on == i && Region.binds .any e)
        | none => true)
    | none => true) &&
  (List.range ops.size).all (fun j => match ops[j]? with | some o => o.after.all (fun e => decide (e.on < j)) | none => true) &&
  (match back with | some o => (List.range front.length).all (fun i => o.after.any fun e => e.on == i && Region.binds .any e) | none => true)

/-! Why it serves every order. -/
section
variable {P : Program} {ops : Array Oper} {Q : Exit → Act → World → Prop} {W : World} {a0 : Act} {back : Option Oper}

def knAll : List (Tmp × Fact) → List Oper → List Fact → List (Tmp × Fact)
  | known, o :: l, φ :: φs => knAll (kn o.dst φ known) l φs
  | known, _, _ => known
theorem knAll_nil (known : List (Tmp × Fact)) (φs : List Fact) : knAll known [] φs = known := by cases φs <;> rfl

theorem Grow.spec : ∀ (l : List Oper) (known : List (Tmp × Fact)), Grow P ops Q W a0 back l known → ∃ φs : List Fact, φs.length = l.length ∧
    (∀ (i : Nat) (o : Oper) (φ : Fact), l[i]? = some o → φs[i]? = some φ → φ.Mono ∧ Obl P ops Q W a0 (knAll known (l.take i) (φs.take i)) o φ) ∧ Fin P ops Q W a0 back (knAll known l φs)
  | [], known, h => ⟨[], rfl, fun i o φ h => by simp at h, by rw [knAll_nil]; exact h⟩
  | o :: l, known, h => by
    obtain ⟨φ, hφ, ho, hr⟩ := h
    obtain ⟨φs, hl, hs, hf⟩ := Grow.spec l _ hr
    refine ⟨φ :: φs, by simp [hl], ?_, hf⟩
    intro i o' φ' h1 h2
    cases i with
    | zero =>
      simp only [List.getElem?_cons_zero, Option.some.injEq] at h1 h2
      subst h1; subst h2
      exact ⟨hφ, ho⟩
    | succ i =>
      simp only [List.getElem?_cons_succ] at h1 h2
      simpa [knAll] using hs i o' φ' h1 h2

theorem lookup_kn (d : Option Tmp) (φ : Fact) (known : List (Tmp × Fact)) (t : Tmp) : (kn d φ known).lookup t = if d = some t then some φ else known.lookup t := by
  cases d with
  | none => simp [kn]
  | some d =>
    simp only [kn, Option.some.injEq, List.lookup_cons]
    by_cases h : d = t
    · subst h; simp
    · rw [if_neg h]
      have : (t == d) = false := by simpa using fun e => h e.symm
      rw [this]

theorem lookup_some : ∀ (l : List Oper) (φs : List Fact) (known : List (Tmp × Fact)) {t : Tmp} {φ : Fact}, (knAll known l φs).lookup t = some φ →
    (∃ (i : Nat) (o : Oper), l[i]? = some o ∧ o.dst = some t ∧ φs[i]? = some φ) ∨ known.lookup t = some φ
  | [], φs, known, t, φ, h => by rw [knAll_nil] at h; exact .inr h
  | o :: l, [], known, t, φ, h => .inr h
  | o :: l, ψ :: φs, known, t, φ, h => by
    rcases lookup_some l φs (kn o.dst ψ known) h with ⟨i, o', h1, h2, h3⟩ | h
    · exact .inl ⟨i + 1, o', by simpa using h1, h2, by simpa using h3⟩
    · rw [lookup_kn] at h
      by_cases hd : o.dst = some t
      · rw [if_pos hd] at h
        exact .inl ⟨0, o, rfl, hd, by simpa using h⟩
      · rw [if_neg hd] at h
        exact .inr h
theorem lookup_none : ∀ (l : List Oper) (φs : List Fact) (known : List (Tmp × Fact)) {t : Tmp}, (knAll known l φs).lookup t = none →
    known.lookup t = none ∧ ∀ (i : Nat) (o : Oper) (φ : Fact), l[i]? = some o → φs[i]? = some φ → o.dst ≠ some t
  | [], φs, known, t, h => by rw [knAll_nil] at h; exact ⟨h, fun i o φ h => by simp at h⟩
  | o :: l, [], known, t, h => ⟨h, fun i o φ _ h => by simp at h⟩
  | o :: l, ψ :: φs, known, t, h => by
    obtain ⟨h1, h2⟩ := lookup_none l φs (kn o.dst ψ known) h
    rw [lookup_kn] at h1
    by_cases hd : o.dst = some t
    · rw [if_pos hd] at h1; cases h1
    · rw [if_neg hd] at h1
      refine ⟨h1, fun i o' φ h3 h4 => ?_⟩
      cases i with
      | zero => simp only [List.getElem?_cons_zero, Option.some.injEq] at h3; subst h3; exact hd
      | succ i => exact h2 i o' φ (by simpa using h3) (by simpa using h4)
theorem mem_knAll : ∀ (l : List Oper) (φs : List Fact) (known : List (Tmp × Fact)) {p : Tmp × Fact}, p ∈ knAll known l φs →
    (∃ (i : Nat) (o : Oper), l[i]? = some o ∧ o.dst = some p.1 ∧ φs[i]? = some p.2) ∨ p ∈ known
  | [], φs, known, p, h => by rw [knAll_nil] at h; exact .inr h
  | o :: l, [], known, p, h => .inr h
  | o :: l, ψ :: φs, known, p, h => by
    rcases mem_knAll l φs (kn o.dst ψ known) h with ⟨i, o', h1, h2, h3⟩ | h
    · exact .inl ⟨i + 1, o', by simpa using h1, h2, by simpa using h3⟩
    · cases hd : o.dst with
      | none => rw [hd] at h; exact .inr h
      | some d =>
        rw [hd] at h
        simp only [kn, List.mem_cons] at h
        rcases h with rfl | h
        · exact .inl ⟨0, o, rfl, hd, rfl⟩
        · exact .inr h

theorem getD_put (a : Act) (d t : Tmp) (v : Value) : (a.put (some d) v).tmps.getD t undef = if d = t ∧ t < a.tmps.size then v else a.tmps.getD t undef := by
  simp only [Act.put, Array.getD_eq_getD_getElem?, Array.getElem?_setIfInBounds]
  by_cases h : d = t
  · subst h
    by_cases h2 : d < a.tmps.size
    · simp [h2]
    · simp [h2]
  · simp [h]
theorem size_put (a : Act) (d : Option Tmp) (v : Value) : (a.put d v).tmps.size = a.tmps.size := by cases d <;> simp [Act.put]
theorem defers_put (a : Act) (d : Option Tmp) (v : Value) : (a.put d v).defers = a.defers := by cases d <;> simp [Act.put]
theorem putsAll_size (a0 : Act) (x : Tmp → Value) : ∀ known, (putsAll a0 known x).tmps.size = a0.tmps.size
  | [] => rfl
  | p :: l => by unfold putsAll; rw [List.foldr_cons, size_put]; exact putsAll_size a0 x l
theorem putsAll_defers (a0 : Act) (x : Tmp → Value) : ∀ known, (putsAll a0 known x).defers = a0.defers
  | [] => rfl
  | p :: l => by unfold putsAll; rw [List.foldr_cons, defers_put]; exact putsAll_defers a0 x l
theorem putsAll_getD (a0 a : Act) (known : List (Tmp × Fact)) (hk : ∀ p ∈ known, p.1 < a0.tmps.size) (t : Tmp) (h : (∀ p ∈ known, p.1 ≠ t) → a.tmps.getD t undef = a0.tmps.getD t undef) :
    (putsAll a0 known (fun t => a.tmps.getD t undef)).tmps.getD t undef = a.tmps.getD t undef := by
  induction known with
  | nil => exact (h (fun p hp => by simp at hp)).symm
  | cons p l ih =>
    have e : putsAll a0 (p :: l) (fun t => a.tmps.getD t undef) = (putsAll a0 l (fun t => a.tmps.getD t undef)).put (some p.1) (a.tmps.getD p.1 undef) := rfl
    rw [e, getD_put, putsAll_size]
    by_cases hp : p.1 = t
    · subst hp
      rw [if_pos ⟨rfl, hk p (by simp)⟩]
    · rw [if_neg (fun h => hp h.1)]
      exact ih (fun q hq => hk q (by simp [hq])) (fun hn => h (fun q hq => by
        rcases List.mem_cons.1 hq with rfl | hq
        · exact hp
        · exact hn q hq))
theorem act_ext {a b : Act} (hs : a.tmps.size = b.tmps.size) (hd : a.defers = b.defers) (h : ∀ t, a.tmps.getD t undef = b.tmps.getD t undef) : a = b := by
  cases a with | mk at_ ad => cases b with | mk bt bd =>
  simp only at hs hd h
  subst hd
  congr 1
  apply Array.ext hs
  intro i h1 h2
  have := h i
  simpa [Array.getD, h1, h2] using this

theorem getD_ft {l : Array Bool} {i : Nat} (h : i < l.size) : l.getD i false = l.getD i true := by simp [Array.getD, h]

/-- What holds at each point of each order. -/
structure At (front : List Oper) (φs : List Fact) (W : World) (a0 : Act) (listed : Array Bool) (a : Act) (w : World) : Prop where
  size : a.tmps.size = a0.tmps.size
  defers : a.defers = a0.defers
  below : Below W.heap.size W w
  known : ∀ (i : Nat) (o : Oper) (φ : Fact), front[i]? = some o → φs[i]? = some φ → ∀ t, o.dst = some t → listed.getD i false = true → φ (a.tmps.getD t undef) w
  other : ∀ t, (∀ (i : Nat) (o : Oper), front[i]? = some o → o.dst = some t → listed.getD i false = false) → a.tmps.getD t undef = a0.tmps.getD t undef

theorem nodup_dst : ∀ (l : List Oper), (l.filterMap (·.dst)).Nodup → ∀ {i j : Nat} {o p : Oper} {t : Tmp}, l[i]? = some o → l[j]? = some p → o.dst = some t → p.dst = some t → i = j
  | [], _, i, j, o, p, t, h, _, _, _ => by simp at h
  | q :: l, hn, i, j, o, p, t, h1, h2, h3, h4 => by
    have hmem : ∀ {k : Nat} {r : Oper}, l[k]? = some r → r.dst = some t → t ∈ l.filterMap (·.dst) := fun h h' => List.mem_filterMap.2 ⟨_, List.mem_of_getElem? h, h'⟩
    have hn' : (l.filterMap (·.dst)).Nodup := by
      rw [List.filterMap_cons] at hn
      split at hn
      · exact hn
      · exact (List.nodup_cons.1 hn).2
    cases i with
    | zero =>
      simp only [List.getElem?_cons_zero, Option.some.injEq] at h1
      subst h1
      cases j with
      | zero => rfl
      | succ j =>
        simp only [List.getElem?_cons_succ] at h2
        rw [List.filterMap_cons, h3] at hn
        exact absurd (hmem h2 h4) (List.nodup_cons.1 hn).1
    | succ i =>
      simp only [List.getElem?_cons_succ] at h1
      cases j with
      | zero =>
        simp only [List.getElem?_cons_zero, Option.some.injEq] at h2
        subst h2
        rw [List.filterMap_cons, h4] at hn
        exact absurd (hmem h1 h3) (List.nodup_cons.1 hn).1
      | succ j =>
        simp only [List.getElem?_cons_succ] at h2
        rw [nodup_dst l hn' h1 h2 h3 h4]

theorem At.step {front : List Oper} {φs : List Fact} {listed : Array Bool} {a : Act} {w w' : World} {j : Nat} {o : Oper} {φ : Fact} {v : Value} (h : At front φs W a0 listed a w)
    (hn : (front.filterMap (·.dst)).Nodup) (hin : ∀ o ∈ front, ∀ t, o.dst = some t → t < a0.tmps.size) (hmono : ∀ (i : Nat) (o : Oper) (φ : Fact), front[i]? = some o → φs[i]? = some φ → φ.Mono)
    (ho : front[j]? = some o) (hφ : φs[j]? = some φ) (hj : j < listed.size) (hb : Below w.heap.size w w') (hv : φ v w') : At front φs W a0 (listed.setIfInBounds j true) (a.put o.dst v) w' := by
  refine ⟨(size_put _ _ _).trans h.size, (defers_put _ _ _).trans h.defers, h.below.trans (hb.mono h.below.size), ?_, ?_⟩
  · intro i p ψ hp hψ t ht hl
    by_cases e : j = i
    · subst e
      obtain rfl : o = p := Option.some.inj (ho.symm.trans hp)
      obtain rfl : φ = ψ := Option.some.inj (hφ.symm.trans hψ)
      rw [ht, getD_put, if_pos ⟨rfl, by rw [h.size]; exact hin o (List.mem_of_getElem? ho) t ht⟩]
      exact hv
    · have hl' : listed.getD i false = true := by
        simpa [Array.getD_eq_getD_getElem?, Array.getElem?_setIfInBounds, e] using hl
      have h1 := hmono i p ψ hp hψ _ _ _ (h.known i p ψ hp hψ t ht hl') hb
      cases hd : o.dst with
      | none => exact h1
      | some d =>
        rw [getD_put, if_neg (fun hx => e (nodup_dst front hn ho hp (hd.trans (by rw [hx.1])) ht))]
        exact h1
  · intro t ht
    have hne : o.dst ≠ some t := fun hd => by
      have := ht j o ho hd
      simp [Array.getD_eq_getD_getElem?, hj] at this
    have h1 := h.other t (fun i p hp hd => by
      have h2 := ht i p hp hd
      have e : ¬ j = i := fun e => by subst e; exact hne (by rw [Option.some.inj (ho.symm.trans hp)]; exact hd)
      simpa [Array.getD_eq_getD_getElem?, Array.getElem?_setIfInBounds, e] using h2)
    cases hd : o.dst with
    | none => exact h1
    | some d =>
      rw [getD_put, if_neg (fun hx => hne (hd.trans (by rw [hx.1])))]
      exact h1

theorem growB_spec {n : Nat} {front : List Oper} {back : Option Oper} (h : growB n front back = true) :
    (front.filterMap (·.dst)).Nodup ∧ (∀ o ∈ front, ∀ t, o.dst = some t → t < n) ∧
    (∀ (j : Nat) (o : Oper), front[j]? = some o → ∀ t ∈ o.looksAt (front ++ back.toList).toArray, ∀ (i : Nat) (p : Oper), front[i]? = some p → p.dst = some t → i < j ∧ ∃ e ∈ o.after, e.on = i ∧ Region.binds .any e = true) ∧
    (∀ (j : Nat) o, (front ++ back.toList).toArray[j]? = some o → ∀ e ∈ o.after, e.on < j) ∧
    (∀ o, back = some o → ∀ i, i < front.length → ∃ e ∈ o.after, e.on = i ∧ Region.binds .any e = true) := by
  unfold growB at h
  simp only [Bool.and_eq_true, decide_eq_true_eq] at h
  obtain ⟨⟨⟨⟨h1, h2⟩, h3⟩, h4⟩, h5⟩ := h
  refine ⟨h1, ?_, ?_, ?_, ?_⟩
  · intro o ho t ht
    have := List.all_eq_true.1 h2 o ho
    rw [ht] at this
    simpa using this
  · intro j o ho t ht i p hp hd
    have hj : j < front.length := (List.getElem?_eq_some_iff.1 ho).1
    have hi : i < front.length := (List.getElem?_eq_some_iff.1 hp).1
    have := List.all_eq_true.1 h3 j (List.mem_range.2 hj)
    rw [ho] at this
    have := List.all_eq_true.1 this t ht
    have := List.all_eq_true.1 this i (List.mem_range.2 hi)
    rw [hp] at this
    simp only [hd, bne_self_eq_false, Bool.false_or, Bool.and_eq_true, decide_eq_true_eq] at this
    obtain ⟨h6, h7⟩ := this
    obtain ⟨k, hk, hx⟩ := Array.any_eq_true.1 h7
    simp only [Bool.and_eq_true, beq_iff_eq] at hx
    exact ⟨h6, _, Array.getElem_mem hk, hx.1, hx.2⟩
  · intro j o ho e he
    have hj : j < (front ++ back.toList).toArray.size := (Array.getElem?_eq_some_iff.1 ho).1
    have := List.all_eq_true.1 h4 j (List.mem_range.2 hj)
    rw [ho] at this
    have := Array.all_eq_true.1 this
    obtain ⟨k, hk, rfl⟩ := Array.mem_iff_getElem.1 he
    simpa using this k hk
  · intro o ho i hi
    subst ho
    have := List.all_eq_true.1 h5 i (List.mem_range.2 hi)
    obtain ⟨k, hk, hx⟩ := Array.any_eq_true.1 this
    simp only [Bool.and_eq_true, beq_iff_eq] at hx
    exact ⟨_, Array.getElem_mem hk, hx.1, hx.2⟩

theorem all_listed {listed : Array Bool} (hs : listed.size = ops.size) (hlt : ∀ (j : Nat) o, ops[j]? = some o → ∀ e ∈ o.after, e.on < j) (hr : Region.ready .any ops listed = []) : ∀ i, i < ops.size → listed.getD i false = true := by
  intro i
  induction i using Nat.strongRecOn with
  | _ i ih =>
    intro hi
    cases hb : listed.getD i false with
    | true => rfl
    | false =>
      have ho : ops[i]? = some ops[i] := Array.getElem?_eq_getElem hi
      have hm : i ∈ Region.ready .any ops listed := mem_ready.2 ⟨by rw [← getD_ft (by omega)]; exact hb, _, ho, fun e he _ => ih e.on (hlt i _ ho e he) (Nat.lt_trans (hlt i _ ho e he) hi)⟩
      rw [hr] at hm
      cases hm

theorem no_false {listed : Array Bool} (h : listed.toList.count false = 0) (i : Nat) (hi : i < listed.size) : listed.getD i false = true := by
  have hm : listed[i] ∈ listed.toList := by simp
  cases hb : listed[i] with
  | true => simp [Array.getD, hi, hb]
  | false =>
    rw [hb] at hm
    exact absurd (List.count_pos_iff.2 hm) (by omega)
theorem count_set {listed : Array Bool} {i : Nat} (hi : i < listed.size) (hf : listed.getD i true = false) : (listed.setIfInBounds i true).toList.count false + 1 = listed.toList.count false := by
  have hb : listed[i] = false := by simpa [Array.getD, hi] using hf
  have hm : false ∈ listed.toList := by rw [← hb]; simp
  have hp := List.count_pos_iff.2 hm
  rw [Array.toList_setIfInBounds, List.count_set (by simpa using hi)]
  rw [Array.getElem_toList, hb]
  simp only [beq_self_eq_true, if_true, show (true == false) = false from rfl, Bool.false_eq_true, if_false]
  omega

theorem Fin.last {front : List Oper} {φs : List Fact} {listed : Array Bool} {a : Act} {w : World} (hf : Fin P ops Q W a0 back (knAll [] front φs)) (hlen : φs.length = front.length) (hin : ∀ o ∈ front, ∀ t, o.dst = some t → t < a0.tmps.size)
    (h : At front φs W a0 listed a w) (hall : ∀ i, i < front.length → listed.getD i false = true) : lastStep P ops Q back a w := by
  have h1 := hf (fun t => a.tmps.getD t undef) w h.below (fun p hp => by
    rcases mem_knAll front φs [] hp with ⟨i, o, h1, h2, h3⟩ | h1
    · exact h.known i o p.2 h1 h3 p.1 h2 (hall i (List.getElem?_eq_some_iff.1 h1).1)
    · simp at h1)
  have e : putsAll a0 (knAll [] front φs) (fun t => a.tmps.getD t undef) = a := by
    refine act_ext ((putsAll_size _ _ _).trans h.size.symm) ((putsAll_defers _ _ _).trans h.defers.symm) (fun t => putsAll_getD a0 a _ (fun p hp => ?_) t (fun hn => ?_))
    · rcases mem_knAll front φs [] hp with ⟨i, o, h1, h2, h3⟩ | h1
      · exact hin o (List.mem_of_getElem? h1) _ h2
      · simp at h1
    · refine h.other t (fun i o ho hd => ?_)
      exfalso
      have hi := (List.getElem?_eq_some_iff.1 ho).1
      have hφ : φs[i]? = some (φs[i]'(by omega)) := List.getElem?_eq_getElem _
      cases hk : (knAll [] front φs).lookup t with
      | none => exact (lookup_none front φs [] hk).2 i o _ ho hφ hd
      | some φ =>
        have : ∃ p ∈ knAll [] front φs, p.1 = t := by
          revert hk
          generalize knAll [] front φs = l
          intro hk
          induction l with
          | nil => simp at hk
          | cons p l ih =>
            rw [List.lookup_cons] at hk
            cases hb : t == p.1 with
            | true => exact ⟨p, by simp, (by simpa using hb : t = p.1).symm⟩
            | false =>
              rw [hb] at hk
              obtain ⟨q, hq, he⟩ := ih hk
              exact ⟨q, by simp [hq], he⟩
        obtain ⟨p, hp, he⟩ := this
        exact hn p hp he
  rw [e] at h1
  exact h1

theorem wpAny_grow {front : List Oper} {φs : List Fact} (hops : ops = (front ++ back.toList).toArray) (hB : growB a0.tmps.size front back = true) (hlen : φs.length = front.length)
    (hs : ∀ (i : Nat) (o : Oper) (φ : Fact), front[i]? = some o → φs[i]? = some φ → φ.Mono ∧ Obl P ops Q W a0 (knAll [] (front.take i) (φs.take i)) o φ) (hf : Fin P ops Q W a0 back (knAll [] front φs)) :
    ∀ (fuel : Nat) (listed : Array Bool) (a : Act) (w : World), listed.size = ops.size → listed.toList.count false ≤ fuel → (∀ o, back = some o → listed.getD front.length false = false) → At front φs W a0 listed a w → wpAny P .any ops Q fuel listed a w := by
  obtain ⟨hn, hin, hdep, hlt, hback⟩ := growB_spec hB
  rw [← hops] at hdep hlt
  have hsz : ops.size = front.length + back.toList.length := by rw [hops]; simp
  -- all have come up
  have hend : ∀ (listed : Array Bool) (a : Act) (w : World), listed.size = ops.size → (∀ i, i < ops.size → listed.getD i false = true) → (∀ o, back = some o → listed.getD front.length false = false) → At front φs W a0 listed a w → Q .normal a w := by
    intro listed a w hz hall hb h
    have h1 := hf.last hlen hin h (fun i hi => hall i (by omega))
    cases hk : back with
    | none => rw [hk] at h1; exact h1
    | some o =>
      have h2 := hb o hk
      rw [hall _ (by rw [hsz, hk]; simp)] at h2
      cases h2
  intro fuel
  induction fuel with
  | zero =>
    intro listed a w hz hc hb h
    have hall : ∀ i, i < ops.size → listed.getD i false = true := fun i hi => no_false (by omega) i (by omega)
    refine ⟨?_, hend listed a w hz hall hb h⟩
    cases hr : Region.ready .any ops listed with
    | nil => rfl
    | cons j js =>
      have hm : j ∈ Region.ready .any ops listed := by rw [hr]; simp
      obtain ⟨h1, o, ho, -⟩ := mem_ready.1 hm
      have hj := (Array.getElem?_eq_some_iff.1 ho).1
      rw [← getD_ft (by omega), hall j hj] at h1
      cases h1
  | succ fuel ih =>
    intro listed a w hz hc hb h
    refine ⟨fun hr => hend listed a w hz (all_listed hz hlt hr) hb h, fun j hj => ?_⟩
    obtain ⟨hun, o, ho, hall⟩ := mem_ready.1 hj
    have hjs : j < ops.size := (Array.getElem?_eq_some_iff.1 ho).1
    have hcs := count_set (listed := listed) (i := j) (by omega) hun
    by_cases hjf : j < front.length
    · have hof : front[j]? = some o := by rw [hops] at ho; simpa [List.getElem?_append_left hjf] using ho
      have hφ : φs[j]? = some (φs[j]'(by omega)) := List.getElem?_eq_getElem _
      obtain ⟨hm, hob⟩ := hs j o _ hof hφ
      have hfacts : ∀ t ∈ o.looksAt ops, slotFact a0 (knAll [] (front.take j) (φs.take j)) a w t := by
        intro t ht
        unfold slotFact
        cases hk : (knAll [] (front.take j) (φs.take j)).lookup t with
        | some φ =>
          rcases lookup_some _ _ _ hk with ⟨i, p, h1, h2, h3⟩ | h1
          · have hij : i < j := by have := (List.getElem?_eq_some_iff.1 h1).1; simp at this; omega
            rw [List.getElem?_take, if_pos hij] at h1 h3
            obtain ⟨-, e, he, hon, hbi⟩ := hdep j o hof t ht i p h1 h2
            have hl := hall e he hbi
            rw [hon] at hl
            exact h.known i p φ h1 h3 t h2 hl
          · simp at h1
        | none =>
          refine h.other t (fun i p hp hd => ?_)
          exfalso
          obtain ⟨hij, -⟩ := hdep j o hof t ht i p hp hd
          have hi := (List.getElem?_eq_some_iff.1 hp).1
          exact (lookup_none _ _ _ hk).2 i p (φs[i]'(by omega)) (by rw [List.getElem?_take, if_pos hij]; exact hp) (by rw [List.getElem?_take, if_pos hij]; exact List.getElem?_eq_getElem _) hd
      have h1 := hob a w (wpAny P .any ops Q fuel (listed.setIfInBounds j true)) h.size h.below hfacts (fun v w' hbw hv => by
        refine ih _ _ _ (by simpa using hz) (by omega) (fun o' ho' => ?_) (h.step hn hin (fun i o φ h1 h2 => (hs i o φ h1 h2).1) hof hφ (by omega) hbw hv)
        have h2 := hb o' ho'
        have e : ¬ j = front.length := by omega
        simpa [Array.getD_eq_getD_getElem?, Array.getElem?_setIfInBounds, e] using h2)
      unfold wpOp
      rw [ho]
      simp only
      split
      · rename_i hw
        rw [if_pos hw] at h1
        exact .inl h1
      · rename_i hw
        rw [if_neg hw] at h1
        exact h1
    · cases hk : back with
      | none => rw [hk] at hsz; simp at hsz; omega
      | some b =>
        have hjn : j = front.length := by rw [hk] at hsz; simp at hsz; omega
        subst hjn
        have hob : o = b := by
          rw [hops, hk] at ho
          simp at ho
          exact ho.symm
        subst hob
        have hfl : ∀ i, i < front.length → listed.getD i false = true := fun i hi => by
          obtain ⟨e, he, hon, hbi⟩ := hback o hk i hi
          have := hall e he hbi
          rwa [hon] at this
        have h1 := hf.last hlen hin h hfl
        rw [hk] at h1
        have h2 := h1 (wpAny P .any ops Q fuel (listed.setIfInBounds front.length true)) (fun a' w' hq => by
          have hr : Region.ready .any ops (listed.setIfInBounds front.length true) = [] := by
            cases hr : Region.ready .any ops (listed.setIfInBounds front.length true) with
            | nil => rfl
            | cons i is =>
              have hm : i ∈ Region.ready .any ops (listed.setIfInBounds front.length true) := by rw [hr]; simp
              obtain ⟨h3, o', ho', -⟩ := mem_ready.1 hm
              have hi := (Array.getElem?_eq_some_iff.1 ho').1
              exfalso
              by_cases e : front.length = i
              · subst e
                simp [Array.getD_eq_getD_getElem?, show front.length < listed.size from by omega] at h3
              · have h4 := hfl i (by rw [hk] at hsz; simp at hsz; omega)
                rw [getD_ft (by omega)] at h4
                simp [Array.getD_eq_getD_getElem?, e] at h3 h4
                rw [h3] at h4
                cases h4
          cases fuel with
          | zero => exact ⟨hr, hq⟩
          | succ fuel => exact ⟨fun _ => hq, fun i hi => by rw [hr] at hi; cases hi⟩)
        unfold wpOp
        rw [ho]
        simp only
        split
        · rename_i hw
          rw [if_pos hw] at h2
          exact .inl h2
        · rename_i hw
          rw [if_neg hw] at h2
          exact h2
end

theorem repl_false (n i : Nat) : (Array.replicate n false).getD i false = false := by
  rw [Array.getD_eq_getD_getElem?, Array.getElem?_replicate]
  split <;> rfl
theorem wp_region_grow {P : Program} {id : Nat} {Q : Exit → Act → World → Prop} {a0 : Act} {W : World} {l : List Oper} {front : List Oper} {back : Option Oper} (hm : P.follows .mixedOrders = true) (hl : l = front ++ back.toList) (hB : growB a0.tmps.size front back = true)
    (h : Grow P l.toArray Q W a0 back front []) : (Code.region id l.toArray true).wp P Q a0 W := by
  obtain ⟨φs, hlen, hs, hf⟩ := Grow.spec _ _ h
  refine wp_region_any hm (wpAny_grow (by rw [hl]) hB hlen hs hf _ _ _ _ (by simp) ?_ (fun o ho => ?_) ⟨rfl, rfl, (Below.refl _ _).drew, fun i o φ h1 h2 t ht hx => ?_, fun t _ => rfl⟩)
  · have := List.count_le_length (a := false) (l := (Array.replicate l.toArray.size false).toList)
    simp at this ⊢
  · exact repl_false _ _
  · rw [repl_false] at hx; cases hx
theorem wp_region_grow_last {P : Program} {id : Nat} {Q : Exit → Act → World → Prop} {a0 : Act} {W : World} {l : List Oper} {front : List Oper} {last : Oper} (hm : P.follows .mixedOrders = true) (hf : l.dropLast = front) (hb : l.getLast? = some last) (hB : growB a0.tmps.size front (some last) = true)
    (h : Grow P l.toArray Q W a0 (some last) front []) : (Code.region id l.toArray true).wp P Q a0 W := by
  refine wp_region_grow hm ?_ hB h
  obtain ⟨l', rfl⟩ := List.getLast?_eq_some_iff.1 hb
  rw [← hf]
  simp

end Go.Proofs.YtcljghpfclegmaaGreatDoor
