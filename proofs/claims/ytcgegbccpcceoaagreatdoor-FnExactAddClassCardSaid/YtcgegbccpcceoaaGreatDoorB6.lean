import Derived.Test.YtcgegbccpcceoaaGreatDoorB5
import Derived.Stop.LaidErr
import Derived.ChangeVars
import Derived.Deep.Strs
import Derived.Deep.Fields
import Derived.WideShapes
import Derived.ChangeArms
/-
  The listed words: each variable holds a pointer to a block of its own.
-/
namespace Go.Proofs.YtcgegbccpcceoaaGreatDoor
open Go.RowKit
namespace Rc

theorem wordStar : "*" ++ "errors.errorString" = "*errors.errorString" := by decide
theorem wordRow (u : TypeId) (h : Tryz.prog.typeName? 3 u = some "*errors.errorString") : u = 188 :=
  typeName_ptr_named (nm := "errors.errorString") (by rw [wordStar]; kernel_rfl) (by kernel_rfl) (by decide) u (by rw [wordStar]; exact h)

theorem laid_words {P : Program} {W : World} {nm : String} {ti tp te ts : TypeId} {ms : Array (String × TypeId)} {f : Field} (hi : P.underlying ti = some (.interface ms)) (hrow : ∀ u, P.typeName? 3 u = some nm → u = tp)
    (hp : P.underlying tp = some (.pointer te)) (he : P.underlying te = some (.struct #[f])) (hft : f.type = ts) (hfo : f.offset = 0) (hs : P.underlying ts = some .string) (hc : P.cellsOf te = 1) (hcs : P.cellsOf ts = 1) :
    ∀ (l : List (String × List UInt8)) (ps : List MemPlace), (∀ x ∈ l, ∃ g, P.globalNamed x.1 = some g ∧ (P.globals[g]?).map (·.type) = some ti) →
      DataW.LaidVars P W (l.map fun x => (x.1, .iface nm (.ptr (.agg [.lit (.string x.2)])))) ps → ps.Nodup →
      (∀ b off, MemPlace.cell b off ∈ ps → (∃ c t, W.heap[b]? = some (.cells c t (0, 0))) ∧ ∀ u v, W.cell? ⟨b, off, none⟩ = some (.iface u v) → Value.okWide P W .any 0 u v) →
      ∃ E : Nat → Addr, (∀ (i : Nat) x, l[i]? = some x → W.var? P x.1 = some #[.iface tp (.pointer (some (E i)))] ∧ MemPlace.cell (E i).block (E i).off ∈ ps) ∧ ∀ i j, i < l.length → j < l.length → E i = E j → i = j
  | [], ps, _, _, _, _ => ⟨fun _ => ⟨0, 0, none⟩, fun i x h => by simp at h, fun i j h => by simp at h⟩
  | x :: l, ps, hT, hv, hnd, hrows => by
    obtain ⟨g, t, cs, fuel, p, q, hg, ht, hvar, hd, hq, rfl⟩ := hv
    obtain ⟨g', hg', ht'⟩ := hT x (by simp)
    obtain rfl := Option.some.inj (hg.symm.trans hg')
    obtain rfl := Option.some.inj (ht.symm.trans ht')
    have hsub : ∀ {y}, y ∈ q → y ∈ MemPlace.row ⟨g, 0, none⟩ cs.size ++ p ++ q := fun h => List.mem_append_right _ h
    obtain ⟨E, hE1, hE2⟩ := laid_words hi hrow hp he hft hfo hs hc hcs l q (fun y hy => hT y (by simp [hy])) hq (List.Nodup.sublist (List.sublist_append_right _ _) hnd) (fun b off hm => hrows b off (hsub hm))
    obtain ⟨l0⟩ := cs
    have ok0 : ∀ u v, l0 = [.iface u v] → Value.okWide P W .any 0 u v := fun u v e => by
      subst e
      exact (hrows g 0 (by simp [MemPlace.row])).2 u v (by simpa using World.var?_cell hg hvar 0)
    obtain ⟨a0, s0, rfl, hc0, hs0, hz0, rfl⟩ := errorString_of_trod hi hrow hp he hft hfo hs hc hcs hd ok0
    have ha : MemPlace.cell a0.block a0.off ∈ MemPlace.row a0 1 := by simp [MemPlace.row]
    have hdis : ∀ i, i < l.length → ¬ E i = a0 := fun i hi' e => by
      have h1 := (hE1 i _ (List.getElem?_eq_getElem hi')).2
      rw [e] at h1
      have h2 := (List.nodup_append.1 hnd).2.2 _ (List.mem_append_right _ ha) _ h1
      exact h2 rfl
    refine ⟨fun i => match i with | 0 => a0 | i + 1 => E i, fun i y hy => ?_, fun i j hi' hj' e => ?_⟩
    · cases i with
      | zero =>
        obtain rfl : x = y := by simpa using hy
        exact ⟨hvar, List.mem_append_left _ (List.mem_append_right _ ha)⟩
      | succ i =>
        obtain ⟨h1, h2⟩ := hE1 i y (by simpa using hy)
        exact ⟨h1, hsub h2⟩
    · cases i with
      | zero => cases j with
        | zero => rfl
        | succ j => exact absurd e.symm (hdis j (by simpa using hj'))
      | succ i => cases j with
        | zero => exact absurd e (hdis i (by simpa using hi'))
        | succ j => rw [hE2 i j (by simpa using hi') (by simpa using hj') e]

theorem vars_length {H : Type} {enc : TypeId × Value → H} {P : Program} {w : World} {sp : Nat → Bool} : ∀ (ns : List String) (gs : List (DataW H)) (ps : List MemPlace), DataW.TrodVars enc P w sp ns gs ps → gs.length = ns.length
  | [], [], _, _ => rfl
  | [], _ :: _, _, h => h.elim
  | _ :: _, [], _, h => h.elim
  | _ :: ns, _ :: gs, _, h => by
    obtain ⟨_, _, _, _, _, q, _, _, _, _, h1, _⟩ := h
    simp [vars_length ns gs q h1]
theorem len10 {α : Type} : ∀ {l : List α}, l.length = 10 → ∃ a b c d e f g h i j, l = [a, b, c, d, e, f, g, h, i, j]
  | [a, b, c, d, e, f, g, h, i, j], _ => ⟨a, b, c, d, e, f, g, h, i, j, rfl⟩

end Rc
end Go.Proofs.YtcgegbccpcceoaaGreatDoor

namespace Go.Proofs.YtcgegbccpcceoaaGreatDoor
open Go.RowKit Go.ChangeShapes Go.WideShapes Go.Deep

theorem list4 {α : Type} {l : List α} (h : l.length = 4) : ∃ x0 x1 x2 x3, l = [x0, x1, x2, x3] := by
  match l, h with
  | [x0, x1, x2, x3], _ => exact ⟨_, _, _, _, rfl⟩
theorem list6 {α : Type} {l : List α} (h : l.length = 6) : ∃ x0 x1 x2 x3 x4 x5, l = [x0, x1, x2, x3, x4, x5] := by
  match l, h with
  | [x0, x1, x2, x3, x4, x5], _ => exact ⟨_, _, _, _, _, _, rfl⟩
section
variable {H : Type} {enc : TypeId × Value → H} {P : Program} {w : World} {base : Nat} {spare : Nat → Bool} {held : Bool}

theorem open_aggN {r : Reach} {b0 : Nat} {t : TypeId} {fs : Array Field} {v : Value} {d : DataW H} {p : List MemPlace} (hs : P.underlying t = some (.struct fs)) (hone : oneCellFields P fs = true) (hC : P.cellsOf t = fs.size)
    (hv : Value.okWide P w r b0 t v) (h : DataW.Trod enc P w base spare held t v d p) :
    ∃ (cs : List Value) (n : Nat), v = .agg cs.toArray ∧ cs.length = fs.size ∧ ∀ (i : Nat) (f : Field), fs[i]? = some f → ∃ c y, cs[i]? = some c ∧ DataW.trod enc P w base spare held n f.type [c] = some y := by
  obtain ⟨cs, rfl, hsz⟩ := okWide_struct hs hv
  obtain ⟨fuel, hf⟩ := h
  obtain ⟨xs, n, _, hx, hl, hlen, hf'⟩ := DataW.trod_struct hs hf
  refine ⟨cs.toList, n, rfl, by rw [Array.length_toList]; exact hsz.trans hC, fun i f hi => ?_⟩
  obtain ⟨o, k⟩ := hone_of hone i f hi
  have hlt : i < fs.size := (Array.getElem?_eq_some_iff.1 hi).1
  have hlc : i < cs.toList.length := by rw [Array.length_toList, hsz, hC]; exact hlt
  have g := hf' i f hi
  rw [o, k] at g
  have e : ((Value.agg cs).cells.toList.drop i).take 1 = [cs.toList[i]'hlc] := by
    show (cs.toList.drop i).take 1 = _
    rw [List.drop_eq_getElem_cons hlc]
    rfl
  rw [e] at g
  exact ⟨_, xs[i]'(by omega), List.getElem?_eq_getElem hlc, by rw [g, List.getElem?_eq_getElem]⟩

theorem row_of_trod {t e : TypeId} {n : Nat} {c : Value} {y : DataW H × List MemPlace} (ht : P.underlying t = some (.slice e)) (he : P.underlying e = some .string) (hc : P.cellsOf e = 1)
    (h : DataW.trod enc P w base spare held n t [c] = some y) : ∃ a len cap zs, c = .slice a len cap ∧ TxRow w a len cap zs := by
  rcases open_strs ht he hc h with ⟨hcs, _⟩ | ⟨a, len, cap, m, Sx, hcs, hb, hl, hm, hmm, _, hx⟩
  · exact ⟨none, 0, 0, [], by simpa using hcs, rfl, Nat.le_refl _, by omega, fun j x hx => by simp at hx, Or.inl rfl⟩
  · have hlm : len ≤ m := by rw [hmm]; split <;> omega
    have hm' : cap ≤ 9223372036854775807 := by unfold maxLen at hm; omega
    refine ⟨some a, len, cap, (List.range len).map Sx, by simpa using hcs, by simp, hl, hm', fun j x hj => ?_, ?_⟩
    · rw [List.getElem?_map] at hj
      by_cases hjl : j < len
      · rw [List.getElem?_range hjl] at hj
        obtain rfl := Option.some.inj hj
        have := (hx j (by omega)).2
        unfold maxLen at this
        omega
      · rw [List.getElem?_eq_none (by simp; omega)] at hj
        cases hj
    · by_cases h0 : len = 0
      · subst h0; exact Or.inl rfl
      right
      obtain ⟨b, o, spot⟩ := a
      have h0' := (hx 0 (by omega)).1
      have hspot : spot = none := by simpa [Addr.add] using World.cell?_spot h0'
      subst hspot
      refine ⟨b, o, rfl, ?_, fun j x hj => ?_⟩
      · rw [Addr.add_lit] at h0'
        rcases Nat.lt_or_ge b w.heap.size with h1 | h1
        · exact h1
        · simp [World.cell?, Array.getElem?_eq_none h1] at h0'
      · rw [List.getElem?_map] at hj
        by_cases hjl : j < len
        · rw [List.getElem?_range hjl] at hj
          obtain rfl := Option.some.inj hj
          have := (hx j (by omega)).1
          rw [Addr.add_lit] at this
          exact this
        · rw [List.getElem?_eq_none (by simp; omega)] at hj
          cases hj
end

section
variable {H : Type} {enc : TypeId × Value → H} {w : World} {base : Nat} {spare : Nat → Bool} {held : Bool}

theorem open_aggC {P : Program} {n : Nat} {t : TypeId} {fs : Array Field} {cs : List Value} {x : DataW H × List MemPlace} (hs : P.underlying t = some (.struct fs)) (hone : oneCellFields P fs = true) (hC : P.cellsOf t = fs.size)
    (h : DataW.trod enc P w base spare held n t cs = some x) :
    ∃ (n : Nat), cs.length = fs.size ∧ ∀ (i : Nat) (f : Field), fs[i]? = some f → ∃ c y, cs[i]? = some c ∧ DataW.trod enc P w base spare held n f.type [c] = some y := by
  obtain ⟨xs, n, _, hx, hl, hlen, hf'⟩ := DataW.trod_struct hs h
  refine ⟨n, hl.trans hC, fun i f hi => ?_⟩
  obtain ⟨o, k⟩ := hone_of hone i f hi
  have hlt : i < fs.size := (Array.getElem?_eq_some_iff.1 hi).1
  have hlc : i < cs.length := by rw [hl, hC]; exact hlt
  have g := hf' i f hi
  rw [o, k] at g
  have e : (cs.drop i).take 1 = [cs[i]'hlc] := by
    rw [List.drop_eq_getElem_cons hlc]
    rfl
  rw [e] at g
  exact ⟨_, xs[i]'(by omega), List.getElem?_eq_getElem hlc, by rw [g, List.getElem?_eq_getElem]⟩

end

end Go.Proofs.YtcgegbccpcceoaaGreatDoor

namespace Go.Proofs.YtcgegbccpcceoaaGreatDoor
open Go.RowKit Go.ChangeShapes Go.WideShapes Go.Deep
namespace Rc

section
variable {H : Type} {enc : TypeId × Value → H} {w : World} {base : Nat} {spare : Nat → Bool} {held : Bool}

theorem nd_of_trod {b o n : Nat} {cs : List Value} {x : DataW H × List MemPlace} (hc : ∀ i, i < 7 → w.cell? ⟨b, o + i, none⟩ = cs[i]?) (h : DataW.trod enc Tryz.prog w base spare held n 93 cs = some x) : ∃ v : Nd, RAt w b o (ndF v) := by
  obtain ⟨m, hl, hf⟩ := open_aggC Tryz.underlying93 (by kernel_rfl) (by kernel_rfl) h
  obtain ⟨c0, y0, e0, t0⟩ := hf 0 _ rfl
  obtain ⟨b0, q0, -, s0⟩ := DataW.trod_string Tryz.underlying9 t0
  obtain rfl : c0 = .string b0 := by simpa using q0
  obtain ⟨c1, y1, e1, t1⟩ := hf 1 _ rfl
  obtain ⟨b1, q1, -, s1⟩ := DataW.trod_string Tryz.underlying9 t1
  obtain rfl : c1 = .string b1 := by simpa using q1
  obtain ⟨c2, y2, e2, t2⟩ := hf 2 _ rfl
  obtain ⟨b2, q2, -, s2⟩ := DataW.trod_int Tryz.underlying2 t2
  obtain rfl : c2 = .int .i64 b2 := by simpa using q2
  obtain ⟨c3, y3, e3, t3⟩ := hf 3 _ rfl
  obtain ⟨b3, q3, -, s3⟩ := DataW.trod_int Tryz.underlying2 t3
  obtain rfl : c3 = .int .i64 b3 := by simpa using q3
  obtain ⟨c4, y4, e4, t4⟩ := hf 4 _ rfl
  obtain ⟨b4, q4, -, s4⟩ := DataW.trod_int Tryz.underlying2 t4
  obtain rfl : c4 = .int .i64 b4 := by simpa using q4
  obtain ⟨c5, y5, e5, t5⟩ := hf 5 _ rfl
  obtain ⟨b5, q5, -⟩ := DataW.trod_bool Tryz.underlying4 t5
  obtain rfl : c5 = .bool b5 := by simpa using q5
  obtain ⟨c6, y6, e6, t6⟩ := hf 6 _ rfl
  obtain ⟨b6, l6, p6, zz, rfl, r6⟩ := row_of_trod Tryz.underlying59 Tryz.underlying9 (by kernel_rfl) t6
  unfold maxLen at s0 s1
  refine ⟨⟨b0, b1, b2, b3, b4, b5, zz⟩, fun i f hi => ?_⟩
  rcases i with _ | _ | _ | _ | _ | _ | _ | i
  · cases hi
    exact ⟨_, (hc 0 (by omega)).trans e0, rfl, show b0.size ≤ _ by omega⟩
  · cases hi
    exact ⟨_, (hc 1 (by omega)).trans e1, rfl, show b1.size ≤ _ by omega⟩
  · cases hi
    exact ⟨_, (hc 2 (by omega)).trans e2, rfl⟩
  · cases hi
    exact ⟨_, (hc 3 (by omega)).trans e3, rfl⟩
  · cases hi
    exact ⟨_, (hc 4 (by omega)).trans e4, rfl⟩
  · cases hi
    exact ⟨_, (hc 5 (by omega)).trans e5, rfl⟩
  · cases hi
    exact ⟨_, (hc 6 (by omega)).trans e6, b6, l6, p6, rfl, r6⟩
  · first | (cases hi; done) | (simp [ndF] at hi; done)

theorem ndrow_of_trod {n : Nat} {c : Value} {y : DataW H × List MemPlace} (h : DataW.trod enc Tryz.prog w base spare held n 22 [c] = some y) : ∃ a len cap, ∃ xs : List Nd, c = .slice a len cap ∧ RRow w a len cap 7 (xs.map ndF) := by
  rcases open_slice Tryz.underlying22 h with ⟨hcs, _⟩ | ⟨a, len, cap, m, n', D, Pl, hcs, hb, hl, hm, hmm, _, hx⟩
  · exact ⟨none, 0, 0, [], by simpa using hcs, rfl, Nat.le_refl _, by omega, .inl rfl⟩
  have hlm : len ≤ m := by rw [hmm]; split <;> omega
  have hm' : cap ≤ 9223372036854775807 := by unfold maxLen at hm; omega
  have hce : Tryz.prog.cellsOf 93 = 7 := by kernel_rfl
  rw [hce] at hx
  by_cases h0 : len = 0
  · subst h0
    exact ⟨some a, 0, cap, [], by simpa using hcs, rfl, hl, hm', .inl rfl⟩
  obtain ⟨b, o, spot⟩ := a
  obtain ⟨cs0, k1, k2⟩ := hx 0 (by omega)
  have hspot : spot = none := by
    obtain ⟨_, hl0, hc0⟩ := World.cells?_some k1
    have := hc0 0 (by omega)
    rw [List.getElem?_eq_getElem (by omega)] at this
    simpa [Addr.add] using World.cell?_spot this
  subst hspot
  have hblt : b < w.heap.size := by
    obtain ⟨_, hl0, hc0⟩ := World.cells?_some k1
    have := hc0 0 (by omega)
    rw [List.getElem?_eq_getElem (by omega)] at this
    rcases Nat.lt_or_ge b w.heap.size with h1 | h1
    · exact h1
    · simp [Addr.add, World.cell?, Array.getElem?_eq_none h1] at this
  have each : ∀ i, i < len → ∃ v : Nd, RAt w b (o + i * 7) (ndF v) := fun i hi => by
    obtain ⟨cs, k1, k2⟩ := hx i (by omega)
    obtain ⟨_, hl0, hc0⟩ := World.cells?_some k1
    refine nd_of_trod (fun j hj => ?_) k2
    have := hc0 j hj
    rw [add_add, Addr.add_lit] at this
    rw [Nat.add_assoc]
    exact this
  have hin : Inhabited Nd := ⟨⟨⟨#[]⟩, ⟨#[]⟩, 0, 0, 0, false, []⟩⟩
  obtain ⟨f, hf⟩ := choose_lt each
  refine ⟨some ⟨b, o, none⟩, len, cap, (List.range len).map f, by simpa using hcs, by simp, hl, hm', .inr ⟨b, o, rfl, hblt, fun j r hj => ?_⟩⟩
  rw [List.getElem?_map, List.getElem?_map] at hj
  by_cases hjl : j < len
  · rw [List.getElem?_range hjl] at hj
    obtain rfl := Option.some.inj hj
    exact hf j hjl
  · rw [List.getElem?_eq_none (by simp; omega)] at hj
    cases hj

theorem kd_of_trod {b o n : Nat} {cs : List Value} {x : DataW H × List MemPlace} (hc : ∀ i, i < 4 → w.cell? ⟨b, o + i, none⟩ = cs[i]?) (h : DataW.trod enc Tryz.prog w base spare held n 47 cs = some x) : ∃ v : Kd, RAt w b o (kdF v) := by
  obtain ⟨m, hl, hf⟩ := open_aggC Tryz.underlying47 (by kernel_rfl) (by kernel_rfl) h
  obtain ⟨c0, y0, e0, t0⟩ := hf 0 _ rfl
  obtain ⟨b0, q0, -, s0⟩ := DataW.trod_string Tryz.underlying9 t0
  obtain rfl : c0 = .string b0 := by simpa using q0
  obtain ⟨c1, y1, e1, t1⟩ := hf 1 _ rfl
  obtain ⟨b1, q1, -⟩ := DataW.trod_bool Tryz.underlying4 t1
  obtain rfl : c1 = .bool b1 := by simpa using q1
  obtain ⟨c2, y2, e2, t2⟩ := hf 2 _ rfl
  obtain ⟨b2, q2, -⟩ := DataW.trod_bool Tryz.underlying4 t2
  obtain rfl : c2 = .bool b2 := by simpa using q2
  obtain ⟨c3, y3, e3, t3⟩ := hf 3 _ rfl
  obtain ⟨b3, q3, -, s3⟩ := DataW.trod_string Tryz.underlying9 t3
  obtain rfl : c3 = .string b3 := by simpa using q3
  unfold maxLen at s0 s3
  refine ⟨⟨b0, b1, b2, b3⟩, fun i f hi => ?_⟩
  rcases i with _ | _ | _ | _ | i
  · cases hi
    exact ⟨_, (hc 0 (by omega)).trans e0, rfl, show b0.size ≤ _ by omega⟩
  · cases hi
    exact ⟨_, (hc 1 (by omega)).trans e1, rfl⟩
  · cases hi
    exact ⟨_, (hc 2 (by omega)).trans e2, rfl⟩
  · cases hi
    exact ⟨_, (hc 3 (by omega)).trans e3, rfl, show b3.size ≤ _ by omega⟩
  · first | (cases hi; done) | (simp [kdF] at hi; done)

theorem kdrow_of_trod {n : Nat} {c : Value} {y : DataW H × List MemPlace} (h : DataW.trod enc Tryz.prog w base spare held n 23 [c] = some y) : ∃ a len cap, ∃ xs : List Kd, c = .slice a len cap ∧ RRow w a len cap 4 (xs.map kdF) := by
  rcases open_slice Tryz.underlying23 h with ⟨hcs, _⟩ | ⟨a, len, cap, m, n', D, Pl, hcs, hb, hl, hm, hmm, _, hx⟩
  · exact ⟨none, 0, 0, [], by simpa using hcs, rfl, Nat.le_refl _, by omega, .inl rfl⟩
  have hlm : len ≤ m := by rw [hmm]; split <;> omega
  have hm' : cap ≤ 9223372036854775807 := by unfold maxLen at hm; omega
  have hce : Tryz.prog.cellsOf 47 = 4 := by kernel_rfl
  rw [hce] at hx
  by_cases h0 : len = 0
  · subst h0
    exact ⟨some a, 0, cap, [], by simpa using hcs, rfl, hl, hm', .inl rfl⟩
  obtain ⟨b, o, spot⟩ := a
  obtain ⟨cs0, k1, k2⟩ := hx 0 (by omega)
  have hspot : spot = none := by
    obtain ⟨_, hl0, hc0⟩ := World.cells?_some k1
    have := hc0 0 (by omega)
    rw [List.getElem?_eq_getElem (by omega)] at this
    simpa [Addr.add] using World.cell?_spot this
  subst hspot
  have hblt : b < w.heap.size := by
    obtain ⟨_, hl0, hc0⟩ := World.cells?_some k1
    have := hc0 0 (by omega)
    rw [List.getElem?_eq_getElem (by omega)] at this
    rcases Nat.lt_or_ge b w.heap.size with h1 | h1
    · exact h1
    · simp [Addr.add, World.cell?, Array.getElem?_eq_none h1] at this
  have each : ∀ i, i < len → ∃ v : Kd, RAt w b (o + i * 4) (kdF v) := fun i hi => by
    obtain ⟨cs, k1, k2⟩ := hx i (by omega)
    obtain ⟨_, hl0, hc0⟩ := World.cells?_some k1
    refine kd_of_trod (fun j hj => ?_) k2
    have := hc0 j hj
    rw [add_add, Addr.add_lit] at this
    rw [Nat.add_assoc]
    exact this
  have hin : Inhabited Kd := ⟨⟨⟨#[]⟩, false, false, ⟨#[]⟩⟩⟩
  obtain ⟨f, hf⟩ := choose_lt each
  refine ⟨some ⟨b, o, none⟩, len, cap, (List.range len).map f, by simpa using hcs, by simp, hl, hm', .inr ⟨b, o, rfl, hblt, fun j r hj => ?_⟩⟩
  rw [List.getElem?_map, List.getElem?_map] at hj
  by_cases hjl : j < len
  · rw [List.getElem?_range hjl] at hj
    obtain rfl := Option.some.inj hj
    exact hf j hjl
  · rw [List.getElem?_eq_none (by simp; omega)] at hj
    cases hj

theorem vd_of_trod {b o n : Nat} {cs : List Value} {x : DataW H × List MemPlace} (hc : ∀ i, i < 8 → w.cell? ⟨b, o + i, none⟩ = cs[i]?) (h : DataW.trod enc Tryz.prog w base spare held n 96 cs = some x) : ∃ v : Vd, RAt w b o (vdF v) := by
  obtain ⟨m, hl, hf⟩ := open_aggC Tryz.underlying96 (by kernel_rfl) (by kernel_rfl) h
  obtain ⟨c0, y0, e0, t0⟩ := hf 0 _ rfl
  obtain ⟨b0, q0, -, s0⟩ := DataW.trod_string Tryz.underlying9 t0
  obtain rfl : c0 = .string b0 := by simpa using q0
  obtain ⟨c1, y1, e1, t1⟩ := hf 1 _ rfl
  obtain ⟨b1, q1, -, s1⟩ := DataW.trod_int Tryz.underlying2 t1
  obtain rfl : c1 = .int .i64 b1 := by simpa using q1
  obtain ⟨c2, y2, e2, t2⟩ := hf 2 _ rfl
  obtain ⟨b2, q2, -, s2⟩ := DataW.trod_string Tryz.underlying9 t2
  obtain rfl : c2 = .string b2 := by simpa using q2
  obtain ⟨c3, y3, e3, t3⟩ := hf 3 _ rfl
  obtain ⟨b3, q3, -, s3⟩ := DataW.trod_string Tryz.underlying9 t3
  obtain rfl : c3 = .string b3 := by simpa using q3
  obtain ⟨c4, y4, e4, t4⟩ := hf 4 _ rfl
  obtain ⟨b4, q4, -⟩ := DataW.trod_bool Tryz.underlying4 t4
  obtain rfl : c4 = .bool b4 := by simpa using q4
  obtain ⟨c5, y5, e5, t5⟩ := hf 5 _ rfl
  obtain ⟨b5, q5, -, s5⟩ := DataW.trod_string Tryz.underlying9 t5
  obtain rfl : c5 = .string b5 := by simpa using q5
  obtain ⟨c6, y6, e6, t6⟩ := hf 6 _ rfl
  obtain ⟨b6, q6, -⟩ := DataW.trod_bool Tryz.underlying4 t6
  obtain rfl : c6 = .bool b6 := by simpa using q6
  obtain ⟨c7, y7, e7, t7⟩ := hf 7 _ rfl
  obtain ⟨b7, l7, p7, zz, rfl, r7⟩ := row_of_trod Tryz.underlying59 Tryz.underlying9 (by kernel_rfl) t7
  unfold maxLen at s0 s2 s3 s5
  refine ⟨⟨b0, b1, b2, b3, b4, b5, b6, zz⟩, fun i f hi => ?_⟩
  rcases i with _ | _ | _ | _ | _ | _ | _ | _ | i
  · cases hi
    exact ⟨_, (hc 0 (by omega)).trans e0, rfl, show b0.size ≤ _ by omega⟩
  · cases hi
    exact ⟨_, (hc 1 (by omega)).trans e1, rfl⟩
  · cases hi
    exact ⟨_, (hc 2 (by omega)).trans e2, rfl, show b2.size ≤ _ by omega⟩
  · cases hi
    exact ⟨_, (hc 3 (by omega)).trans e3, rfl, show b3.size ≤ _ by omega⟩
  · cases hi
    exact ⟨_, (hc 4 (by omega)).trans e4, rfl⟩
  · cases hi
    exact ⟨_, (hc 5 (by omega)).trans e5, rfl, show b5.size ≤ _ by omega⟩
  · cases hi
    exact ⟨_, (hc 6 (by omega)).trans e6, rfl⟩
  · cases hi
    exact ⟨_, (hc 7 (by omega)).trans e7, b7, l7, p7, rfl, r7⟩
  · first | (cases hi; done) | (simp [vdF] at hi; done)

theorem vdrow_of_trod {n : Nat} {c : Value} {y : DataW H × List MemPlace} (h : DataW.trod enc Tryz.prog w base spare held n 24 [c] = some y) : ∃ a len cap, ∃ xs : List Vd, c = .slice a len cap ∧ RRow w a len cap 8 (xs.map vdF) := by
  rcases open_slice Tryz.underlying24 h with ⟨hcs, _⟩ | ⟨a, len, cap, m, n', D, Pl, hcs, hb, hl, hm, hmm, _, hx⟩
  · exact ⟨none, 0, 0, [], by simpa using hcs, rfl, Nat.le_refl _, by omega, .inl rfl⟩
  have hlm : len ≤ m := by rw [hmm]; split <;> omega
  have hm' : cap ≤ 9223372036854775807 := by unfold maxLen at hm; omega
  have hce : Tryz.prog.cellsOf 96 = 8 := by kernel_rfl
  rw [hce] at hx
  by_cases h0 : len = 0
  · subst h0
    exact ⟨some a, 0, cap, [], by simpa using hcs, rfl, hl, hm', .inl rfl⟩
  obtain ⟨b, o, spot⟩ := a
  obtain ⟨cs0, k1, k2⟩ := hx 0 (by omega)
  have hspot : spot = none := by
    obtain ⟨_, hl0, hc0⟩ := World.cells?_some k1
    have := hc0 0 (by omega)
    rw [List.getElem?_eq_getElem (by omega)] at this
    simpa [Addr.add] using World.cell?_spot this
  subst hspot
  have hblt : b < w.heap.size := by
    obtain ⟨_, hl0, hc0⟩ := World.cells?_some k1
    have := hc0 0 (by omega)
    rw [List.getElem?_eq_getElem (by omega)] at this
    rcases Nat.lt_or_ge b w.heap.size with h1 | h1
    · exact h1
    · simp [Addr.add, World.cell?, Array.getElem?_eq_none h1] at this
  have each : ∀ i, i < len → ∃ v : Vd, RAt w b (o + i * 8) (vdF v) := fun i hi => by
    obtain ⟨cs, k1, k2⟩ := hx i (by omega)
    obtain ⟨_, hl0, hc0⟩ := World.cells?_some k1
    refine vd_of_trod (fun j hj => ?_) k2
    have := hc0 j hj
    rw [add_add, Addr.add_lit] at this
    rw [Nat.add_assoc]
    exact this
  have hin : Inhabited Vd := ⟨⟨⟨#[]⟩, 0, ⟨#[]⟩, ⟨#[]⟩, false, ⟨#[]⟩, false, []⟩⟩
  obtain ⟨f, hf⟩ := choose_lt each
  refine ⟨some ⟨b, o, none⟩, len, cap, (List.range len).map f, by simpa using hcs, by simp, hl, hm', .inr ⟨b, o, rfl, hblt, fun j r hj => ?_⟩⟩
  rw [List.getElem?_map, List.getElem?_map] at hj
  by_cases hjl : j < len
  · rw [List.getElem?_range hjl] at hj
    obtain rfl := Option.some.inj hj
    exact hf j hjl
  · rw [List.getElem?_eq_none (by simp; omega)] at hj
    cases hj

theorem xd_of_trod {b o n : Nat} {cs : List Value} {x : DataW H × List MemPlace} (hc : ∀ i, i < 5 → w.cell? ⟨b, o + i, none⟩ = cs[i]?) (h : DataW.trod enc Tryz.prog w base spare held n 99 cs = some x) : ∃ v : Xd, RAt w b o (xdF v) := by
  obtain ⟨m, hl, hf⟩ := open_aggC Tryz.underlying99 (by kernel_rfl) (by kernel_rfl) h
  obtain ⟨c0, y0, e0, t0⟩ := hf 0 _ rfl
  obtain ⟨b0, q0, -, s0⟩ := DataW.trod_string Tryz.underlying9 t0
  obtain rfl : c0 = .string b0 := by simpa using q0
  obtain ⟨c1, y1, e1, t1⟩ := hf 1 _ rfl
  obtain ⟨b1, q1, -, s1⟩ := DataW.trod_int Tryz.underlying2 t1
  obtain rfl : c1 = .int .i64 b1 := by simpa using q1
  obtain ⟨c2, y2, e2, t2⟩ := hf 2 _ rfl
  obtain ⟨b2, q2, -, s2⟩ := DataW.trod_string Tryz.underlying9 t2
  obtain rfl : c2 = .string b2 := by simpa using q2
  obtain ⟨c3, y3, e3, t3⟩ := hf 3 _ rfl
  obtain ⟨b3, q3, -⟩ := DataW.trod_bool Tryz.underlying4 t3
  obtain rfl : c3 = .bool b3 := by simpa using q3
  obtain ⟨c4, y4, e4, t4⟩ := hf 4 _ rfl
  obtain ⟨b4, q4, -, s4⟩ := DataW.trod_string Tryz.underlying9 t4
  obtain rfl : c4 = .string b4 := by simpa using q4
  unfold maxLen at s0 s2 s4
  refine ⟨⟨b0, b1, b2, b3, b4⟩, fun i f hi => ?_⟩
  rcases i with _ | _ | _ | _ | _ | i
  · cases hi
    exact ⟨_, (hc 0 (by omega)).trans e0, rfl, show b0.size ≤ _ by omega⟩
  · cases hi
    exact ⟨_, (hc 1 (by omega)).trans e1, rfl⟩
  · cases hi
    exact ⟨_, (hc 2 (by omega)).trans e2, rfl, show b2.size ≤ _ by omega⟩
  · cases hi
    exact ⟨_, (hc 3 (by omega)).trans e3, rfl⟩
  · cases hi
    exact ⟨_, (hc 4 (by omega)).trans e4, rfl, show b4.size ≤ _ by omega⟩
  · first | (cases hi; done) | (simp [xdF] at hi; done)

theorem xdrow_of_trod {n : Nat} {c : Value} {y : DataW H × List MemPlace} (h : DataW.trod enc Tryz.prog w base spare held n 25 [c] = some y) : ∃ a len cap, ∃ xs : List Xd, c = .slice a len cap ∧ RRow w a len cap 5 (xs.map xdF) := by
  rcases open_slice Tryz.underlying25 h with ⟨hcs, _⟩ | ⟨a, len, cap, m, n', D, Pl, hcs, hb, hl, hm, hmm, _, hx⟩
  · exact ⟨none, 0, 0, [], by simpa using hcs, rfl, Nat.le_refl _, by omega, .inl rfl⟩
  have hlm : len ≤ m := by rw [hmm]; split <;> omega
  have hm' : cap ≤ 9223372036854775807 := by unfold maxLen at hm; omega
  have hce : Tryz.prog.cellsOf 99 = 5 := by kernel_rfl
  rw [hce] at hx
  by_cases h0 : len = 0
  · subst h0
    exact ⟨some a, 0, cap, [], by simpa using hcs, rfl, hl, hm', .inl rfl⟩
  obtain ⟨b, o, spot⟩ := a
  obtain ⟨cs0, k1, k2⟩ := hx 0 (by omega)
  have hspot : spot = none := by
    obtain ⟨_, hl0, hc0⟩ := World.cells?_some k1
    have := hc0 0 (by omega)
    rw [List.getElem?_eq_getElem (by omega)] at this
    simpa [Addr.add] using World.cell?_spot this
  subst hspot
  have hblt : b < w.heap.size := by
    obtain ⟨_, hl0, hc0⟩ := World.cells?_some k1
    have := hc0 0 (by omega)
    rw [List.getElem?_eq_getElem (by omega)] at this
    rcases Nat.lt_or_ge b w.heap.size with h1 | h1
    · exact h1
    · simp [Addr.add, World.cell?, Array.getElem?_eq_none h1] at this
  have each : ∀ i, i < len → ∃ v : Xd, RAt w b (o + i * 5) (xdF v) := fun i hi => by
    obtain ⟨cs, k1, k2⟩ := hx i (by omega)
    obtain ⟨_, hl0, hc0⟩ := World.cells?_some k1
    refine xd_of_trod (fun j hj => ?_) k2
    have := hc0 j hj
    rw [add_add, Addr.add_lit] at this
    rw [Nat.add_assoc]
    exact this
  have hin : Inhabited Xd := ⟨⟨⟨#[]⟩, 0, ⟨#[]⟩, false, ⟨#[]⟩⟩⟩
  obtain ⟨f, hf⟩ := choose_lt each
  refine ⟨some ⟨b, o, none⟩, len, cap, (List.range len).map f, by simpa using hcs, by simp, hl, hm', .inr ⟨b, o, rfl, hblt, fun j r hj => ?_⟩⟩
  rw [List.getElem?_map, List.getElem?_map] at hj
  by_cases hjl : j < len
  · rw [List.getElem?_range hjl] at hj
    obtain rfl := Option.some.inj hj
    exact hf j hjl
  · rw [List.getElem?_eq_none (by simp; omega)] at hj
    cases hj

theorem pd_of_trod {b o n : Nat} {cs : List Value} {x : DataW H × List MemPlace} (hc : ∀ i, i < 6 → w.cell? ⟨b, o + i, none⟩ = cs[i]?) (h : DataW.trod enc Tryz.prog w base spare held n 102 cs = some x) : ∃ v : Pd, RAt w b o (pdF v) := by
  obtain ⟨m, hl, hf⟩ := open_aggC Tryz.underlying102 (by kernel_rfl) (by kernel_rfl) h
  obtain ⟨c0, y0, e0, t0⟩ := hf 0 _ rfl
  obtain ⟨b0, q0, -, s0⟩ := DataW.trod_string Tryz.underlying9 t0
  obtain rfl : c0 = .string b0 := by simpa using q0
  obtain ⟨c1, y1, e1, t1⟩ := hf 1 _ rfl
  obtain ⟨b1, q1, -, s1⟩ := DataW.trod_int Tryz.underlying2 t1
  obtain rfl : c1 = .int .i64 b1 := by simpa using q1
  obtain ⟨c2, y2, e2, t2⟩ := hf 2 _ rfl
  obtain ⟨b2, q2, -, s2⟩ := DataW.trod_string Tryz.underlying9 t2
  obtain rfl : c2 = .string b2 := by simpa using q2
  obtain ⟨c3, y3, e3, t3⟩ := hf 3 _ rfl
  obtain ⟨b3, l3, p3, zz, rfl, r3⟩ := row_of_trod Tryz.underlying59 Tryz.underlying9 (by kernel_rfl) t3
  obtain ⟨c4, y4, e4, t4⟩ := hf 4 _ rfl
  obtain ⟨b4, q4, -, s4⟩ := DataW.trod_string Tryz.underlying9 t4
  obtain rfl : c4 = .string b4 := by simpa using q4
  obtain ⟨c5, y5, e5, t5⟩ := hf 5 _ rfl
  obtain ⟨b5, q5, -, s5⟩ := DataW.trod_int Tryz.underlying2 t5
  obtain rfl : c5 = .int .i64 b5 := by simpa using q5
  unfold maxLen at s0 s2 s4
  refine ⟨⟨b0, b1, b2, zz, b4, b5⟩, fun i f hi => ?_⟩
  rcases i with _ | _ | _ | _ | _ | _ | i
  · cases hi
    exact ⟨_, (hc 0 (by omega)).trans e0, rfl, show b0.size ≤ _ by omega⟩
  · cases hi
    exact ⟨_, (hc 1 (by omega)).trans e1, rfl⟩
  · cases hi
    exact ⟨_, (hc 2 (by omega)).trans e2, rfl, show b2.size ≤ _ by omega⟩
  · cases hi
    exact ⟨_, (hc 3 (by omega)).trans e3, b3, l3, p3, rfl, r3⟩
  · cases hi
    exact ⟨_, (hc 4 (by omega)).trans e4, rfl, show b4.size ≤ _ by omega⟩
  · cases hi
    exact ⟨_, (hc 5 (by omega)).trans e5, rfl⟩
  · first | (cases hi; done) | (simp [pdF] at hi; done)

theorem pdrow_of_trod {n : Nat} {c : Value} {y : DataW H × List MemPlace} (h : DataW.trod enc Tryz.prog w base spare held n 26 [c] = some y) : ∃ a len cap, ∃ xs : List Pd, c = .slice a len cap ∧ RRow w a len cap 6 (xs.map pdF) := by
  rcases open_slice Tryz.underlying26 h with ⟨hcs, _⟩ | ⟨a, len, cap, m, n', D, Pl, hcs, hb, hl, hm, hmm, _, hx⟩
  · exact ⟨none, 0, 0, [], by simpa using hcs, rfl, Nat.le_refl _, by omega, .inl rfl⟩
  have hlm : len ≤ m := by rw [hmm]; split <;> omega
  have hm' : cap ≤ 9223372036854775807 := by unfold maxLen at hm; omega
  have hce : Tryz.prog.cellsOf 102 = 6 := by kernel_rfl
  rw [hce] at hx
  by_cases h0 : len = 0
  · subst h0
    exact ⟨some a, 0, cap, [], by simpa using hcs, rfl, hl, hm', .inl rfl⟩
  obtain ⟨b, o, spot⟩ := a
  obtain ⟨cs0, k1, k2⟩ := hx 0 (by omega)
  have hspot : spot = none := by
    obtain ⟨_, hl0, hc0⟩ := World.cells?_some k1
    have := hc0 0 (by omega)
    rw [List.getElem?_eq_getElem (by omega)] at this
    simpa [Addr.add] using World.cell?_spot this
  subst hspot
  have hblt : b < w.heap.size := by
    obtain ⟨_, hl0, hc0⟩ := World.cells?_some k1
    have := hc0 0 (by omega)
    rw [List.getElem?_eq_getElem (by omega)] at this
    rcases Nat.lt_or_ge b w.heap.size with h1 | h1
    · exact h1
    · simp [Addr.add, World.cell?, Array.getElem?_eq_none h1] at this
  have each : ∀ i, i < len → ∃ v : Pd, RAt w b (o + i * 6) (pdF v) := fun i hi => by
    obtain ⟨cs, k1, k2⟩ := hx i (by omega)
    obtain ⟨_, hl0, hc0⟩ := World.cells?_some k1
    refine pd_of_trod (fun j hj => ?_) k2
    have := hc0 j hj
    rw [add_add, Addr.add_lit] at this
    rw [Nat.add_assoc]
    exact this
  have hin : Inhabited Pd := ⟨⟨⟨#[]⟩, 0, ⟨#[]⟩, [], ⟨#[]⟩, 0⟩⟩
  obtain ⟨f, hf⟩ := choose_lt each
  refine ⟨some ⟨b, o, none⟩, len, cap, (List.range len).map f, by simpa using hcs, by simp, hl, hm', .inr ⟨b, o, rfl, hblt, fun j r hj => ?_⟩⟩
  rw [List.getElem?_map, List.getElem?_map] at hj
  by_cases hjl : j < len
  · rw [List.getElem?_range hjl] at hj
    obtain rfl := Option.some.inj hj
    exact hf j hjl
  · rw [List.getElem?_eq_none (by simp; omega)] at hj
    cases hj

end

end Rc
end Go.Proofs.YtcgegbccpcceoaaGreatDoor
