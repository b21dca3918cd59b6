/-
  BestFor of the program.
-/
import Derived.Test.YtjkgpkgbaapdmaaBestIt
namespace Go.Proofs.Ytjkgpkgbaapdmaa
open Go.RowKit Go.Shelf

attribute [local go_sem] Oper.semAt_some

/-- The volumes of a list, with where their lists lie. -/
theorem VsRow.xs {w : World} {a : Option Addr} {len cap : Nat} {vs : List Vd} (h : VsRow w a len cap vs) : ∃ (xl : List Vx) (b o : Nat), xl.map Vx.v = vs ∧ xl.length = len ∧ (xl = [] ∨ (a = some ⟨b, o, none⟩ ∧ b < w.heap.size)) ∧
    ∀ (j : Nat) x, xl[j]? = some x → TxRow w x.a x.len x.cap x.v.zs ∧ w.cell? ⟨b, o + j * 8, none⟩ = some (.string x.v.n) ∧ w.cell? ⟨b, o + j * 8 + 1, none⟩ = some (.int .i64 x.v.c) ∧ w.cell? ⟨b, o + j * 8 + 2, none⟩ = some (.string x.v.z) ∧ w.cell? ⟨b, o + j * 8 + 3, none⟩ = some (.string x.v.k) ∧
      w.cell? ⟨b, o + j * 8 + 4, none⟩ = some (.bool x.v.x) ∧ w.cell? ⟨b, o + j * 8 + 5, none⟩ = some (.string x.v.m) ∧ w.cell? ⟨b, o + j * 8 + 6, none⟩ = some (.bool x.v.y) ∧ w.cell? ⟨b, o + j * 8 + 7, none⟩ = some (.slice x.a x.len x.cap) := by
  obtain ⟨h1, h2, h3, h5⟩ := h
  rcases h5 with rfl | ⟨b, o, rfl, hlt, hc⟩
  · exact ⟨[], 0, 0, rfl, by simpa using h1, .inl rfl, fun j x hx => by simp at hx⟩
  · have hh : ∀ (j : Nat) v, vs[j]? = some v → ∃ x : Vx, x.v = v ∧ (TxRow w x.a x.len x.cap x.v.zs ∧ w.cell? ⟨b, o + j * 8, none⟩ = some (.string x.v.n) ∧ w.cell? ⟨b, o + j * 8 + 1, none⟩ = some (.int .i64 x.v.c) ∧ w.cell? ⟨b, o + j * 8 + 2, none⟩ = some (.string x.v.z) ∧ w.cell? ⟨b, o + j * 8 + 3, none⟩ = some (.string x.v.k) ∧
        w.cell? ⟨b, o + j * 8 + 4, none⟩ = some (.bool x.v.x) ∧ w.cell? ⟨b, o + j * 8 + 5, none⟩ = some (.string x.v.m) ∧ w.cell? ⟨b, o + j * 8 + 6, none⟩ = some (.bool x.v.y) ∧ w.cell? ⟨b, o + j * 8 + 7, none⟩ = some (.slice x.a x.len x.cap)) := fun j v hv => by
      obtain ⟨-, a', l', c', q⟩ := hc j v hv
      exact ⟨⟨v, a', l', c'⟩, rfl, q⟩
    have key : ∀ (n : Nat), n ≤ vs.length → ∃ xl : List Vx, xl.map Vx.v = vs.take n ∧ ∀ (j : Nat) x, xl[j]? = some x → (TxRow w x.a x.len x.cap x.v.zs ∧ w.cell? ⟨b, o + j * 8, none⟩ = some (.string x.v.n) ∧ w.cell? ⟨b, o + j * 8 + 1, none⟩ = some (.int .i64 x.v.c) ∧ w.cell? ⟨b, o + j * 8 + 2, none⟩ = some (.string x.v.z) ∧ w.cell? ⟨b, o + j * 8 + 3, none⟩ = some (.string x.v.k) ∧
        w.cell? ⟨b, o + j * 8 + 4, none⟩ = some (.bool x.v.x) ∧ w.cell? ⟨b, o + j * 8 + 5, none⟩ = some (.string x.v.m) ∧ w.cell? ⟨b, o + j * 8 + 6, none⟩ = some (.bool x.v.y) ∧ w.cell? ⟨b, o + j * 8 + 7, none⟩ = some (.slice x.a x.len x.cap)) := by
      intro n
      induction n with
      | zero => exact fun _ => ⟨[], by simp, fun j x hx => by simp at hx⟩
      | succ n ih =>
        intro hn
        obtain ⟨xl, e1, e2⟩ := ih (by omega)
        have hl : xl.length = n := by have := congrArg List.length e1; simp at this; omega
        obtain ⟨x, hxv, hx⟩ := hh n (vs[n]'(by omega)) (List.getElem?_eq_getElem _)
        refine ⟨xl ++ [x], ?_, fun j y hy => ?_⟩
        · rw [List.take_add_one, ← e1, List.getElem?_eq_getElem (show n < vs.length by omega)]
          simp [hxv]
        · by_cases e : j < xl.length
          · rw [List.getElem?_append_left e] at hy
            exact e2 j y hy
          · rw [List.getElem?_append_right (by omega)] at hy
            have hj : j - xl.length = 0 := by
              rcases Nat.eq_zero_or_pos (j - xl.length) with h | h
              · exact h
              · rw [List.getElem?_eq_none (by simp; omega)] at hy; cases hy
            rw [hj] at hy
            obtain rfl := Option.some.inj (show some x = some y from hy)
            obtain rfl : j = n := by omega
            exact hx
    obtain ⟨xl, e1, e2⟩ := key vs.length (Nat.le_refl _)
    rw [List.take_length] at e1
    refine ⟨xl, b, o, e1, by have := congrArg List.length e1; simp at this; omega, .inr ⟨rfl, hlt⟩, e2⟩

/-- The best of those that came. -/
def stepX (acc : Option Vx) (x : Vx) : Option Vx := match acc with | none => some x | some u => if betB x.v u.v = true then some x else some u
def bestX (xs : List Vx) : Option Vx := xs.foldl stepX none
theorem bestX_snoc (xs : List Vx) (x : Vx) : bestX (xs ++ [x]) = stepX (bestX xs) x := by simp [bestX]
theorem best_fold (sv : Vd → Bool) (xs : List Vx) : ∀ acc : Option Vx, ((xs.filter fun x => sv x.v).foldl stepX acc).map Vx.v = (xs.map Vx.v).foldl (stepB sv) (acc.map Vx.v) := by
  induction xs with
  | nil => intro acc; simp
  | cons x xs ih =>
    intro acc
    cases hs : sv x.v
    · simp only [List.filter_cons, hs, Bool.false_eq_true, if_false, List.map_cons, List.foldl_cons]
      rw [ih acc]
      congr 1
      simp [stepB, hs]
    · simp only [List.filter_cons, hs, if_true, List.map_cons, List.foldl_cons]
      rw [ih]
      congr 1
      cases acc with
      | none => simp [stepX, stepB, hs]
      | some u =>
        simp only [stepX, stepB, hs, Option.map_some, Bool.true_and]
        split <;> simp
theorem best_same (sv : Vd → Bool) (xs : List Vx) : (bestX (xs.filter fun x => sv x.v)).map Vx.v = bestV sv (xs.map Vx.v) := best_fold sv xs none
theorem bestX_mem (xs : List Vx) : ∀ acc x, xs.foldl stepX acc = some x → x ∈ xs ∨ acc = some x := by
  induction xs with
  | nil => intro acc x h; exact .inr h
  | cons y ys ih =>
    intro acc x h
    rcases ih _ _ h with h1 | h1
    · exact .inl (List.mem_cons_of_mem _ h1)
    · cases acc with
      | none => simp [stepX] at h1; subst h1; exact .inl List.mem_cons_self
      | some u =>
        simp only [stepX] at h1
        split at h1
        · obtain rfl := Option.some.inj h1; exact .inl List.mem_cons_self
        · exact .inr h1

theorem put8L {w : World} {b : Nat} {T : TypeId} {u0 u1 u2 u3 u4 u5 u6 u7 v0 v1 v2 v3 v4 v5 v6 v7 : Value} (h : w.heap[b]? = some (.cells #[u0, u1, u2, u3, u4, u5, u6, u7] T (0, 0))) :
    ((((((((w.setCell ⟨b, 0, none⟩ v0).setCell ⟨b, 1, none⟩ v1).setCell ⟨b, 2, none⟩ v2).setCell ⟨b, 3, none⟩ v3).setCell ⟨b, 4, none⟩ v4).setCell ⟨b, 5, none⟩ v5).setCell ⟨b, 6, none⟩ v6).setCell ⟨b, 7, none⟩ v7).heap[b]? = some (.cells #[v0, v1, v2, v3, v4, v5, v6, v7] T (0, 0)) := by
  have h0 : (w.setCell ⟨b, 0, none⟩ v0).heap[b]? = some (.cells #[v0, u1, u2, u3, u4, u5, u6, u7] T (0, 0)) := block_set h v0
  have h1 : ((w.setCell ⟨b, 0, none⟩ v0).setCell ⟨b, 1, none⟩ v1).heap[b]? = some (.cells #[v0, v1, u2, u3, u4, u5, u6, u7] T (0, 0)) := block_set h0 v1
  have h2 : (((w.setCell ⟨b, 0, none⟩ v0).setCell ⟨b, 1, none⟩ v1).setCell ⟨b, 2, none⟩ v2).heap[b]? = some (.cells #[v0, v1, v2, u3, u4, u5, u6, u7] T (0, 0)) := block_set h1 v2
  have h3 : ((((w.setCell ⟨b, 0, none⟩ v0).setCell ⟨b, 1, none⟩ v1).setCell ⟨b, 2, none⟩ v2).setCell ⟨b, 3, none⟩ v3).heap[b]? = some (.cells #[v0, v1, v2, v3, u4, u5, u6, u7] T (0, 0)) := block_set h2 v3
  have h4 : (((((w.setCell ⟨b, 0, none⟩ v0).setCell ⟨b, 1, none⟩ v1).setCell ⟨b, 2, none⟩ v2).setCell ⟨b, 3, none⟩ v3).setCell ⟨b, 4, none⟩ v4).heap[b]? = some (.cells #[v0, v1, v2, v3, v4, u5, u6, u7] T (0, 0)) := block_set h3 v4
  have h5 : ((((((w.setCell ⟨b, 0, none⟩ v0).setCell ⟨b, 1, none⟩ v1).setCell ⟨b, 2, none⟩ v2).setCell ⟨b, 3, none⟩ v3).setCell ⟨b, 4, none⟩ v4).setCell ⟨b, 5, none⟩ v5).heap[b]? = some (.cells #[v0, v1, v2, v3, v4, v5, u6, u7] T (0, 0)) := block_set h4 v5
  have h6 : (((((((w.setCell ⟨b, 0, none⟩ v0).setCell ⟨b, 1, none⟩ v1).setCell ⟨b, 2, none⟩ v2).setCell ⟨b, 3, none⟩ v3).setCell ⟨b, 4, none⟩ v4).setCell ⟨b, 5, none⟩ v5).setCell ⟨b, 6, none⟩ v6).heap[b]? = some (.cells #[v0, v1, v2, v3, v4, v5, v6, u7] T (0, 0)) := block_set h5 v6
  have h7 : ((((((((w.setCell ⟨b, 0, none⟩ v0).setCell ⟨b, 1, none⟩ v1).setCell ⟨b, 2, none⟩ v2).setCell ⟨b, 3, none⟩ v3).setCell ⟨b, 4, none⟩ v4).setCell ⟨b, 5, none⟩ v5).setCell ⟨b, 6, none⟩ v6).setCell ⟨b, 7, none⟩ v7).heap[b]? = some (.cells #[v0, v1, v2, v3, v4, v5, v6, v7] T (0, 0)) := block_set h6 v7
  exact h7
/-- The cells of the best so far. -/
def bcells : Option Vx → Array Value
  | none => #[.string ⟨#[]⟩, .int .i64 0, .string ⟨#[]⟩, .string ⟨#[]⟩, .bool false, .string ⟨#[]⟩, .bool false, .slice none 0 0]
  | some x => #[.string x.v.n, .int .i64 x.v.c, .string x.v.z, .string x.v.k, .bool x.v.x, .string x.v.m, .bool x.v.y, .slice x.a x.len x.cap]
/-- Between two rounds. -/
def BI (w w5 : World) (h : Nat) (pre : List Vx) (W : World) : Prop :=
  (W.heap[h]? = some (.cells (bcells (bestX pre)) 30 (0, 0)) ∧ W.heap[h + 1]? = some (.cells #[.bool (bestX pre).isSome] 4 (0, 0))) ∧ KpB h w5.heap.size w5 W ∧ Below w.heap.size w W
theorem BI.own (w w5 : World) (h : Nat) (hh : h + 1 < w5.heap.size) (hw : w.heap.size ≤ w5.heap.size) : OwnFrom w5.heap.size (BI w w5 h) := by
  intro s A B row hs hg hr
  obtain ⟨⟨h1, h2⟩, h3, h4⟩ := hs
  have hk : ∀ k, k < w5.heap.size → B.heap[k]? = A.heap[k]? := fun k hk => hg.block k (Nat.lt_of_lt_of_le hk h3.1) (fun e => by have := (hr k e.symm).1; omega)
  exact ⟨⟨(hk h (by omega)).trans h1, (hk (h + 1) hh).trans h2⟩, ⟨Nat.le_trans h3.1 hg.size, fun k q1 q2 q3 => (hk k q1).trans (h3.2 k q1 q2 q3)⟩, h4.trans ⟨hg.os, hg.tape, hg.output, hg.size, fun k q => hk k (by omega)⟩⟩
theorem BI.below {w w5 W W' : World} {h : Nat} {pre : List Vx} (hi : BI w w5 h pre W) (hh : h + 1 < w5.heap.size) (hw : w.heap.size ≤ w5.heap.size) (hb : Below W.heap.size W W') : BI w w5 h pre W' :=
  BI.own w w5 h hh hw pre W W' none hi (grown_of_below hb) (fun r e => by cases e)
theorem keeps_below {B : Nat} {W W' : World} (hb : Below W.heap.size W W') : KeepsFrom B W W' := (KeepsOthers.of_grownBy (grown_of_below hb) (fun j o h => by cases h)).from B
theorem BI.put {w w5 W : World} {h : Nat} {pre : List Vx} {x : Vx} (hi : BI w w5 h pre W) (hw : w.heap.size ≤ h) (hs : stepX (bestX pre) x = some x) : BI w w5 h (pre ++ [x]) (((((((((W.setCell ⟨h, 0, none⟩ (.string x.v.n)).setCell ⟨h, 1, none⟩ (.int .i64 x.v.c)).setCell ⟨h, 2, none⟩ (.string x.v.z)).setCell ⟨h, 3, none⟩ (.string x.v.k)).setCell ⟨h, 4, none⟩ (.bool x.v.x)).setCell ⟨h, 5, none⟩ (.string x.v.m)).setCell ⟨h, 6, none⟩ (.bool x.v.y)).setCell ⟨h, 7, none⟩ (.slice x.a x.len x.cap)).setCell ⟨h + 1, 0, none⟩ (.bool true)) := by
  obtain ⟨⟨h1, h2⟩, h3, h4⟩ := hi
  have e : bestX (pre ++ [x]) = some x := by rw [bestX_snoc]; exact hs
  unfold BI
  rw [e]
  have h1' : ∃ u0 u1 u2 u3 u4 u5 u6 u7, W.heap[h]? = some (.cells #[u0, u1, u2, u3, u4, u5, u6, u7] 30 (0, 0)) := by
    cases hb : bestX pre with
    | none => rw [hb] at h1; exact ⟨_, _, _, _, _, _, _, _, h1⟩
    | some u => rw [hb] at h1; exact ⟨_, _, _, _, _, _, _, _, h1⟩
  obtain ⟨u0, u1, u2, u3, u4, u5, u6, u7, h1'⟩ := h1'
  refine ⟨⟨(Below.heap_setCell _ _ _ _ (show h ≠ h + 1 by omega)).trans (put8L h1'), ?_⟩, ⟨by simpa [World.setCell] using h3.1, fun k q1 q2 q3 => ?_⟩, ?_⟩
  · have h2' : ((((((((W.setCell ⟨h, 0, none⟩ (.string x.v.n)).setCell ⟨h, 1, none⟩ (.int .i64 x.v.c)).setCell ⟨h, 2, none⟩ (.string x.v.z)).setCell ⟨h, 3, none⟩ (.string x.v.k)).setCell ⟨h, 4, none⟩ (.bool x.v.x)).setCell ⟨h, 5, none⟩ (.string x.v.m)).setCell ⟨h, 6, none⟩ (.bool x.v.y)).setCell ⟨h, 7, none⟩ (.slice x.a x.len x.cap)).heap[h + 1]? = W.heap[h + 1]? := by
      rw [Below.heap_setCell _ _ _ _ (show h + 1 ≠ h by omega), Below.heap_setCell _ _ _ _ (show h + 1 ≠ h by omega), Below.heap_setCell _ _ _ _ (show h + 1 ≠ h by omega), Below.heap_setCell _ _ _ _ (show h + 1 ≠ h by omega), Below.heap_setCell _ _ _ _ (show h + 1 ≠ h by omega), Below.heap_setCell _ _ _ _ (show h + 1 ≠ h by omega), Below.heap_setCell _ _ _ _ (show h + 1 ≠ h by omega), Below.heap_setCell _ _ _ _ (show h + 1 ≠ h by omega)]
    exact block_set (h2'.trans h2) _
  · rw [Below.heap_setCell _ _ _ _ (show k ≠ h + 1 by omega), Below.heap_setCell _ _ _ _ (show k ≠ h by omega), Below.heap_setCell _ _ _ _ (show k ≠ h by omega), Below.heap_setCell _ _ _ _ (show k ≠ h by omega), Below.heap_setCell _ _ _ _ (show k ≠ h by omega), Below.heap_setCell _ _ _ _ (show k ≠ h by omega), Below.heap_setCell _ _ _ _ (show k ≠ h by omega), Below.heap_setCell _ _ _ _ (show k ≠ h by omega), Below.heap_setCell _ _ _ _ (show k ≠ h by omega)]
    exact h3.2 k q1 q2 q3
  · exact set_below (by omega) (set_below hw (set_below hw (set_below hw (set_below hw (set_below hw (set_below hw (set_below hw (set_below hw h4))))))))
theorem BI.kp {W : World} {h n₀ : Nat} {x : Vx} : KpB h n₀ W (((((((((W.setCell ⟨h, 0, none⟩ (.string x.v.n)).setCell ⟨h, 1, none⟩ (.int .i64 x.v.c)).setCell ⟨h, 2, none⟩ (.string x.v.z)).setCell ⟨h, 3, none⟩ (.string x.v.k)).setCell ⟨h, 4, none⟩ (.bool x.v.x)).setCell ⟨h, 5, none⟩ (.string x.v.m)).setCell ⟨h, 6, none⟩ (.bool x.v.y)).setCell ⟨h, 7, none⟩ (.slice x.a x.len x.cap)).setCell ⟨h + 1, 0, none⟩ (.bool true)) := by
  refine ⟨by simp [World.setCell], fun k q1 q2 q3 => ?_⟩
  rw [Below.heap_setCell _ _ _ _ (show k ≠ h + 1 by omega), Below.heap_setCell _ _ _ _ (show k ≠ h by omega), Below.heap_setCell _ _ _ _ (show k ≠ h by omega), Below.heap_setCell _ _ _ _ (show k ≠ h by omega), Below.heap_setCell _ _ _ _ (show k ≠ h by omega), Below.heap_setCell _ _ _ _ (show k ≠ h by omega), Below.heap_setCell _ _ _ _ (show k ≠ h by omega), Below.heap_setCell _ _ _ _ (show k ≠ h by omega), Below.heap_setCell _ _ _ _ (show k ≠ h by omega)]
theorem BI.kf {W : World} {h B : Nat} {x : Vx} : KeepsFrom B W (((((((((W.setCell ⟨h, 0, none⟩ (.string x.v.n)).setCell ⟨h, 1, none⟩ (.int .i64 x.v.c)).setCell ⟨h, 2, none⟩ (.string x.v.z)).setCell ⟨h, 3, none⟩ (.string x.v.k)).setCell ⟨h, 4, none⟩ (.bool x.v.x)).setCell ⟨h, 5, none⟩ (.string x.v.m)).setCell ⟨h, 6, none⟩ (.bool x.v.y)).setCell ⟨h, 7, none⟩ (.slice x.a x.len x.cap)).setCell ⟨h + 1, 0, none⟩ (.bool true)) :=
  ((((((((((KeepsOthers.setCell W ⟨h, 0, none⟩ _).trans (KeepsOthers.setCell _ ⟨h, 1, none⟩ _)).trans (KeepsOthers.setCell _ ⟨h, 2, none⟩ _)).trans (KeepsOthers.setCell _ ⟨h, 3, none⟩ _)).trans (KeepsOthers.setCell _ ⟨h, 4, none⟩ _)).trans (KeepsOthers.setCell _ ⟨h, 5, none⟩ _)).trans (KeepsOthers.setCell _ ⟨h, 6, none⟩ _)).trans (KeepsOthers.setCell _ ⟨h, 7, none⟩ _)).trans (KeepsOthers.setCell _ ⟨h + 1, 0, none⟩ _)).from B)

theorem heap_other9 {w : World} {b k : Nat} {v0 v1 v2 v3 v4 v5 v6 v7 v8 : Value} (h : ¬ k = b) : (((((((((w.setCell ⟨b, 0, none⟩ v0).setCell ⟨b, 1, none⟩ v1).setCell ⟨b, 2, none⟩ v2).setCell ⟨b, 3, none⟩ v3).setCell ⟨b, 4, none⟩ v4).setCell ⟨b, 5, none⟩ v5).setCell ⟨b, 6, none⟩ v6).setCell ⟨b, 7, none⟩ v7).setCell ⟨b, 8, none⟩ v8).heap[k]? = w.heap[k]? := by
  rw [Below.heap_setCell _ _ _ _ h, Below.heap_setCell _ _ _ _ h, Below.heap_setCell _ _ _ _ h, Below.heap_setCell _ _ _ _ h, Below.heap_setCell _ _ _ _ h, Below.heap_setCell _ _ _ _ h, Below.heap_setCell _ _ _ _ h, Below.heap_setCell _ _ _ _ h, Below.heap_setCell _ _ _ _ h]
/-- The record of the deferred calls is taken in. -/
theorem own_put {zs : List ByteArray} {w X : World} {a : Option Addr} {l p D : Nat} {o : Obj} (h : Ap.OwnAns zs w a l p X) (hK : X.heap[D]? = some (.deferred (some []))) (hD : w.heap.size ≤ D) : Ap.OwnAns zs w a l p (X.putObj D o) := by
  obtain ⟨⟨h1, h2, h3, h4, h5⟩, h6, h7⟩ := h
  have hb : Below w.heap.size w (X.putObj D o) := h7.trans (belowK_b (w := w) (Nat.le_refl _) X D _ _ hD hK rfl rfl)
  rcases h6 with h6 | ⟨g, cur, rfl, hg, hh⟩
  · exact ⟨⟨h1, h2, h3, h4, .inl h6⟩, .inl h6, hb⟩
  · have hne : g ≠ D := fun e => by subst e; rw [hh] at hK; cases hK
    have hs : (X.putObj D o).heap[g]? = X.heap[g]? := World.putObj_heap_other hne
    refine ⟨⟨h1, h2, h3, h4, ?_⟩, .inr ⟨g, cur, rfl, hg, hs.trans hh⟩, hb⟩
    rcases h5 with h5 | ⟨g', q, e, hl, hc⟩
    · exact .inl h5
    · cases e
      exact .inr ⟨g, 0, rfl, by simpa using hl, fun j x hx => by have := hc j x hx; simp only [World.cell?, hs] at this ⊢; exact this⟩

set_option maxRecDepth 100000 in
set_option maxHeartbeats 6400000 in
theorem ibest_right (a : Option Addr) (len cap : Nat) (vs : List Vd) (n' : ByteArray) (c' : Int) (k' : ByteArray) (x' : Bool) (v' : ByteArray) (t : ByteArray) (w : World) (hn' : n'.size ≤ 9223372036854775807) (hk' : k'.size ≤ 9223372036854775807) (hv' : v'.size ≤ 9223372036854775807) (ht : t.size ≤ 9223372036854775807) (hr : VsRow w a len cap vs) (hl : ¬ (400 < vs.length ∨ 8000 < t.size)) (hR : BestR vs n' c' k' v' t) :
    Calls Try.prog 9 #[.slice a len cap, .agg #[.string n', .int .i64 c', .string k', .bool x', .string v'], .string t] w (BestAns vs n' c' k' x' v' t w) := by
  have HR := hidK hr
  have hvl : vs.length = len := hr.1
  have hl4 : ¬ 400 < len := by omega
  have hl8 : ¬ 8000 < t.size := by omega
  have HRR := hidK hR
  have HL := hidK hl
  clear hr hR hl
  refine (callsIn_wide (n := 6)).1 ?_
  refine callsIn_of_wp_marks Try.func9 rfl trivial ?_ rfl
  simp only [Try.ntmps9, List.size_toArray, List.length_cons, List.length_nil, Nat.reduceAdd, Nat.reduceSub, Array.replicate_succ, Array.replicate_zero, List.push_toArray, List.append_toArray, List.nil_append, List.cons_append]
  refine wpIn_wide.2 ?_
  go_wp2_with fail
  refine (long_no t _ hl8).mono ?_
  rintro e w1 ⟨rfl, rfl⟩
  go_wp2_with fail
  refine (iclaim_any n' c' k' x' v' _ hn' hk' hv').mono ?_
  rintro e w1 ⟨r, rfl, hr, hb⟩
  obtain rfl : r = true := hr.2 HRR.out.1
  have g0 := (hb.block w.heap.size (by simp; omega)).trans (heap2_0 _ _ _)
  have g1 := (hb.block (w.heap.size + 1) (by simp)).trans (heap2_1 _ _ _)
  have HB := hidK ((below2 w _ _).trans (hb.mono (by simp; omega)))
  have HG0 := hidK g0
  have HG1 := hidK g1
  clear g0 g1 hb hr
  go_wp2_with fail
  refine (izone_any t _ ht).mono ?_
  rintro e w2 ⟨r, rfl, hr, rfl⟩
  obtain rfl : r = true := hr.2 HRR.out.2.1
  clear hr
  go_wp2_with fail
  refine (disks_any a len cap vs _ (HR.out.below HB.out)).mono ?_
  rintro e w3 ⟨r, rfl, hr, hb⟩
  obtain rfl : r = true := hr.2 HRR.out.2.2
  have HB3 := hidK (HB.out.trans (hb.mono HB.out.size))
  have HX0 := hidK ((hb.block _ (lt_of_some HG0.out)).trans HG0.out)
  have HX1 := hidK ((hb.block _ (lt_of_some HG1.out)).trans HG1.out)
  clear hr hb HB HG0 HG1
  have p2 := below2 w3 (.cells #[.string ⟨#[]⟩, .int .i64 0, .string ⟨#[]⟩, .string ⟨#[]⟩, .bool false, .string ⟨#[]⟩, .bool false, .slice none 0 0] 30) (.cells #[.bool false] 4)
  have g0 := (p2.block _ (lt_of_some HX0.out)).trans HX0.out
  have d0 := cellK g0 0
  have d1 := cellK g0 1
  have d2 := cellK g0 2
  have d3 := cellK g0 3
  have d4 := cellK g0 4
  simp only [List.getElem?_toArray, List.getElem?_cons_succ, List.getElem?_cons_zero] at d0 d1 d2 d3 d4
  clear p2 g0
  go_wp2_with fail
  refine (serving_any n' c' k' x' v' t _).mono ?_
  rintro e w4 ⟨rfl, hh4, hb4⟩
  simp only [World.size_alloc] at hh4 ⊢
  clear d0 d1 d2 d3 d4
  have p2 := below2 w3 (.cells #[.string ⟨#[]⟩, .int .i64 0, .string ⟨#[]⟩, .string ⟨#[]⟩, .bool false, .string ⟨#[]⟩, .bool false, .slice none 0 0] 30) (.cells #[.bool false] 4)
  have G7 := hidK ((hb4.block w3.heap.size (by simp; omega)).trans (heap2_0 _ _ _))
  have G8 := hidK ((hb4.block (w3.heap.size + 1) (by simp)).trans (heap2_1 _ _ _))
  have hb34 : Below w3.heap.size w3 w4 := p2.trans (hb4.mono (by simp; omega))
  have HB4 := hidK (HB3.out.trans (hb34.mono HB3.out.size))
  have HX4 := hidK ((hb34.block _ (lt_of_some HX1.out)).trans HX1.out)
  have HH4 := hidK hh4
  have h34 : w3.heap.size + 1 + 1 ≤ w4.heap.size := by have := hb4.size; simp at this; omega
  have HZ4 := hidK (lt_of_some hh4.2)
  clear p2 hb4 hh4 hb34 HX0
  go_wp2_with fail
  refine (picked_any a len cap _ _ _ rfl _).mono ?_
  rintro e w5 ⟨rfl, hl5, hf5, hb5⟩
  have G7' := hidK ((hb5.block _ (lt_of_some G7.out)).trans G7.out)
  have G8' := hidK ((hb5.block _ (lt_of_some G8.out)).trans G8.out)
  have HX5 := hidK ((hb5.block _ (lt_of_some HX4.out)).trans HX4.out)
  have HB5 := hidK (HB4.out.trans (hb5.mono HB4.out.size))
  have HH5 := hidK (HH4.out.below hb5)
  have HL5 := hidK hl5
  have HF5 := hidK hf5
  have h45 : w4.heap.size + 1 + 1 ≤ w5.heap.size := by have := lt_of_some hf5; omega
  have hw3 : w.heap.size + 1 < w3.heap.size := lt_of_some HX1.out
  clear hl5 hf5 hb5 G7 G8 HX4 HB4 HH4 HX1
  obtain ⟨xl, b, o, hxv, hxl, hab, hcell⟩ := (HR.out).xs
  have HXV := hidK hxv
  obtain ⟨bb, hbb, hba, hbc⟩ : ∃ bb, bb < w3.heap.size ∧ (xl = [] ∨ a = some ⟨bb, o, none⟩) ∧ ∀ (j : Nat) x, xl[j]? = some x → TxRow w x.a x.len x.cap x.v.zs ∧ w5.cell? ⟨bb, o + j * 8, none⟩ = some (.string x.v.n) ∧ w5.cell? ⟨bb, o + j * 8 + 1, none⟩ = some (.int .i64 x.v.c) ∧ w5.cell? ⟨bb, o + j * 8 + 2, none⟩ = some (.string x.v.z) ∧ w5.cell? ⟨bb, o + j * 8 + 3, none⟩ = some (.string x.v.k) ∧
      w5.cell? ⟨bb, o + j * 8 + 4, none⟩ = some (.bool x.v.x) ∧ w5.cell? ⟨bb, o + j * 8 + 5, none⟩ = some (.string x.v.m) ∧ w5.cell? ⟨bb, o + j * 8 + 6, none⟩ = some (.bool x.v.y) ∧ w5.cell? ⟨bb, o + j * 8 + 7, none⟩ = some (.slice x.a x.len x.cap) := by
    rcases hab with h | ⟨h, hlt⟩
    · exact ⟨w.heap.size, by omega, .inl h, fun j x hx => by simp [h] at hx⟩
    · refine ⟨b, by omega, .inr h, fun j x hx => ?_⟩
      obtain ⟨q, q0, q1, q2, q3, q4, q5, q6, q7⟩ := hcell j x hx
      exact ⟨q, (cell_below HB5.out hlt).trans q0, (cell_below HB5.out hlt).trans q1, (cell_below HB5.out hlt).trans q2, (cell_below HB5.out hlt).trans q3, (cell_below HB5.out hlt).trans q4, (cell_below HB5.out hlt).trans q5, (cell_below HB5.out hlt).trans q6, (cell_below HB5.out hlt).trans q7⟩
  have HTX := hidK (fun (j : Nat) x hx => (hbc j x hx).1)
  have HIT : Hid (ItAt w5 a w3.heap.size w4.heap.size (w4.heap.size + 1) (w3.heap.size + 1 + 1) (w3.heap.size + 1 + 1 + 1) bb o len cap xl n' c' k' x' v' t) :=
    ⟨HL5.out, HF5.out, HH5.out, hxl, hba, by omega, ⟨by omega, by omega, by omega, by omega, by omega, by omega, by omega, by omega, by omega, by omega⟩, fun j x hx => (hbc j x hx).2⟩
  have hz4 : w3.heap.size + 1 + 1 + 1 < w4.heap.size := HZ4.out
  clear hxv hcell hab hba hbc
  go_wp2_with fail
  rename_i K0 hK0
  refine (wpIn_wide (n := 6)).1 ?_
  refine wpIn_rangeFunc_ownH rfl (by omega) (gf := 78) (lb := #[.pointer (some ⟨w4.heap.size, 0, none⟩), .pointer (some ⟨w4.heap.size + 1, 0, none⟩)]) rfl trivial (enters_of Try.func78 (by kernel_rfl) rfl)
    (pick_stops (6 - 1) (by omega) a w3.heap.size w4.heap.size (w4.heap.size + 1) (w3.heap.size + 1 + 1) (w3.heap.size + 1 + 1 + 1) bb o len cap w5.heap.size xl n' c' k' x' v' t w5 (by omega) HIT.out rfl ⟨by omega, by omega, by omega, by omega, by omega⟩)
    KpB.trans (KpB.put (Nat.le_refl _)) (Below.refl _ _) (fun _ => rfl)
    (BI w w5 w3.heap.size) (fun _ _ _ => False) (BI.own w w5 w3.heap.size (by omega) (by omega)) (fun _ _ _ _ _ hs _ _ => hs)
    ⟨⟨G7'.out, G8'.out⟩, KpB.refl _ _ _, HB5.out⟩
    (fun x a' W => ∃ Bx, w5.heap.size ≤ Bx ∧ W.heap[Bx]? = some (.cells #[.string x.v.n, .int .i64 x.v.c, .string x.v.z, .string x.v.k, .bool x.v.x, .string x.v.m, .bool x.v.y, .slice x.a x.len x.cap] 30 (0, 0)) ∧ a' = { tmps := #[.slice a len cap, .agg #[.string n', .int .i64 c', .string k', .bool x', .string v'], .string t, undef, .pointer (some ⟨w.heap.size, 0, none⟩), undef, .pointer (some ⟨w.heap.size + 1, 0, none⟩), .pointer (some ⟨w3.heap.size, 0, none⟩), .pointer (some ⟨w3.heap.size + 1, 0, none⟩), .pointer (some ⟨Bx, 0, none⟩), .slice a len cap, .int .i64 len, .bool (decide (400 < (len : Int))), .bool (decide (400 < (len : Int))), .string t, .bool false, .bool (decide (400 < (len : Int))), undef, .agg #[.string n', .int .i64 c', .string k', .bool x', .string v'], .bool true, .bool false, .bool false, .string t, .bool true, .bool false, .bool false, .bool false, .slice a len cap, .bool true, .bool false, .bool false, undef, .slice a len cap, .agg #[.string n', .int .i64 c', .string k', .bool x', .string v'], .string t, .func (.func 79) #[] #[.pointer (some ⟨w3.heap.size + 1 + 1, 0, none⟩), .pointer (some ⟨w3.heap.size + 1 + 1 + 1, 0, none⟩)], .func (.func 78) #[] #[.pointer (some ⟨w4.heap.size, 0, none⟩), .pointer (some ⟨w4.heap.size + 1, 0, none⟩)], x.val, undef, undef, undef, undef, undef, undef, undef, undef, undef, undef, undef, undef, undef, undef], defers := [] })
    (fun x a' _ X Y row hs hg hr => by
      obtain ⟨Bx, h1, h2, h3⟩ := hs
      refine ⟨Bx, h1, (hg.block Bx (lt_of_some h2) (fun e => ?_)).trans h2, h3⟩
      obtain ⟨-, o, ho, hc⟩ := hr Bx e.symm
      rw [h2] at ho
      cases ho
      simp [Obj.isCells] at hc)
    ?assign ?body ?done ?stop
  case assign =>
    rintro l pre x W K hi hK
    dsimp only [Vx.val]
    gi_wp2
    refine hK _ _ ((KeepsOthers.alloc _ _).from _) (KpB.below (below1 _ _) hi.2.1.1) (hi.below (by omega) (by omega) (below1 _ _)) ⟨W.heap.size, hi.2.1.1, Array.getElem?_push_size, rfl⟩
  case body =>
    rintro l pre x a' W hl ⟨r, hr⟩ hi ⟨Bx, hBx, bX, rfl⟩ hlt
    clear hlt hr
    have HI := hidK hi
    have hww : w.heap.size ≤ w3.heap.size := by omega
    cases hbx : bestX pre with
    | none =>
      obtain ⟨⟨q7, q8⟩, -, -⟩ := hi
      rw [hbx] at q7 q8
      have q7' : W.heap[w3.heap.size]? = some (.cells #[.string ⟨#[]⟩, .int .i64 0, .string ⟨#[]⟩, .string ⟨#[]⟩, .bool false, .string ⟨#[]⟩, .bool false, .slice none 0 0] 30 (0, 0)) := q7
      have q8' : W.heap[w3.heap.size + 1]? = some (.cells #[.bool false] 4 (0, 0)) := q8
      have m0 : W.cell? ⟨w3.heap.size, 0, none⟩ = some (.string ⟨#[]⟩) := cellK q7' 0
      have mf0 : W.frozen? ⟨w3.heap.size, 0, none⟩ = false := froK q7' 0
      have m1 : W.cell? ⟨w3.heap.size, 1, none⟩ = some (.int .i64 0) := cellK q7' 1
      have mf1 : W.frozen? ⟨w3.heap.size, 1, none⟩ = false := froK q7' 1
      have m2 : W.cell? ⟨w3.heap.size, 2, none⟩ = some (.string ⟨#[]⟩) := cellK q7' 2
      have mf2 : W.frozen? ⟨w3.heap.size, 2, none⟩ = false := froK q7' 2
      have m3 : W.cell? ⟨w3.heap.size, 3, none⟩ = some (.string ⟨#[]⟩) := cellK q7' 3
      have mf3 : W.frozen? ⟨w3.heap.size, 3, none⟩ = false := froK q7' 3
      have m4 : W.cell? ⟨w3.heap.size, 4, none⟩ = some (.bool false) := cellK q7' 4
      have mf4 : W.frozen? ⟨w3.heap.size, 4, none⟩ = false := froK q7' 4
      have m5 : W.cell? ⟨w3.heap.size, 5, none⟩ = some (.string ⟨#[]⟩) := cellK q7' 5
      have mf5 : W.frozen? ⟨w3.heap.size, 5, none⟩ = false := froK q7' 5
      have m6 : W.cell? ⟨w3.heap.size, 6, none⟩ = some (.bool false) := cellK q7' 6
      have mf6 : W.frozen? ⟨w3.heap.size, 6, none⟩ = false := froK q7' 6
      have m7 : W.cell? ⟨w3.heap.size, 7, none⟩ = some (.slice none 0 0) := cellK q7' 7
      have mf7 : W.frozen? ⟨w3.heap.size, 7, none⟩ = false := froK q7' 7
      have f0 : W.cell? ⟨w3.heap.size + 1, 0, none⟩ = some (.bool false) := cellK q8' 0
      have ff0 : W.frozen? ⟨w3.heap.size + 1, 0, none⟩ = false := froK q8' 0
      have y0 : W.cell? ⟨Bx, 0, none⟩ = some (.string x.v.n) := cellK bX 0
      have y1 : W.cell? ⟨Bx, 1, none⟩ = some (.int .i64 x.v.c) := cellK bX 1
      have y2 : W.cell? ⟨Bx, 2, none⟩ = some (.string x.v.z) := cellK bX 2
      have y3 : W.cell? ⟨Bx, 3, none⟩ = some (.string x.v.k) := cellK bX 3
      have y4 : W.cell? ⟨Bx, 4, none⟩ = some (.bool x.v.x) := cellK bX 4
      have y5 : W.cell? ⟨Bx, 5, none⟩ = some (.string x.v.m) := cellK bX 5
      have y6 : W.cell? ⟨Bx, 6, none⟩ = some (.bool x.v.y) := cellK bX 6
      have y7 : W.cell? ⟨Bx, 7, none⟩ = some (.slice x.a x.len x.cap) := cellK bX 7
      have HP := hidK (HI.out.put (x := x) hww (by rw [hbx]; rfl))
      clear q7 q8 q7' q8' bX hbx
      gi_wp2
      refine ⟨trivial, ?_⟩
      gi_wp2
      exact ⟨BI.kf, BI.kp, HP.out⟩
    | some u =>
      obtain ⟨⟨q7, q8⟩, -, -⟩ := hi
      rw [hbx] at q7 q8
      have q7' : W.heap[w3.heap.size]? = some (.cells #[.string u.v.n, .int .i64 u.v.c, .string u.v.z, .string u.v.k, .bool u.v.x, .string u.v.m, .bool u.v.y, .slice u.a u.len u.cap] 30 (0, 0)) := q7
      have q8' : W.heap[w3.heap.size + 1]? = some (.cells #[.bool true] 4 (0, 0)) := q8
      have m0 : W.cell? ⟨w3.heap.size, 0, none⟩ = some (.string u.v.n) := cellK q7' 0
      have mf0 : W.frozen? ⟨w3.heap.size, 0, none⟩ = false := froK q7' 0
      have m1 : W.cell? ⟨w3.heap.size, 1, none⟩ = some (.int .i64 u.v.c) := cellK q7' 1
      have mf1 : W.frozen? ⟨w3.heap.size, 1, none⟩ = false := froK q7' 1
      have m2 : W.cell? ⟨w3.heap.size, 2, none⟩ = some (.string u.v.z) := cellK q7' 2
      have mf2 : W.frozen? ⟨w3.heap.size, 2, none⟩ = false := froK q7' 2
      have m3 : W.cell? ⟨w3.heap.size, 3, none⟩ = some (.string u.v.k) := cellK q7' 3
      have mf3 : W.frozen? ⟨w3.heap.size, 3, none⟩ = false := froK q7' 3
      have m4 : W.cell? ⟨w3.heap.size, 4, none⟩ = some (.bool u.v.x) := cellK q7' 4
      have mf4 : W.frozen? ⟨w3.heap.size, 4, none⟩ = false := froK q7' 4
      have m5 : W.cell? ⟨w3.heap.size, 5, none⟩ = some (.string u.v.m) := cellK q7' 5
      have mf5 : W.frozen? ⟨w3.heap.size, 5, none⟩ = false := froK q7' 5
      have m6 : W.cell? ⟨w3.heap.size, 6, none⟩ = some (.bool u.v.y) := cellK q7' 6
      have mf6 : W.frozen? ⟨w3.heap.size, 6, none⟩ = false := froK q7' 6
      have m7 : W.cell? ⟨w3.heap.size, 7, none⟩ = some (.slice u.a u.len u.cap) := cellK q7' 7
      have mf7 : W.frozen? ⟨w3.heap.size, 7, none⟩ = false := froK q7' 7
      have f0 : W.cell? ⟨w3.heap.size + 1, 0, none⟩ = some (.bool true) := cellK q8' 0
      have ff0 : W.frozen? ⟨w3.heap.size + 1, 0, none⟩ = false := froK q8' 0
      have y0 : W.cell? ⟨Bx, 0, none⟩ = some (.string x.v.n) := cellK bX 0
      have y1 : W.cell? ⟨Bx, 1, none⟩ = some (.int .i64 x.v.c) := cellK bX 1
      have y2 : W.cell? ⟨Bx, 2, none⟩ = some (.string x.v.z) := cellK bX 2
      have y3 : W.cell? ⟨Bx, 3, none⟩ = some (.string x.v.k) := cellK bX 3
      have y4 : W.cell? ⟨Bx, 4, none⟩ = some (.bool x.v.x) := cellK bX 4
      have y5 : W.cell? ⟨Bx, 5, none⟩ = some (.string x.v.m) := cellK bX 5
      have y6 : W.cell? ⟨Bx, 6, none⟩ = some (.bool x.v.y) := cellK bX 6
      have y7 : W.cell? ⟨Bx, 7, none⟩ = some (.slice x.a x.len x.cap) := cellK bX 7
      clear q7 q8
      gi_wp2_with fail
      refine ⟨trivial, (CallsIn.inRound l (callsIn_wide.2 (better_any x.v u.v x.a u.a x.len x.cap u.len u.cap _))).mono ?_⟩
      rintro e W2 ⟨rfl, hb2⟩
      have hi2 := HI.out.below (by omega) (by omega) hb2
      have HI2 := hidK hi2
      have HKF := hidK (keeps_below (B := w5.heap.size) hb2)
      have HKP := hidK (KpB.below (h := w3.heap.size) hb2 HI.out.2.1.1)
      have z7 := (hb2.block _ (lt_of_some q7')).trans q7'
      have z8 := (hb2.block _ (lt_of_some q8')).trans q8'
      have zX := (hb2.block _ (lt_of_some bX)).trans bX
      clear hi2 m0 mf0 y0 m1 mf1 y1 m2 mf2 y2 m3 mf3 y3 m4 mf4 y4 m5 mf5 y5 m6 mf6 y6 m7 mf7 y7 f0 ff0
      have m0 : W2.cell? ⟨w3.heap.size, 0, none⟩ = some (.string u.v.n) := cellK z7 0
      have mf0 : W2.frozen? ⟨w3.heap.size, 0, none⟩ = false := froK z7 0
      have m1 : W2.cell? ⟨w3.heap.size, 1, none⟩ = some (.int .i64 u.v.c) := cellK z7 1
      have mf1 : W2.frozen? ⟨w3.heap.size, 1, none⟩ = false := froK z7 1
      have m2 : W2.cell? ⟨w3.heap.size, 2, none⟩ = some (.string u.v.z) := cellK z7 2
      have mf2 : W2.frozen? ⟨w3.heap.size, 2, none⟩ = false := froK z7 2
      have m3 : W2.cell? ⟨w3.heap.size, 3, none⟩ = some (.string u.v.k) := cellK z7 3
      have mf3 : W2.frozen? ⟨w3.heap.size, 3, none⟩ = false := froK z7 3
      have m4 : W2.cell? ⟨w3.heap.size, 4, none⟩ = some (.bool u.v.x) := cellK z7 4
      have mf4 : W2.frozen? ⟨w3.heap.size, 4, none⟩ = false := froK z7 4
      have m5 : W2.cell? ⟨w3.heap.size, 5, none⟩ = some (.string u.v.m) := cellK z7 5
      have mf5 : W2.frozen? ⟨w3.heap.size, 5, none⟩ = false := froK z7 5
      have m6 : W2.cell? ⟨w3.heap.size, 6, none⟩ = some (.bool u.v.y) := cellK z7 6
      have mf6 : W2.frozen? ⟨w3.heap.size, 6, none⟩ = false := froK z7 6
      have m7 : W2.cell? ⟨w3.heap.size, 7, none⟩ = some (.slice u.a u.len u.cap) := cellK z7 7
      have mf7 : W2.frozen? ⟨w3.heap.size, 7, none⟩ = false := froK z7 7
      have f0 : W2.cell? ⟨w3.heap.size + 1, 0, none⟩ = some (.bool true) := cellK z8 0
      have ff0 : W2.frozen? ⟨w3.heap.size + 1, 0, none⟩ = false := froK z8 0
      have y0 : W2.cell? ⟨Bx, 0, none⟩ = some (.string x.v.n) := cellK zX 0
      have y1 : W2.cell? ⟨Bx, 1, none⟩ = some (.int .i64 x.v.c) := cellK zX 1
      have y2 : W2.cell? ⟨Bx, 2, none⟩ = some (.string x.v.z) := cellK zX 2
      have y3 : W2.cell? ⟨Bx, 3, none⟩ = some (.string x.v.k) := cellK zX 3
      have y4 : W2.cell? ⟨Bx, 4, none⟩ = some (.bool x.v.x) := cellK zX 4
      have y5 : W2.cell? ⟨Bx, 5, none⟩ = some (.string x.v.m) := cellK zX 5
      have y6 : W2.cell? ⟨Bx, 6, none⟩ = some (.bool x.v.y) := cellK zX 6
      have y7 : W2.cell? ⟨Bx, 7, none⟩ = some (.slice x.a x.len x.cap) := cellK zX 7
      clear hb2 z7 z8 zX q7' q8' bX
      cases hbe : betB x.v u.v
      · have HP : Hid (BI w w5 w3.heap.size (pre ++ [x]) W2) := by
          have h9 := HI2.out
          show BI w w5 w3.heap.size (pre ++ [x]) W2
          unfold BI at h9 ⊢
          rw [bestX_snoc, hbx]
          rw [hbx] at h9
          simpa [stepX, hbe] using h9
        clear hbe hbx
        gi_wp2
        exact ⟨HKF.out, HKP.out, HP.out⟩
      · have HP := hidK (HI2.out.put (x := x) hww (by rw [hbx]; simp [stepX, hbe]))
        clear hbe hbx
        gi_wp2
        exact ⟨HKF.out.trans BI.kf, HKP.out.trans BI.kp, HP.out⟩
  case stop =>
    rintro D c pre W _ _ h _
    exact h.elim
  case done =>
    rintro D ys W hD rfl hi hK
    have hput : ∀ (X : World) (o : Obj) (q : Nat), (X.putObj D o).cell? ⟨w.heap.size + 1, q, none⟩ = X.cell? ⟨w.heap.size + 1, q, none⟩ := fun X o q => by
      simp only [World.cell?]
      rw [World.putObj_heap_other (show w.heap.size + 1 ≠ D by omega)]
    have hsame := best_same (svV c' k' x' t) xl
    rw [HXV.out] at hsame
    have go := (hi.2.1.2 (w.heap.size + 1) (by omega) (by omega) (by omega)).trans HX5.out
    have HI := hidK hi
    have HKD := hidK hK
    have hwW := hi.2.2.size
    obtain ⟨⟨q7, q8⟩, -, -⟩ := hi
    refine hK0 _ _ ?_
    clear hK0 hK
    cases hbx : bestX (xl.filter fun x => svV c' k' x' t x.v) with
    | none =>
      rw [hbx] at q8 hsame
      have q8' : W.heap[w3.heap.size + 1]? = some (.cells #[.bool false] 4 (0, 0)) := q8
      have f0 : W.cell? ⟨w3.heap.size + 1, 0, none⟩ = some (.bool false) := cellK q8' 0
      have HN : Hid (bestV (svV c' k' x' t) vs = none) := hsame.symm
      have r0 : W.cell? ⟨w.heap.size + 1, 0, none⟩ = some (.string ⟨#[]⟩) := cellK go 0
      have rf0 : W.frozen? ⟨w.heap.size + 1, 0, none⟩ = false := froK go 0
      have r1 : W.cell? ⟨w.heap.size + 1, 1, none⟩ = some (.int .i64 0) := cellK go 1
      have rf1 : W.frozen? ⟨w.heap.size + 1, 1, none⟩ = false := froK go 1
      have r2 : W.cell? ⟨w.heap.size + 1, 2, none⟩ = some (.string ⟨#[]⟩) := cellK go 2
      have rf2 : W.frozen? ⟨w.heap.size + 1, 2, none⟩ = false := froK go 2
      have r3 : W.cell? ⟨w.heap.size + 1, 3, none⟩ = some (.string ⟨#[]⟩) := cellK go 3
      have rf3 : W.frozen? ⟨w.heap.size + 1, 3, none⟩ = false := froK go 3
      have r4 : W.cell? ⟨w.heap.size + 1, 4, none⟩ = some (.bool false) := cellK go 4
      have rf4 : W.frozen? ⟨w.heap.size + 1, 4, none⟩ = false := froK go 4
      have r5 : W.cell? ⟨w.heap.size + 1, 5, none⟩ = some (.string ⟨#[]⟩) := cellK go 5
      have rf5 : W.frozen? ⟨w.heap.size + 1, 5, none⟩ = false := froK go 5
      have r6 : W.cell? ⟨w.heap.size + 1, 6, none⟩ = some (.bool false) := cellK go 6
      have rf6 : W.frozen? ⟨w.heap.size + 1, 6, none⟩ = false := froK go 6
      have r7 : W.cell? ⟨w.heap.size + 1, 7, none⟩ = some (.slice none 0 0) := cellK go 7
      have rf7 : W.frozen? ⟨w.heap.size + 1, 7, none⟩ = false := froK go 7
      have r8 : W.cell? ⟨w.heap.size + 1, 8, none⟩ = some (.int .i64 0) := cellK go 8
      have rf8 : W.frozen? ⟨w.heap.size + 1, 8, none⟩ = false := froK go 8
      clear q7 q8 q8' go hbx hsame
      go_wp2_with fail
      refine ⟨by simp, .inl ⟨_, _, rfl, run_takeDeferred ((heap_other9 (by omega)).trans HKD.out), ?_⟩⟩
      refine ⟨.agg #[.string ⟨#[]⟩, .int .i64 0, .string ⟨#[]⟩, .string ⟨#[]⟩, .bool false, .string ⟨#[]⟩, .bool false, .slice none 0 0, .int .i64 6], ?_, BestAns.bad (.inr (.inr (.inl ⟨HL.out, HRR.out, HN.out, rfl, rfl⟩))) ((set_below9B (by omega) HI.out.2.2).trans (belowK_b (w := w) (Nat.le_refl _) _ D _ _ (by omega) ((heap_other9 (by omega)).trans HKD.out) rfl rfl))⟩
      simp [results, Try.results9, go_sem, *]
    | some x =>
      rw [hbx] at q7 q8 hsame
      have q7' : W.heap[w3.heap.size]? = some (.cells #[.string x.v.n, .int .i64 x.v.c, .string x.v.z, .string x.v.k, .bool x.v.x, .string x.v.m, .bool x.v.y, .slice x.a x.len x.cap] 30 (0, 0)) := q7
      have q8' : W.heap[w3.heap.size + 1]? = some (.cells #[.bool true] 4 (0, 0)) := q8
      have f0 : W.cell? ⟨w3.heap.size + 1, 0, none⟩ = some (.bool true) := cellK q8' 0
      have HN : Hid (bestV (svV c' k' x' t) vs = some x.v) := hsame.symm
      have y0 : W.cell? ⟨w3.heap.size, 0, none⟩ = some (.string x.v.n) := cellK q7' 0
      have y1 : W.cell? ⟨w3.heap.size, 1, none⟩ = some (.int .i64 x.v.c) := cellK q7' 1
      have y2 : W.cell? ⟨w3.heap.size, 2, none⟩ = some (.string x.v.z) := cellK q7' 2
      have y3 : W.cell? ⟨w3.heap.size, 3, none⟩ = some (.string x.v.k) := cellK q7' 3
      have y4 : W.cell? ⟨w3.heap.size, 4, none⟩ = some (.bool x.v.x) := cellK q7' 4
      have y5 : W.cell? ⟨w3.heap.size, 5, none⟩ = some (.string x.v.m) := cellK q7' 5
      have y6 : W.cell? ⟨w3.heap.size, 6, none⟩ = some (.bool x.v.y) := cellK q7' 6
      have y7 : W.cell? ⟨w3.heap.size, 7, none⟩ = some (.slice x.a x.len x.cap) := cellK q7' 7
      have hmem : x ∈ xl := by
        rcases bestX_mem _ _ _ hbx with h | h
        · exact (List.mem_filter.1 h).1
        · cases h
      obtain ⟨j, hj⟩ := List.getElem?_of_mem hmem
      have HT := hidK ((HTX.out j x hj).below HI.out.2.2)
      have hvj : vs[j]? = some x.v := by rw [← HXV.out, List.getElem?_map, hj]; rfl
      have hxl6 : x.len ≤ 8001 := by
        have h6 := names_few (HRR.out.2.2.2 j x.v hvj).2.2.2.2.2.2
        have := HT.out.1
        omega
      have HGO := hidK go
      clear q7 q8 q7' q8' hbx hsame go hmem hj hvj
      go_wp2_with fail
      refine (Ap.iown_any x.v.n x.v.c x.v.z x.v.k x.v.x x.v.m x.v.y x.a x.len x.cap x.v.zs _ HT.out hxl6).mono ?_
      rintro e W6 ⟨a', l', p', rfl, z1, z2, hb6⟩
      have go := (hb6.block _ (lt_of_some HGO.out)).trans HGO.out
      have hDl := lt_of_some HKD.out
      have HK6 := hidK ((hb6.block _ hDl).trans HKD.out)
      have HQ : Hid (TxRow W6 a' l' p' x.v.zs ∧ (x.v.zs = [] ∨ ∃ g cur, a' = some ⟨g, 0, none⟩ ∧ W.heap.size ≤ g ∧ W6.heap[g]? = some (.cells cur 9 (0, 0))) ∧ Below w.heap.size w W6) := ⟨z1, z2, HI.out.2.2.trans (hb6.mono HI.out.2.2.size)⟩
      have hol : w.heap.size + 1 < W.heap.size := lt_of_some HGO.out
      have r0 : W6.cell? ⟨w.heap.size + 1, 0, none⟩ = some (.string ⟨#[]⟩) := cellK go 0
      have rf0 : W6.frozen? ⟨w.heap.size + 1, 0, none⟩ = false := froK go 0
      have r1 : W6.cell? ⟨w.heap.size + 1, 1, none⟩ = some (.int .i64 0) := cellK go 1
      have rf1 : W6.frozen? ⟨w.heap.size + 1, 1, none⟩ = false := froK go 1
      have r2 : W6.cell? ⟨w.heap.size + 1, 2, none⟩ = some (.string ⟨#[]⟩) := cellK go 2
      have rf2 : W6.frozen? ⟨w.heap.size + 1, 2, none⟩ = false := froK go 2
      have r3 : W6.cell? ⟨w.heap.size + 1, 3, none⟩ = some (.string ⟨#[]⟩) := cellK go 3
      have rf3 : W6.frozen? ⟨w.heap.size + 1, 3, none⟩ = false := froK go 3
      have r4 : W6.cell? ⟨w.heap.size + 1, 4, none⟩ = some (.bool false) := cellK go 4
      have rf4 : W6.frozen? ⟨w.heap.size + 1, 4, none⟩ = false := froK go 4
      have r5 : W6.cell? ⟨w.heap.size + 1, 5, none⟩ = some (.string ⟨#[]⟩) := cellK go 5
      have rf5 : W6.frozen? ⟨w.heap.size + 1, 5, none⟩ = false := froK go 5
      have r6 : W6.cell? ⟨w.heap.size + 1, 6, none⟩ = some (.bool false) := cellK go 6
      have rf6 : W6.frozen? ⟨w.heap.size + 1, 6, none⟩ = false := froK go 6
      have r7 : W6.cell? ⟨w.heap.size + 1, 7, none⟩ = some (.slice none 0 0) := cellK go 7
      have rf7 : W6.frozen? ⟨w.heap.size + 1, 7, none⟩ = false := froK go 7
      have r8 : W6.cell? ⟨w.heap.size + 1, 8, none⟩ = some (.int .i64 0) := cellK go 8
      have rf8 : W6.frozen? ⟨w.heap.size + 1, 8, none⟩ = false := froK go 8
      clear go z1 z2 hb6 y0 y1 y2 y3 y4 y5 y6 y7 f0
      go_wp2_with fail
      refine ⟨by simp, .inl ⟨_, _, rfl, run_takeDeferred ((heap_other9 (by omega)).trans HK6.out), ?_⟩⟩
      refine ⟨.agg #[.string x.v.n, .int .i64 x.v.c, .string x.v.z, .string x.v.k, .bool x.v.x, .string x.v.m, .bool x.v.y, .slice a' l' p', .int .i64 0], ?_, x.v, 0, a', l', p', rfl, .inr (.inr (.inr ⟨HL.out, HRR.out, HN.out, rfl⟩)), own_put (own_set9 HQ.out (by omega) hol) ((heap_other9 (by omega)).trans HK6.out) (by omega)⟩
      simp [results, Try.results9, go_sem, *]

theorem ibest_any (a : Option Addr) (len cap : Nat) (vs : List Vd) (n' : ByteArray) (c' : Int) (k' : ByteArray) (x' : Bool) (v' : ByteArray) (t : ByteArray) (w : World) (hn' : n'.size ≤ 9223372036854775807) (hk' : k'.size ≤ 9223372036854775807) (hv' : v'.size ≤ 9223372036854775807) (ht : t.size ≤ 9223372036854775807) (hr : VsRow w a len cap vs) :
    Calls Try.prog 9 #[.slice a len cap, .agg #[.string n', .int .i64 c', .string k', .bool x', .string v'], .string t] w (BestAns vs n' c' k' x' v' t w) := by
  by_cases h1 : 400 < vs.length ∨ 8000 < t.size
  · exact ibest_bad a len cap vs n' c' k' x' v' t w hn' hk' hv' ht hr (.inl h1)
  by_cases h2 : BestR vs n' c' k' v' t
  · exact ibest_right a len cap vs n' c' k' x' v' t w hn' hk' hv' ht hr h1 h2
  · exact ibest_bad a len cap vs n' c' k' x' v' t w hn' hk' hv' ht hr (.inr h2)

end Go.Proofs.Ytjkgpkgbaapdmaa
