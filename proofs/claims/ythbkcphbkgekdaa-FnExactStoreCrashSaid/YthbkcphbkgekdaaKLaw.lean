/-
  What the laws on kinds call besides: measures, copies, comparisons.
-/
import Derived.Test.YthbkcphbkgekdaaKinds
namespace Go.Proofs.Ythbkcphbkgekdaa
open Go.RowKit

/-- The frozen word of a block. -/
theorem froK {w : World} {b : Nat} {vs : Array Value} {T : TypeId} (h : w.heap[b]? = some (.cells vs T (0, 0))) (i : Nat) : w.frozen? ⟨b, i, none⟩ = false := by simp [World.frozen?, h]
/-- A copied list, in a later world. -/
theorem TxRow.copy {w : World} {b len : Nat} {zs : List ByteArray} {T : TypeId} (h : w.heap[b]? = some (.cells (zs.map Value.string).toArray T (0, 0))) (hl : zs.length = len) (hl2 : len ≤ 1048576) (hs : ∀ (j : Nat) x, zs[j]? = some x → x.size ≤ 9223372036854775807) :
    TxRow w (some ⟨b, 0, none⟩) len len zs := by
  refine ⟨hl, Nat.le_refl _, by omega, hs, ?_⟩
  by_cases hz : zs = []
  · exact Or.inl hz
  refine Or.inr ⟨b, 0, rfl, ?_, fun j x hx => ?_⟩
  · rcases Nat.lt_or_ge b w.heap.size with h1 | h1
    · exact h1
    · rw [Array.getElem?_eq_none h1] at h; cases h
  · rw [cellK h]
    simp [hx]

theorem set_keeps {w1 : World} {b i k : Nat} {v : Value} {o : Option Obj} (hk : k ≠ b) (h : w1.heap[k]? = o) : (w1.setCell ⟨b, i, none⟩ v).heap[k]? = o := by rw [Below.heap_setCell _ _ _ _ hk]; exact h
theorem set_below {w w1 : World} {B b i : Nat} {v : Value} (hB : B ≤ b) (h : Below B w w1) : Below B w (w1.setCell ⟨b, i, none⟩ v) := h.setCell hB v
theorem lt_of_some {w : World} {b : Nat} {o : Obj} (h : w.heap[b]? = some o) : b < w.heap.size := by
  rcases Nat.lt_or_ge b w.heap.size with h1 | h1
  · exact h1
  · rw [Array.getElem?_eq_none h1] at h; cases h
theorem heap2_0 (w : World) (o p : Obj) : ((w.alloc o).alloc p).heap[w.heap.size]? = some o := by
  rw [Below.heap_alloc _ _ _ (by simp)]
  exact Array.getElem?_push_size
theorem heap2_1 (w : World) (o p : Obj) : ((w.alloc o).alloc p).heap[w.heap.size + 1]? = some p := by
  have h : w.heap.size + 1 = (w.alloc o).heap.size := by simp
  rw [h]
  exact Array.getElem?_push_size
theorem heap3_0 (w : World) (o p q : Obj) : (((w.alloc o).alloc p).alloc q).heap[w.heap.size]? = some o := by
  rw [Below.heap_alloc _ _ _ (by simp; omega), Below.heap_alloc _ _ _ (by simp)]
  show (w.heap.push _)[w.heap.size]? = _
  simp
theorem heap3_1 (w : World) (o p q : Obj) : (((w.alloc o).alloc p).alloc q).heap[w.heap.size + 1]? = some p := by
  rw [Below.heap_alloc _ _ _ (by simp)]
  have h : w.heap.size + 1 = (w.alloc o).heap.size := by simp
  rw [h]
  show ((w.alloc o).heap.push _)[(w.alloc o).heap.size]? = _
  exact Array.getElem?_push_size
theorem heap3_2 (w : World) (o p q : Obj) : (((w.alloc o).alloc p).alloc q).heap[w.heap.size + 1 + 1]? = some q := by
  have h : w.heap.size + 1 + 1 = ((w.alloc o).alloc p).heap.size := by simp
  rw [h]
  show (((w.alloc o).alloc p).heap.push _)[((w.alloc o).alloc p).heap.size]? = _
  exact Array.getElem?_push_size
/-- What is left of a measure, where blocks may have been laid. -/
def SzB (left : Int) (p : Prop) (w : World) (e : Ending) (w' : World) : Prop := ∃ r : Int, e = .returned (.int .i64 r) ∧ (r = -1 ∨ (0 ≤ r ∧ r ≤ left ∧ p)) ∧ Below w.heap.size w w'
theorem below2 (w : World) (o p : Obj) : Below w.heap.size w ((w.alloc o).alloc p) := (below1 w o).alloc (by simp) p
theorem below3 (w : World) (o p q : Obj) : Below w.heap.size w (((w.alloc o).alloc p).alloc q) := (below2 w o p).alloc (by simp; omega) q
theorem tl_yes {a b : ByteArray} (h : a = b) : (a.toList == b.toList) = true := by rw [h]; simp

/-! The cells of a block, at once; what stands behind a callee that came up over new blocks. -/
theorem cs1 {w : World} {b : Nat} {T : TypeId} {v0 : Value} (h : w.heap[b]? = some (.cells #[v0] T (0, 0))) : w.cell? ⟨b, 0, none⟩ = some v0 := cellK h 0
theorem cs2 {w : World} {b : Nat} {T : TypeId} {v0 v1 : Value} (h : w.heap[b]? = some (.cells #[v0, v1] T (0, 0))) : w.cell? ⟨b, 0, none⟩ = some v0 ∧ w.cell? ⟨b, 1, none⟩ = some v1 := ⟨cellK h 0, cellK h 1⟩
theorem cs3 {w : World} {b : Nat} {T : TypeId} {v0 v1 v2 : Value} (h : w.heap[b]? = some (.cells #[v0, v1, v2] T (0, 0))) : w.cell? ⟨b, 0, none⟩ = some v0 ∧ w.cell? ⟨b, 1, none⟩ = some v1 ∧ w.cell? ⟨b, 2, none⟩ = some v2 := ⟨cellK h 0, cellK h 1, cellK h 2⟩
theorem cs4 {w : World} {b : Nat} {T : TypeId} {v0 v1 v2 v3 : Value} (h : w.heap[b]? = some (.cells #[v0, v1, v2, v3] T (0, 0))) : w.cell? ⟨b, 0, none⟩ = some v0 ∧ w.cell? ⟨b, 1, none⟩ = some v1 ∧ w.cell? ⟨b, 2, none⟩ = some v2 ∧ w.cell? ⟨b, 3, none⟩ = some v3 := ⟨cellK h 0, cellK h 1, cellK h 2, cellK h 3⟩
theorem cs5 {w : World} {b : Nat} {T : TypeId} {v0 v1 v2 v3 v4 : Value} (h : w.heap[b]? = some (.cells #[v0, v1, v2, v3, v4] T (0, 0))) : w.cell? ⟨b, 0, none⟩ = some v0 ∧ w.cell? ⟨b, 1, none⟩ = some v1 ∧ w.cell? ⟨b, 2, none⟩ = some v2 ∧ w.cell? ⟨b, 3, none⟩ = some v3 ∧ w.cell? ⟨b, 4, none⟩ = some v4 := ⟨cellK h 0, cellK h 1, cellK h 2, cellK h 3, cellK h 4⟩
theorem cs6 {w : World} {b : Nat} {T : TypeId} {v0 v1 v2 v3 v4 v5 : Value} (h : w.heap[b]? = some (.cells #[v0, v1, v2, v3, v4, v5] T (0, 0))) : w.cell? ⟨b, 0, none⟩ = some v0 ∧ w.cell? ⟨b, 1, none⟩ = some v1 ∧ w.cell? ⟨b, 2, none⟩ = some v2 ∧ w.cell? ⟨b, 3, none⟩ = some v3 ∧ w.cell? ⟨b, 4, none⟩ = some v4 ∧ w.cell? ⟨b, 5, none⟩ = some v5 := ⟨cellK h 0, cellK h 1, cellK h 2, cellK h 3, cellK h 4, cellK h 5⟩
theorem cs7 {w : World} {b : Nat} {T : TypeId} {v0 v1 v2 v3 v4 v5 v6 : Value} (h : w.heap[b]? = some (.cells #[v0, v1, v2, v3, v4, v5, v6] T (0, 0))) : w.cell? ⟨b, 0, none⟩ = some v0 ∧ w.cell? ⟨b, 1, none⟩ = some v1 ∧ w.cell? ⟨b, 2, none⟩ = some v2 ∧ w.cell? ⟨b, 3, none⟩ = some v3 ∧ w.cell? ⟨b, 4, none⟩ = some v4 ∧ w.cell? ⟨b, 5, none⟩ = some v5 ∧ w.cell? ⟨b, 6, none⟩ = some v6 := ⟨cellK h 0, cellK h 1, cellK h 2, cellK h 3, cellK h 4, cellK h 5, cellK h 6⟩
theorem cs8 {w : World} {b : Nat} {T : TypeId} {v0 v1 v2 v3 v4 v5 v6 v7 : Value} (h : w.heap[b]? = some (.cells #[v0, v1, v2, v3, v4, v5, v6, v7] T (0, 0))) : w.cell? ⟨b, 0, none⟩ = some v0 ∧ w.cell? ⟨b, 1, none⟩ = some v1 ∧ w.cell? ⟨b, 2, none⟩ = some v2 ∧ w.cell? ⟨b, 3, none⟩ = some v3 ∧ w.cell? ⟨b, 4, none⟩ = some v4 ∧ w.cell? ⟨b, 5, none⟩ = some v5 ∧ w.cell? ⟨b, 6, none⟩ = some v6 ∧ w.cell? ⟨b, 7, none⟩ = some v7 := ⟨cellK h 0, cellK h 1, cellK h 2, cellK h 3, cellK h 4, cellK h 5, cellK h 6, cellK h 7⟩
theorem cs9 {w : World} {b : Nat} {T : TypeId} {v0 v1 v2 v3 v4 v5 v6 v7 v8 : Value} (h : w.heap[b]? = some (.cells #[v0, v1, v2, v3, v4, v5, v6, v7, v8] T (0, 0))) : w.cell? ⟨b, 0, none⟩ = some v0 ∧ w.cell? ⟨b, 1, none⟩ = some v1 ∧ w.cell? ⟨b, 2, none⟩ = some v2 ∧ w.cell? ⟨b, 3, none⟩ = some v3 ∧ w.cell? ⟨b, 4, none⟩ = some v4 ∧ w.cell? ⟨b, 5, none⟩ = some v5 ∧ w.cell? ⟨b, 6, none⟩ = some v6 ∧ w.cell? ⟨b, 7, none⟩ = some v7 ∧ w.cell? ⟨b, 8, none⟩ = some v8 := ⟨cellK h 0, cellK h 1, cellK h 2, cellK h 3, cellK h 4, cellK h 5, cellK h 6, cellK h 7, cellK h 8⟩
theorem size1 (w : World) (o : Obj) : (w.alloc o).heap.size = w.heap.size + 1 := by simp
theorem slots1 {w w' : World} {o : Obj} (h : Below (w.alloc o).heap.size (w.alloc o) w') : w'.heap[w.heap.size]? = some o ∧ Below w.heap.size w w' := by
  rw [size1] at h
  exact ⟨(h.block _ (Nat.lt_succ_self _)).trans (heap_alloc_new w o), (below1 w o).trans (h.mono (Nat.le_succ _))⟩
theorem slots2 {w w' : World} {o p : Obj} (h : Below ((w.alloc o).alloc p).heap.size ((w.alloc o).alloc p) w') : w'.heap[w.heap.size]? = some o ∧ w'.heap[w.heap.size + 1]? = some p ∧ Below w.heap.size w w' := by
  obtain ⟨h1, h2⟩ := slots1 h
  rw [size1] at h1
  obtain ⟨h3, h4⟩ := slots1 h2
  exact ⟨h3, h1, h4⟩
theorem slots3 {w w' : World} {o p q : Obj} (h : Below (((w.alloc o).alloc p).alloc q).heap.size (((w.alloc o).alloc p).alloc q) w') : w'.heap[w.heap.size]? = some o ∧ w'.heap[w.heap.size + 1]? = some p ∧ w'.heap[w.heap.size + 1 + 1]? = some q ∧ Below w.heap.size w w' := by
  obtain ⟨h1, h2⟩ := slots1 h
  rw [size1, size1] at h1
  obtain ⟨h3, h4, h5⟩ := slots2 h2
  exact ⟨h3, h4, h1, h5⟩

end Go.Proofs.Ythbkcphbkgekdaa
