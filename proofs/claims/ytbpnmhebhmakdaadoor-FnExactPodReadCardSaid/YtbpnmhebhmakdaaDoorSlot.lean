/-
  The slot of a struct of three cells that a call laid first, behind what a callee left.
-/
import Derived.WalkKit
import Derived.Below
namespace Go.Proofs.YtbpnmhebhmakdaaDoor
open Go.RowKit

/-- The slot of a struct of three cells that the call laid first, behind what a callee left. -/
theorem slot3 {w x w1 : World} {v0 v1 v2 : Value} {T : TypeId} (hx : x.heap = (w.alloc (.cells #[v0, v1, v2] T)).heap) (ho : x.os = w.os) (ht : x.tape = w.tape) (hp : x.output = w.output) (hb : Below x.heap.size x w1) :
    w1.cell? ⟨w.heap.size, 0, none⟩ = some v0 ∧ w1.cell? ⟨w.heap.size, 1, none⟩ = some v1 ∧ w1.cell? ⟨w.heap.size, 2, none⟩ = some v2 ∧
    w1.frozen? ⟨w.heap.size, 0, none⟩ = false ∧ w1.frozen? ⟨w.heap.size, 1, none⟩ = false ∧ w1.frozen? ⟨w.heap.size, 2, none⟩ = false ∧ Below w.heap.size w w1 ∧ w.heap.size < w1.heap.size := by
  have hs : x.heap.size = w.heap.size + 1 := by rw [hx]; simp
  have hl : w.heap.size < x.heap.size := by omega
  have hblk : w1.heap[w.heap.size]? = some (.cells #[v0, v1, v2] T (0, 0)) := by
    rw [hb.block _ hl, hx]
    show (w.heap.push _)[w.heap.size]? = _
    simp
  have hw : Below w.heap.size w w1 := ⟨hb.os.trans ho, hb.tape.trans ht, hb.output.trans hp, by have := hb.size; omega, fun k hk => by
    rw [hb.block k (by omega), hx]
    exact Below.heap_alloc _ _ _ hk⟩
  refine ⟨?_, ?_, ?_, ?_, ?_, ?_, hw, by have := hb.size; omega⟩
  · simp [World.cell?, hblk]
  · simp [World.cell?, hblk]
  · simp [World.cell?, hblk]
  · simp [World.frozen?, hblk]
  · simp [World.frozen?, hblk]
  · simp [World.frozen?, hblk]

end Go.Proofs.YtbpnmhebhmakdaaDoor
