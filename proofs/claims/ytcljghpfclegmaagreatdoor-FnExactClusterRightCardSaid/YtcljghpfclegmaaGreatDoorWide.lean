/-
  A statement that leaves its order open, whose operations read and whose callees may lay new blocks: one walk, in the order of the text.
-/
import Derived.Test.YtcljghpfclegmaaGreatDoorKinds
import Derived.Deep.QuietTactic
import Derived.BigQuiet
namespace Go.Proofs.YtcljghpfclegmaaGreatDoor
open Go.RowKit

/-- A world in which all that stood in W stands. -/
def Wd (W : World) : Type := { x : World // Below W.heap.size W x }
def Wd.w {W : World} (i : Wd W) : World := i.1
theorem Wd.b {W : World} (i : Wd W) : Below W.heap.size W i.w := i.2
theorem Wd.ne (W : World) : Nonempty (Wd W) := ⟨⟨W, Below.refl _ _⟩⟩
theorem Wd.cell {W : World} (i : Wd W) {b o : Nat} (h : b < W.heap.size) : i.w.cell? ⟨b, o, none⟩ = W.cell? ⟨b, o, none⟩ := cell_below i.b h
theorem Wd.heap {W : World} (i : Wd W) {b : Nat} (h : b < W.heap.size) : i.w.heap[b]? = W.heap[b]? := i.b.block b h
theorem Wd.slot {W : World} (i : Wd W) {b o : Nat} {vs : Array Value} {T : TypeId} {f : Nat × Nat} {v : Value} (h : W.heap[b]? = some (.cells vs T f)) (hv : vs[o]? = some v) : i.w.cell? ⟨b, o, none⟩ = some v := by
  have hb : b < W.heap.size := by
    rcases Nat.lt_or_ge b W.heap.size with h1 | h1
    · exact h1
    · rw [Array.getElem?_eq_none h1] at h; cases h
  rw [i.cell hb, cellK h, hv]

theorem wp_region_wide {P : Program} {id : Nat} {Q : Exit → Act → World → Prop} {a : Act} {w : World} {l : List Oper} (hm : P.follows .mixedOrders = true) (hB : Region.lexB .any l.toArray = true)
    (h : wpQuiet P l.toArray (fun w' => ∃ i : Wd w, w' = i.w) (fun a' => ∀ w', (∃ i : Wd w, w' = i.w) → Q .normal a' w') l a) : (Code.region id l.toArray true).wp P Q a w :=
  wp_region_quiet (C := fun w' => ∃ i : Wd w, w' = i.w) hm hB ⟨⟨_, (Below.refl w.heap.size w).drew⟩, rfl⟩ (by simpa using h)

theorem Calls.wide {P : Program} {f : FuncId} {args : Array Value} {W : World} {i : Wd W} {v : Value} (h : Calls P f args i.w fun e w' => e = .returned v ∧ Below i.w.heap.size i.w w') : Calls P f args i.w fun e w'' => e = .returned v ∧ ∃ j : Wd W, w'' = j.w :=
  h.mono fun _ w' ⟨he, hb⟩ => ⟨he, ⟨w', i.b.trans (hb.mono i.b.size)⟩, rfl⟩
theorem Calls.wide_same {P : Program} {f : FuncId} {args : Array Value} {W : World} {i : Wd W} {v : Value} (h : Calls P f args i.w fun e w' => e = .returned v ∧ i.w = w') : Calls P f args i.w fun e w'' => e = .returned v ∧ ∃ j : Wd W, w'' = j.w :=
  h.mono fun _ _ ⟨he, hw⟩ => ⟨he, i, hw.symm⟩

end Go.Proofs.YtcljghpfclegmaaGreatDoor
