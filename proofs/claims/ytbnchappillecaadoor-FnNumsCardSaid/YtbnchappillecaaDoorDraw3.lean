/-
  What DrawSeal and DrawCrcMore give: some text, some number.
-/
import Derived.Test.YtbnchappillecaaDoorDraw2
import Derived.Test.YtbnchappillecaaDoorCrc
import Derived.Test.YtbnchappillecaaDoorJoin
import Derived.Deep.RegionWith
namespace Go.Proofs.YtbnchappillecaaDoor
open Go.RowKit

theorem made_zero (n : Nat) : (madeCells #[Value.int IntKind.u8 0] n).toList = Lib.byteCells (List.replicate n 0) := by
  apply List.ext_getElem
  · simp [madeCells, Lib.byteCells]
  · intro i h1 h2
    simp [madeCells, Lib.byteCells, Nat.mod_one]
def edgeL : List Int := [0, 1, -1, 2, 1000, 1001, 2147483648, 2147483647, -2147483648, 4611686018427387904, 9223372036854775807, -9223372036854775808, 1000000, 1000001]
theorem edge_at (k : Nat) (h : k < 14) : ∃ x : Int, (edgeL.map (Value.int .i64))[k]? = some (.int .i64 x) ∧ -9223372036854775808 ≤ x ∧ x ≤ 9223372036854775807 := by
  have hl : k < edgeL.length := h
  have hall : ∀ x ∈ edgeL, -9223372036854775808 ≤ x ∧ x ≤ 9223372036854775807 := by decide
  exact ⟨edgeL[k], by simp [hl], hall _ (List.getElem_mem hl)⟩

/-- A number at an edge was drawn. -/
def DrewEdge (B : Nat) (w0 : World) (p : Nat) (v : Value) (len : Nat) (w : World) (e : Ending) (w' : World) : Prop := ∃ x : Int, e = .returned (.int .i64 x) ∧ -9223372036854775808 ≤ x ∧ x ≤ 9223372036854775807 ∧ Src B w0 p v len w' ∧ w.grownBy w' (some p)

set_option maxHeartbeats 1600000 in
theorem edge_any {B : Nat} {w0 : World} {p : Nat} {v : Value} {len : Nat} {w : World} (h : Src B w0 p v len w) :
    Calls Tryd.prog 24 #[.pointer (some ⟨p, 0, none⟩)] w (DrewEdge B w0 p v len w) := by
  have HS : Hid (Src B w0 p v len w) := h
  clear h
  go_enter Tryd.func24, Tryd.ntmps24
  go_wp2_with fail
  have hS0 := HS.out.keep (grown_alloc w (.cells (edgeL.map (Value.int .i64)).toArray 2) none) (by simp) (fun k hk => by cases hk)
  refine (hS0.n 14 (by decide)).mono ?_
  rintro e w1 ⟨r, rfl, r0, r1, hS1, hg1⟩
  obtain ⟨k, rfl⟩ := Int.eq_ofNat_of_zero_le r0
  have hk : k < 14 := by omega
  obtain ⟨x, hx, x0, x1⟩ := edge_at k hk
  have hpw : p < w.heap.size := HS.out.plt
  have hblk : w1.heap[w.heap.size]? = some (.cells (edgeL.map (Value.int .i64)).toArray 2 (0, 0)) := by
    rw [hg1.block w.heap.size (by simp) (fun e => by simp at e; omega)]
    show (w.heap.push _)[w.heap.size]? = _
    simp
  have hc : w1.cell? ⟨w.heap.size, k, none⟩ = some (.int .i64 x) := by
    simp only [World.cell?, hblk]
    simpa using hx
  have HS1 : Hid (Src B w0 p v len w1) := hS1
  have HG : Hid (w.grownBy w1 (some p)) := grown_trans (grown_alloc w _ _) hg1
  have hki : (k : Int) < 14 := by omega
  clear hS0 hS1 hg1 hblk hx HS r1 r0
  go_wp2
  go_ret
  exact ⟨x, rfl, x0, x1, HS1.out, HG.out⟩

/-- A text was drawn. -/
def DrewT (w : World) (most : Nat) (e : Ending) (w' : World) : Prop := ∃ t : ByteArray, e = .returned (.string t) ∧ t.size ≤ most ∧ Below w.heap.size w w'

/-- A number and a text were drawn. -/
def DrewCT (w : World) (e : Ending) (w' : World) : Prop := ∃ (c : Int) (t : ByteArray), e = .returned (.tuple #[.int .i64 c, .string t]) ∧ -9223372036854775808 ≤ c ∧ c ≤ 9223372036854775807 ∧ t.size ≤ 8 ∧ Below w.heap.size w w'

end Go.Proofs.YtbnchappillecaaDoor
