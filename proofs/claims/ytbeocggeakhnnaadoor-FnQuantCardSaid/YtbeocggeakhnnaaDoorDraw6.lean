/-
  spoil and pick: some text.
-/
import Derived.Test.YtbeocggeakhnnaaDoorDraw5
namespace Go.Proofs.YtbeocggeakhnnaaDoor
open Go.RowKit

/-- Some text, no longer than n, was drawn. -/
def DrewS (B : Nat) (w0 : World) (p : Nat) (v : Value) (len : Nat) (w : World) (n : Nat) (e : Ending) (w' : World) : Prop := ∃ t : ByteArray, e = .returned (.string t) ∧ t.size ≤ n ∧ Src B w0 p v len w' ∧ w.grownBy w' (some p)

set_option maxHeartbeats 1600000 in
theorem pick_any {B : Nat} {w0 : World} {p : Nat} {v : Value} {len : Nat} {w : World} (h : Src B w0 p v len w) (b n : Nat) (ss : List ByteArray) (T : TypeId) (hb : w.heap[b]? = some (.cells (ss.map Value.string).toArray T (0, 0))) (hbp : ¬ b = p) (hn : ss.length = n) (h0 : 0 < n) (h1 : n ≤ 100) (hz : ∀ x ∈ ss, x.size ≤ 100) :
    Calls Tryd.prog 29 #[.pointer (some ⟨p, 0, none⟩), .slice (some ⟨b, 0, none⟩) n n] w (DrewS B w0 p v len w 100) := by
  have HS : Hid (Src B w0 p v len w) := h
  have HB : Hid (w.heap[b]? = some (.cells (ss.map Value.string).toArray T (0, 0))) := hb
  have HZ : Hid (∀ x ∈ ss, x.size ≤ 100) := hz
  clear h hb hz
  go_enter Tryd.func29, Tryd.ntmps29
  go_wp2_with fail
  refine (HS.out.n n (by omega)).mono ?_
  rintro e w1 ⟨r, rfl, r0, r1, hS1, hg1⟩
  obtain ⟨k, rfl⟩ := Int.eq_ofNat_of_zero_le r0
  have hk : k < n := by omega
  have hblk : w1.heap[b]? = some (.cells (ss.map Value.string).toArray T (0, 0)) := by
    rw [hg1.block b (by
      rcases Nat.lt_or_ge b w.heap.size with h' | h'
      · exact h'
      · have := HB.out; rw [Array.getElem?_eq_none h'] at this; cases this) (fun e => by simp at e; omega)]
    exact HB.out
  have hkl : k < ss.length := by omega
  have hc : w1.cell? ⟨b, k, none⟩ = some (.string ss[k]) := by
    simp [World.cell?, hblk, hkl]
  have HX : Hid ((ss[k]).size ≤ 100) := HZ.out _ (List.getElem_mem hkl)
  have HS1 : Hid (Src B w0 p v len w1) := hS1
  have HG1 : Hid (w.grownBy w1 (some p)) := hg1
  clear hS1 hg1 hblk HS HB HZ r1 r0
  generalize ss[k] = x at hc HX
  go_wp2
  go_ret
  exact ⟨x, rfl, HX.out, HS1.out, HG1.out⟩

end Go.Proofs.YtbeocggeakhnnaaDoor
