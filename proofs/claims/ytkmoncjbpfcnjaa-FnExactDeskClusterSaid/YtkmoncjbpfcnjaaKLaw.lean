/-
  What the laws on kinds call besides: measures, copies, comparisons.
-/
import Derived.Test.YtkmoncjbpfcnjaaKinds
namespace Go.Proofs.Ytkmoncjbpfcnjaa
open Go.RowKit

/-- The frozen word of a block. -/
theorem froK {w : World} {b : Nat} {vs : Array Value} {T : TypeId} (h : w.heap[b]? = some (.cells vs T (0, 0))) (i : Nat) : w.frozen? ⟨b, i, none⟩ = false := by simp [World.frozen?, h]
/-- A copied list, in a later world. -/
theorem TxRow.copy {w : World} {b len : Nat} {zs : List ByteArray} {T : TypeId} (h : w.heap[b]? = some (.cells (zs.map Value.string).toArray T (0, 0))) (hl : zs.length = len) (hl2 : len ≤ 1048576) (hs : ∀ (j : Nat) x, zs[j]? = some x → x.size ≤ 9223372036854775807) :
    TxRow w (some ⟨b, 0, none⟩) len len zs := by
  refine ⟨hl, Nat.le_refl _, by omega, hs, ?_⟩
  by_cases hz : zs = []
  · exact Or.inl hz
  refine Or.inr ⟨b, 0, rfl, ?_, fun j x hx => ?_⟩
  · rcases Nat.lt_or_ge b w.heap.size with h1 | h1
    · exact h1
    · rw [Array.getElem?_eq_none h1] at h; cases h
  · rw [cellK h]
    simp [hx]

theorem set_keeps {w1 : World} {b i k : Nat} {v : Value} {o : Option Obj} (hk : k ≠ b) (h : w1.heap[k]? = o) : (w1.setCell ⟨b, i, none⟩ v).heap[k]? = o := by rw [Below.heap_setCell _ _ _ _ hk]; exact h
theorem set_below {w w1 : World} {B b i : Nat} {v : Value} (hB : B ≤ b) (h : Below B w w1) : Below B w (w1.setCell ⟨b, i, none⟩ v) := h.setCell hB v
theorem lt_of_some {w : World} {b : Nat} {o : Obj} (h : w.heap[b]? = some o) : b < w.heap.size := by
  rcases Nat.lt_or_ge b w.heap.size with h1 | h1
  · exact h1
  · rw [Array.getElem?_eq_none h1] at h; cases h
theorem heap2_0 (w : World) (o p : Obj) : ((w.alloc o).alloc p).heap[w.heap.size]? = some o := by
  rw [Below.heap_alloc _ _ _ (by simp)]
  exact Array.getElem?_push_size
theorem heap2_1 (w : World) (o p : Obj) : ((w.alloc o).alloc p).heap[w.heap.size + 1]? = some p := by
  have h : w.heap.size + 1 = (w.alloc o).heap.size := by simp
  rw [h]
  exact Array.getElem?_push_size
theorem heap3_0 (w : World) (o p q : Obj) : (((w.alloc o).alloc p).alloc q).heap[w.heap.size]? = some o := by
  rw [Below.heap_alloc _ _ _ (by simp; omega), Below.heap_alloc _ _ _ (by simp)]
  show (w.heap.push _)[w.heap.size]? = _
  simp
theorem heap3_1 (w : World) (o p q : Obj) : (((w.alloc o).alloc p).alloc q).heap[w.heap.size + 1]? = some p := by
  rw [Below.heap_alloc _ _ _ (by simp)]
  have h : w.heap.size + 1 = (w.alloc o).heap.size := by simp
  rw [h]
  show ((w.alloc o).heap.push _)[(w.alloc o).heap.size]? = _
  exact Array.getElem?_push_size
theorem heap3_2 (w : World) (o p q : Obj) : (((w.alloc o).alloc p).alloc q).heap[w.heap.size + 1 + 1]? = some q := by
  have h : w.heap.size + 1 + 1 = ((w.alloc o).alloc p).heap.size := by simp
  rw [h]
  show (((w.alloc o).alloc p).heap.push _)[((w.alloc o).alloc p).heap.size]? = _
  exact Array.getElem?_push_size
/-- What is left of a measure, where blocks may have been laid. -/
def SzB (left : Int) (p : Prop) (w : World) (e : Ending) (w' : World) : Prop := ∃ r : Int, e = .returned (.int .i64 r) ∧ (r = -1 ∨ (0 ≤ r ∧ r ≤ left ∧ p)) ∧ Below w.heap.size w w'
theorem below2 (w : World) (o p : Obj) : Below w.heap.size w ((w.alloc o).alloc p) := (below1 w o).alloc (by simp) p
theorem below3 (w : World) (o p q : Obj) : Below w.heap.size w (((w.alloc o).alloc p).alloc q) := (below2 w o p).alloc (by simp; omega) q
theorem tl_yes {a b : ByteArray} (h : a = b) : (a.toList == b.toList) = true := by rw [h]; simp

set_option maxHeartbeats 3200000 in
theorem eqNode_any (n : ByteArray) (z : ByteArray) (c : Int) (s : Int) (u : Int) (d : Bool) (a : Option Addr) (len cap : Nat) (zs : List ByteArray) (a' : Option Addr) (len' cap' : Nat) (w : World) (hr : TxRow w a len cap zs) (hr' : TxRow w a' len' cap' zs) :
    Calls Try.prog 25 #[.agg #[.string n, .string z, .int .i64 c, .int .i64 s, .int .i64 u, .bool d, .slice a len cap], .agg #[.string n, .string z, .int .i64 c, .int .i64 s, .int .i64 u, .bool d, .slice a' len' cap']] w fun e w' => e = .returned (.bool true) ∧ Below w.heap.size w w' := by
  have HR : Hid (TxRow w a len cap zs) := hr
  have HR' : Hid (TxRow w a' len' cap' zs) := hr'
  clear hr hr'
  go_enter Try.func25, Try.ntmps25
  go_wp2_with fail
  refine (eqS_any a a' len len' cap cap' zs zs _ (HR.out.below (below2 _ _ _)) (HR'.out.below (below2 _ _ _))).mono ?_
  rintro e w1 ⟨r, rfl, hr, hb⟩
  obtain rfl : r = true := hr.2 rfl
  clear hr
  have HB : Hid (Below w.heap.size w w1) := (below2 _ _ _).trans (hb.mono (by simp; omega))
  go_wp2_with fail
  go_ret
  exact ⟨rfl, HB.out⟩

set_option maxHeartbeats 3200000 in
theorem eqVolume_any (n : ByteArray) (c : Int) (z : ByteArray) (k : ByteArray) (x : Bool) (m : ByteArray) (y : Bool) (a : Option Addr) (len cap : Nat) (zs : List ByteArray) (a' : Option Addr) (len' cap' : Nat) (w : World) (hr : TxRow w a len cap zs) (hr' : TxRow w a' len' cap' zs) :
    Calls Try.prog 27 #[.agg #[.string n, .int .i64 c, .string z, .string k, .bool x, .string m, .bool y, .slice a len cap], .agg #[.string n, .int .i64 c, .string z, .string k, .bool x, .string m, .bool y, .slice a' len' cap']] w fun e w' => e = .returned (.bool true) ∧ Below w.heap.size w w' := by
  have HR : Hid (TxRow w a len cap zs) := hr
  have HR' : Hid (TxRow w a' len' cap' zs) := hr'
  clear hr hr'
  go_enter Try.func27, Try.ntmps27
  go_wp2_with fail
  refine (eqS_any a a' len len' cap cap' zs zs _ (HR.out.below (below2 _ _ _)) (HR'.out.below (below2 _ _ _))).mono ?_
  rintro e w1 ⟨r, rfl, hr, hb⟩
  obtain rfl : r = true := hr.2 rfl
  clear hr
  have HB : Hid (Below w.heap.size w w1) := (below2 _ _ _).trans (hb.mono (by simp; omega))
  go_wp2_with fail
  go_ret
  exact ⟨rfl, HB.out⟩

set_option maxHeartbeats 3200000 in
theorem eqPod_any (n : ByteArray) (c : Int) (z : ByteArray) (a : Option Addr) (len cap : Nat) (zs : List ByteArray) (d : ByteArray) (p : Int) (a' : Option Addr) (len' cap' : Nat) (w : World) (hr : TxRow w a len cap zs) (hr' : TxRow w a' len' cap' zs) :
    Calls Try.prog 29 #[.agg #[.string n, .int .i64 c, .string z, .slice a len cap, .string d, .int .i64 p], .agg #[.string n, .int .i64 c, .string z, .slice a' len' cap', .string d, .int .i64 p]] w fun e w' => e = .returned (.bool true) ∧ Below w.heap.size w w' := by
  have HR : Hid (TxRow w a len cap zs) := hr
  have HR' : Hid (TxRow w a' len' cap' zs) := hr'
  clear hr hr'
  go_enter Try.func29, Try.ntmps29
  go_wp2_with fail
  refine (eqS_any a a' len len' cap cap' zs zs _ (HR.out.below (below2 _ _ _)) (HR'.out.below (below2 _ _ _))).mono ?_
  rintro e w1 ⟨r, rfl, hr, hb⟩
  obtain rfl : r = true := hr.2 rfl
  clear hr
  have HB : Hid (Below w.heap.size w w1) := (below2 _ _ _).trans (hb.mono (by simp; omega))
  have g0 := (hb.block w.heap.size (by simp; omega)).trans (heap2_0 _ _ _)
  have g1 := (hb.block (w.heap.size + 1) (by simp)).trans (heap2_1 _ _ _)
  have c04 : w1.cell? ⟨w.heap.size, 4, none⟩ = some (.string d) := cellK g0 4
  have c05 : w1.cell? ⟨w.heap.size, 5, none⟩ = some (.int .i64 p) := cellK g0 5
  have c14 : w1.cell? ⟨w.heap.size + 1, 4, none⟩ = some (.string d) := cellK g1 4
  have c15 : w1.cell? ⟨w.heap.size + 1, 5, none⟩ = some (.int .i64 p) := cellK g1 5
  clear g0 g1 hb
  go_wp2_with fail
  go_ret
  exact ⟨rfl, HB.out⟩

end Go.Proofs.Ytkmoncjbpfcnjaa
