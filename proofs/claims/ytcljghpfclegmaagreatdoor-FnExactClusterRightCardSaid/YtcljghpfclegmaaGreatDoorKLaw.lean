/-
  What the laws on kinds call besides: measures, copies, comparisons.
-/
import Derived.Test.YtcljghpfclegmaaGreatDoorKinds
namespace Go.Proofs.YtcljghpfclegmaaGreatDoor
open Go.RowKit

/-- The frozen word of a block. -/
theorem froK {w : World} {b : Nat} {vs : Array Value} {T : TypeId} (h : w.heap[b]? = some (.cells vs T (0, 0))) (i : Nat) : w.frozen? ⟨b, i, none⟩ = false := by simp [World.frozen?, h]
/-- A copied list, in a later world. -/
theorem TxRow.copy {w : World} {b len : Nat} {zs : List ByteArray} {T : TypeId} (h : w.heap[b]? = some (.cells (zs.map Value.string).toArray T (0, 0))) (hl : zs.length = len) (hl2 : len ≤ 1048576) (hs : ∀ (j : Nat) x, zs[j]? = some x → x.size ≤ 9223372036854775807) :
    TxRow w (some ⟨b, 0, none⟩) len len zs := by
  refine ⟨hl, Nat.le_refl _, by omega, hs, ?_⟩
  by_cases hz : zs = []
  · exact Or.inl hz
  refine Or.inr ⟨b, 0, rfl, ?_, fun j x hx => ?_⟩
  · rcases Nat.lt_or_ge b w.heap.size with h1 | h1
    · exact h1
    · rw [Array.getElem?_eq_none h1] at h; cases h
  · rw [cellK h]
    simp [hx]

theorem set_keeps {w1 : World} {b i k : Nat} {v : Value} {o : Option Obj} (hk : k ≠ b) (h : w1.heap[k]? = o) : (w1.setCell ⟨b, i, none⟩ v).heap[k]? = o := by rw [Below.heap_setCell _ _ _ _ hk]; exact h
theorem set_below {w w1 : World} {B b i : Nat} {v : Value} (hB : B ≤ b) (h : Below B w w1) : Below B w (w1.setCell ⟨b, i, none⟩ v) := h.setCell hB v
theorem lt_of_some {w : World} {b : Nat} {o : Obj} (h : w.heap[b]? = some o) : b < w.heap.size := by
  rcases Nat.lt_or_ge b w.heap.size with h1 | h1
  · exact h1
  · rw [Array.getElem?_eq_none h1] at h; cases h
theorem heap2_0 (w : World) (o p : Obj) : ((w.alloc o).alloc p).heap[w.heap.size]? = some o := by
  rw [Below.heap_alloc _ _ _ (by simp)]
  exact Array.getElem?_push_size
theorem heap2_1 (w : World) (o p : Obj) : ((w.alloc o).alloc p).heap[w.heap.size + 1]? = some p := by
  have h : w.heap.size + 1 = (w.alloc o).heap.size := by simp
  rw [h]
  exact Array.getElem?_push_size
theorem heap3_0 (w : World) (o p q : Obj) : (((w.alloc o).alloc p).alloc q).heap[w.heap.size]? = some o := by
  rw [Below.heap_alloc _ _ _ (by simp; omega), Below.heap_alloc _ _ _ (by simp)]
  show (w.heap.push _)[w.heap.size]? = _
  simp
theorem heap3_1 (w : World) (o p q : Obj) : (((w.alloc o).alloc p).alloc q).heap[w.heap.size + 1]? = some p := by
  rw [Below.heap_alloc _ _ _ (by simp)]
  have h : w.heap.size + 1 = (w.alloc o).heap.size := by simp
  rw [h]
  show ((w.alloc o).heap.push _)[(w.alloc o).heap.size]? = _
  exact Array.getElem?_push_size
theorem heap3_2 (w : World) (o p q : Obj) : (((w.alloc o).alloc p).alloc q).heap[w.heap.size + 1 + 1]? = some q := by
  have h : w.heap.size + 1 + 1 = ((w.alloc o).alloc p).heap.size := by simp
  rw [h]
  show (((w.alloc o).alloc p).heap.push _)[((w.alloc o).alloc p).heap.size]? = _
  exact Array.getElem?_push_size
/-- What is left of a measure, where blocks may have been laid. -/
def SzB (left : Int) (p : Prop) (w : World) (e : Ending) (w' : World) : Prop := ∃ r : Int, e = .returned (.int .i64 r) ∧ (r = -1 ∨ (0 ≤ r ∧ r ≤ left ∧ p)) ∧ Below w.heap.size w w'
theorem below2 (w : World) (o p : Obj) : Below w.heap.size w ((w.alloc o).alloc p) := (below1 w o).alloc (by simp) p
theorem below3 (w : World) (o p q : Obj) : Below w.heap.size w (((w.alloc o).alloc p).alloc q) := (below2 w o p).alloc (by simp; omega) q
theorem tl_yes {a b : ByteArray} (h : a = b) : (a.toList == b.toList) = true := by rw [h]; simp

set_option maxHeartbeats 1600000 in
theorem szClass_any (n : ByteArray) (x : Bool) (y : Bool) (z : ByteArray) (left : Int) (w : World) (hn : n.size ≤ 9223372036854775807) (hz : z.size ≤ 9223372036854775807) (h0 : 0 ≤ left) (h1 : left ≤ 1048576) :
    Calls Tryz.prog 23 #[.agg #[.string n, .bool x, .bool y, .string z], .int .i64 left] w (SzB left True w) := by
  by_cases h9n : left < (n.size : Int)
  · go_enter Tryz.func23, Tryz.ntmps23
    go_wp2
    go_ret
    exact ⟨-1, rfl, .inl rfl, below1 _ _⟩
  by_cases h9z : left < (n.size : Int) + (z.size : Int)
  · go_enter Tryz.func23, Tryz.ntmps23
    go_wp2
    go_ret
    exact ⟨-1, rfl, .inl rfl, below1 _ _⟩
  go_enter Tryz.func23, Tryz.ntmps23
  go_wp2
  go_ret
  exact ⟨_, rfl, .inr ⟨by omega, by omega, trivial⟩, below1 _ _⟩

set_option maxHeartbeats 800000 in
theorem toClass_any (n : ByteArray) (x : Bool) (y : Bool) (z : ByteArray) (w : World) :
    Calls Tryz.prog 25 #[.agg #[.string n, .bool x, .bool y, .string z]] w fun e w' => e = .returned (.agg #[.string n, .bool x, .bool y, .string z]) ∧ Below w.heap.size w w' := by
  go_enter Tryz.func25, Tryz.ntmps25
  go_wp2
  exact bodyPost_ret (v := .agg #[.string n, .bool x, .bool y, .string z]) (by simp [results, Tryz.results25, go_sem]) rfl ⟨rfl, below3 _ _ _ _⟩

set_option maxHeartbeats 1600000 in
theorem szClaim_any (n : ByteArray) (z : Int) (k : ByteArray) (x : Bool) (v : ByteArray) (left : Int) (w : World) (hn : n.size ≤ 9223372036854775807) (hk : k.size ≤ 9223372036854775807) (hv : v.size ≤ 9223372036854775807) (h0 : 0 ≤ left) (h1 : left ≤ 1048576) :
    Calls Tryz.prog 33 #[.agg #[.string n, .int .i64 z, .string k, .bool x, .string v], .int .i64 left] w (SzB left True w) := by
  by_cases h9n : left < (n.size : Int)
  · go_enter Tryz.func33, Tryz.ntmps33
    go_wp2
    go_ret
    exact ⟨-1, rfl, .inl rfl, below1 _ _⟩
  by_cases h9k : left < (n.size : Int) + (k.size : Int)
  · go_enter Tryz.func33, Tryz.ntmps33
    go_wp2
    go_ret
    exact ⟨-1, rfl, .inl rfl, below1 _ _⟩
  by_cases h9v : left < (n.size : Int) + (k.size : Int) + (v.size : Int)
  · go_enter Tryz.func33, Tryz.ntmps33
    go_wp2
    go_ret
    exact ⟨-1, rfl, .inl rfl, below1 _ _⟩
  go_enter Tryz.func33, Tryz.ntmps33
  go_wp2
  go_ret
  exact ⟨_, rfl, .inr ⟨by omega, by omega, trivial⟩, below1 _ _⟩

set_option maxHeartbeats 800000 in
theorem toClaim_any (n : ByteArray) (z : Int) (k : ByteArray) (x : Bool) (v : ByteArray) (w : World) :
    Calls Tryz.prog 35 #[.agg #[.string n, .int .i64 z, .string k, .bool x, .string v]] w fun e w' => e = .returned (.agg #[.string n, .int .i64 z, .string k, .bool x, .string v]) ∧ Below w.heap.size w w' := by
  go_enter Tryz.func35, Tryz.ntmps35
  go_wp2
  exact bodyPost_ret (v := .agg #[.string n, .int .i64 z, .string k, .bool x, .string v]) (by simp [results, Tryz.results35, go_sem]) rfl ⟨rfl, below3 _ _ _ _⟩

set_option maxHeartbeats 1600000 in
theorem szNode_any (n : ByteArray) (z : ByteArray) (c : Int) (s : Int) (u : Int) (d : Bool) (a : Option Addr) (len cap : Nat) (zs : List ByteArray) (left : Int) (w : World) (hn : n.size ≤ 9223372036854775807) (hz : z.size ≤ 9223372036854775807) (hr : TxRow w a len cap zs) (h0 : 0 ≤ left) (h1 : left ≤ 1048576) :
    Calls Tryz.prog 138 #[.agg #[.string n, .string z, .int .i64 c, .int .i64 s, .int .i64 u, .bool d, .slice a len cap], .int .i64 left] w (SzB left (len ≤ 1048576) w) := by
  have HR : Hid (TxRow w a len cap zs) := hr
  clear hr
  by_cases h9n : left < (n.size : Int)
  · go_enter Tryz.func138, Tryz.ntmps138
    go_wp2
    go_ret
    exact ⟨-1, rfl, .inl rfl, below1 _ _⟩
  by_cases h9z : left < (n.size : Int) + (z.size : Int)
  · go_enter Tryz.func138, Tryz.ntmps138
    go_wp2
    go_ret
    exact ⟨-1, rfl, .inl rfl, below1 _ _⟩
  go_enter Tryz.func138, Tryz.ntmps138
  go_wp2_with fail
  refine (szS_any a len cap zs _ _ (HR.out.below (below1 _ _)) (by omega) (by omega)).mono ?_
  rintro e w1 ⟨r, rfl, hr, rfl⟩
  rcases hr with rfl | ⟨hr0, hr1, hr2⟩
  · go_wp2
    go_ret
    exact ⟨-1, rfl, .inl rfl, below1 _ _⟩
  go_wp2
  go_ret
  exact ⟨_, rfl, .inr ⟨by omega, by omega, by omega⟩, below1 _ _⟩

set_option maxHeartbeats 3200000 in
theorem toNode_any (n : ByteArray) (z : ByteArray) (c : Int) (s : Int) (u : Int) (d : Bool) (a : Option Addr) (len cap : Nat) (zs : List ByteArray) (w : World) (hr : TxRow w a len cap zs) (hl : len ≤ 1048576) :
    Calls Tryz.prog 144 #[.agg #[.string n, .string z, .int .i64 c, .int .i64 s, .int .i64 u, .bool d, .slice a len cap]] w fun e w' => e = .returned (.agg #[.string n, .string z, .int .i64 c, .int .i64 s, .int .i64 u, .bool d, .slice (some ⟨w.heap.size + 1 + 1 + 1, 0, none⟩) len len]) ∧ w'.heap[w.heap.size + 1 + 1 + 1]? = some (.cells (zs.map Value.string).toArray 9 (0, 0)) ∧ Below w.heap.size w w' := by
  have HR : Hid (TxRow w a len cap zs) := hr
  clear hr
  go_enter Tryz.func144, Tryz.ntmps144
  go_wp2_with fail
  refine (toS_any a len cap zs _ (HR.out.below (below3 _ _ _ _)) hl).mono ?_
  rintro e w1 ⟨rfl, hG, hb⟩
  have hsz : (((w.alloc (.cells #[.string n, .string z, .int .i64 c, .int .i64 s, .int .i64 u, .bool d, .slice a len cap] 152)).alloc (.cells #[.string ⟨#[]⟩, .string ⟨#[]⟩, .int .i64 0, .int .i64 0, .int .i64 0, .bool false, .slice none 0 0] 102)).alloc (.cells #[.string n, .string z, .int .i64 c, .int .i64 s, .int .i64 u, .bool d, .slice none 0 0] 102)).heap.size = w.heap.size + 1 + 1 + 1 := by simp
  rw [hsz] at hG hb ⊢
  have g0 : w1.heap[w.heap.size]? = some (.cells #[.string n, .string z, .int .i64 c, .int .i64 s, .int .i64 u, .bool d, .slice a len cap] 152 (0, 0)) := by rw [hb.block _ (by omega)]; exact heap3_0 _ _ _ _
  have g1 : w1.heap[w.heap.size + 1]? = some (.cells #[.string ⟨#[]⟩, .string ⟨#[]⟩, .int .i64 0, .int .i64 0, .int .i64 0, .bool false, .slice none 0 0] 102 (0, 0)) := by rw [hb.block _ (by omega)]; exact heap3_1 _ _ _ _
  have g2 : w1.heap[w.heap.size + 1 + 1]? = some (.cells #[.string n, .string z, .int .i64 c, .int .i64 s, .int .i64 u, .bool d, .slice none 0 0] 102 (0, 0)) := by rw [hb.block _ (by omega)]; exact heap3_2 _ _ _ _
  have HG := hidK hG
  have HB : Hid (Below w.heap.size w w1) := (below3 _ _ _ _).trans (hb.mono (by omega))
  have c20 : w1.cell? ⟨w.heap.size + 1 + 1, 0, none⟩ = some (.string n) := cellK g2 0
  have f20 : w1.frozen? ⟨w.heap.size + 1 + 1, 0, none⟩ = false := froK g2 0
  have c10 : w1.cell? ⟨w.heap.size + 1, 0, none⟩ = some (.string ⟨#[]⟩) := cellK g1 0
  have f10 : w1.frozen? ⟨w.heap.size + 1, 0, none⟩ = false := froK g1 0
  have c21 : w1.cell? ⟨w.heap.size + 1 + 1, 1, none⟩ = some (.string z) := cellK g2 1
  have f21 : w1.frozen? ⟨w.heap.size + 1 + 1, 1, none⟩ = false := froK g2 1
  have c11 : w1.cell? ⟨w.heap.size + 1, 1, none⟩ = some (.string ⟨#[]⟩) := cellK g1 1
  have f11 : w1.frozen? ⟨w.heap.size + 1, 1, none⟩ = false := froK g1 1
  have c22 : w1.cell? ⟨w.heap.size + 1 + 1, 2, none⟩ = some (.int .i64 c) := cellK g2 2
  have f22 : w1.frozen? ⟨w.heap.size + 1 + 1, 2, none⟩ = false := froK g2 2
  have c12 : w1.cell? ⟨w.heap.size + 1, 2, none⟩ = some (.int .i64 0) := cellK g1 2
  have f12 : w1.frozen? ⟨w.heap.size + 1, 2, none⟩ = false := froK g1 2
  have c23 : w1.cell? ⟨w.heap.size + 1 + 1, 3, none⟩ = some (.int .i64 s) := cellK g2 3
  have f23 : w1.frozen? ⟨w.heap.size + 1 + 1, 3, none⟩ = false := froK g2 3
  have c13 : w1.cell? ⟨w.heap.size + 1, 3, none⟩ = some (.int .i64 0) := cellK g1 3
  have f13 : w1.frozen? ⟨w.heap.size + 1, 3, none⟩ = false := froK g1 3
  have c24 : w1.cell? ⟨w.heap.size + 1 + 1, 4, none⟩ = some (.int .i64 u) := cellK g2 4
  have f24 : w1.frozen? ⟨w.heap.size + 1 + 1, 4, none⟩ = false := froK g2 4
  have c14 : w1.cell? ⟨w.heap.size + 1, 4, none⟩ = some (.int .i64 0) := cellK g1 4
  have f14 : w1.frozen? ⟨w.heap.size + 1, 4, none⟩ = false := froK g1 4
  have c25 : w1.cell? ⟨w.heap.size + 1 + 1, 5, none⟩ = some (.bool d) := cellK g2 5
  have f25 : w1.frozen? ⟨w.heap.size + 1 + 1, 5, none⟩ = false := froK g2 5
  have c15 : w1.cell? ⟨w.heap.size + 1, 5, none⟩ = some (.bool false) := cellK g1 5
  have f15 : w1.frozen? ⟨w.heap.size + 1, 5, none⟩ = false := froK g1 5
  have c26 : w1.cell? ⟨w.heap.size + 1 + 1, 6, none⟩ = some (.slice none 0 0) := cellK g2 6
  have f26 : w1.frozen? ⟨w.heap.size + 1 + 1, 6, none⟩ = false := froK g2 6
  have c16 : w1.cell? ⟨w.heap.size + 1, 6, none⟩ = some (.slice none 0 0) := cellK g1 6
  have f16 : w1.frozen? ⟨w.heap.size + 1, 6, none⟩ = false := froK g1 6
  clear g0 g1 g2 hG hb hsz
  go_wp2
  refine bodyPost_ret (v := .agg #[.string n, .string z, .int .i64 c, .int .i64 s, .int .i64 u, .bool d, .slice (some ⟨w.heap.size + 1 + 1 + 1, 0, none⟩) len len]) (by simp [results, Tryz.results144, go_sem, *]) rfl ⟨rfl, ?_, ?_⟩
  · exact set_keeps (by omega) (set_keeps (by omega) (set_keeps (by omega) (set_keeps (by omega) (set_keeps (by omega) (set_keeps (by omega) (set_keeps (by omega) (set_keeps (by omega) (HG.out))))))))
  · exact set_below (by omega) (set_below (by omega) (set_below (by omega) (set_below (by omega) (set_below (by omega) (set_below (by omega) (set_below (by omega) (set_below (by omega) (HB.out))))))))

set_option maxHeartbeats 3200000 in
theorem eqNode_any (n : ByteArray) (z : ByteArray) (c : Int) (s : Int) (u : Int) (d : Bool) (a : Option Addr) (len cap : Nat) (zs : List ByteArray) (a' : Option Addr) (len' cap' : Nat) (w : World) (hr : TxRow w a len cap zs) (hr' : TxRow w a' len' cap' zs) :
    Calls Tryz.prog 158 #[.agg #[.string n, .string z, .int .i64 c, .int .i64 s, .int .i64 u, .bool d, .slice a len cap], .agg #[.string n, .string z, .int .i64 c, .int .i64 s, .int .i64 u, .bool d, .slice a' len' cap']] w fun e w' => e = .returned (.bool true) ∧ Below w.heap.size w w' := by
  have HR : Hid (TxRow w a len cap zs) := hr
  have HR' : Hid (TxRow w a' len' cap' zs) := hr'
  clear hr hr'
  go_enter Tryz.func158, Tryz.ntmps158
  go_wp2_with fail
  refine (eqS_any a a' len len' cap cap' zs zs _ (HR.out.below (below2 _ _ _)) (HR'.out.below (below2 _ _ _))).mono ?_
  rintro e w1 ⟨r, rfl, hr, hb⟩
  obtain rfl : r = true := hr.2 rfl
  clear hr
  have HB : Hid (Below w.heap.size w w1) := (below2 _ _ _).trans (hb.mono (by simp; omega))
  go_wp2_with fail
  go_ret
  exact ⟨rfl, HB.out⟩

set_option maxHeartbeats 1600000 in
theorem szVolume_any (n : ByteArray) (c : Int) (z : ByteArray) (k : ByteArray) (x : Bool) (m : ByteArray) (y : Bool) (a : Option Addr) (len cap : Nat) (zs : List ByteArray) (left : Int) (w : World) (hn : n.size ≤ 9223372036854775807) (hz : z.size ≤ 9223372036854775807) (hk : k.size ≤ 9223372036854775807) (hm : m.size ≤ 9223372036854775807) (hr : TxRow w a len cap zs) (h0 : 0 ≤ left) (h1 : left ≤ 1048576) :
    Calls Tryz.prog 27 #[.agg #[.string n, .int .i64 c, .string z, .string k, .bool x, .string m, .bool y, .slice a len cap], .int .i64 left] w (SzB left (len ≤ 1048576) w) := by
  have HR : Hid (TxRow w a len cap zs) := hr
  clear hr
  by_cases h9n : left < (n.size : Int)
  · go_enter Tryz.func27, Tryz.ntmps27
    go_wp2
    go_ret
    exact ⟨-1, rfl, .inl rfl, below1 _ _⟩
  by_cases h9z : left < (n.size : Int) + (z.size : Int)
  · go_enter Tryz.func27, Tryz.ntmps27
    go_wp2
    go_ret
    exact ⟨-1, rfl, .inl rfl, below1 _ _⟩
  by_cases h9k : left < (n.size : Int) + (z.size : Int) + (k.size : Int)
  · go_enter Tryz.func27, Tryz.ntmps27
    go_wp2
    go_ret
    exact ⟨-1, rfl, .inl rfl, below1 _ _⟩
  by_cases h9m : left < (n.size : Int) + (z.size : Int) + (k.size : Int) + (m.size : Int)
  · go_enter Tryz.func27, Tryz.ntmps27
    go_wp2
    go_ret
    exact ⟨-1, rfl, .inl rfl, below1 _ _⟩
  go_enter Tryz.func27, Tryz.ntmps27
  go_wp2_with fail
  refine (szS_any a len cap zs _ _ (HR.out.below (below1 _ _)) (by omega) (by omega)).mono ?_
  rintro e w1 ⟨r, rfl, hr, rfl⟩
  rcases hr with rfl | ⟨hr0, hr1, hr2⟩
  · go_wp2
    go_ret
    exact ⟨-1, rfl, .inl rfl, below1 _ _⟩
  go_wp2
  go_ret
  exact ⟨_, rfl, .inr ⟨by omega, by omega, by omega⟩, below1 _ _⟩

set_option maxHeartbeats 3200000 in
theorem toVolume_any (n : ByteArray) (c : Int) (z : ByteArray) (k : ByteArray) (x : Bool) (m : ByteArray) (y : Bool) (a : Option Addr) (len cap : Nat) (zs : List ByteArray) (w : World) (hr : TxRow w a len cap zs) (hl : len ≤ 1048576) :
    Calls Tryz.prog 29 #[.agg #[.string n, .int .i64 c, .string z, .string k, .bool x, .string m, .bool y, .slice a len cap]] w fun e w' => e = .returned (.agg #[.string n, .int .i64 c, .string z, .string k, .bool x, .string m, .bool y, .slice (some ⟨w.heap.size + 1 + 1 + 1, 0, none⟩) len len]) ∧ w'.heap[w.heap.size + 1 + 1 + 1]? = some (.cells (zs.map Value.string).toArray 9 (0, 0)) ∧ Below w.heap.size w w' := by
  have HR : Hid (TxRow w a len cap zs) := hr
  clear hr
  go_enter Tryz.func29, Tryz.ntmps29
  go_wp2_with fail
  refine (toS_any a len cap zs _ (HR.out.below (below3 _ _ _ _)) hl).mono ?_
  rintro e w1 ⟨rfl, hG, hb⟩
  have hsz : (((w.alloc (.cells #[.string n, .int .i64 c, .string z, .string k, .bool x, .string m, .bool y, .slice a len cap] 57)).alloc (.cells #[.string ⟨#[]⟩, .int .i64 0, .string ⟨#[]⟩, .string ⟨#[]⟩, .bool false, .string ⟨#[]⟩, .bool false, .slice none 0 0] 60)).alloc (.cells #[.string n, .int .i64 c, .string z, .string k, .bool x, .string m, .bool y, .slice none 0 0] 60)).heap.size = w.heap.size + 1 + 1 + 1 := by simp
  rw [hsz] at hG hb ⊢
  have g0 : w1.heap[w.heap.size]? = some (.cells #[.string n, .int .i64 c, .string z, .string k, .bool x, .string m, .bool y, .slice a len cap] 57 (0, 0)) := by rw [hb.block _ (by omega)]; exact heap3_0 _ _ _ _
  have g1 : w1.heap[w.heap.size + 1]? = some (.cells #[.string ⟨#[]⟩, .int .i64 0, .string ⟨#[]⟩, .string ⟨#[]⟩, .bool false, .string ⟨#[]⟩, .bool false, .slice none 0 0] 60 (0, 0)) := by rw [hb.block _ (by omega)]; exact heap3_1 _ _ _ _
  have g2 : w1.heap[w.heap.size + 1 + 1]? = some (.cells #[.string n, .int .i64 c, .string z, .string k, .bool x, .string m, .bool y, .slice none 0 0] 60 (0, 0)) := by rw [hb.block _ (by omega)]; exact heap3_2 _ _ _ _
  have HG := hidK hG
  have HB : Hid (Below w.heap.size w w1) := (below3 _ _ _ _).trans (hb.mono (by omega))
  have c20 : w1.cell? ⟨w.heap.size + 1 + 1, 0, none⟩ = some (.string n) := cellK g2 0
  have f20 : w1.frozen? ⟨w.heap.size + 1 + 1, 0, none⟩ = false := froK g2 0
  have c10 : w1.cell? ⟨w.heap.size + 1, 0, none⟩ = some (.string ⟨#[]⟩) := cellK g1 0
  have f10 : w1.frozen? ⟨w.heap.size + 1, 0, none⟩ = false := froK g1 0
  have c21 : w1.cell? ⟨w.heap.size + 1 + 1, 1, none⟩ = some (.int .i64 c) := cellK g2 1
  have f21 : w1.frozen? ⟨w.heap.size + 1 + 1, 1, none⟩ = false := froK g2 1
  have c11 : w1.cell? ⟨w.heap.size + 1, 1, none⟩ = some (.int .i64 0) := cellK g1 1
  have f11 : w1.frozen? ⟨w.heap.size + 1, 1, none⟩ = false := froK g1 1
  have c22 : w1.cell? ⟨w.heap.size + 1 + 1, 2, none⟩ = some (.string z) := cellK g2 2
  have f22 : w1.frozen? ⟨w.heap.size + 1 + 1, 2, none⟩ = false := froK g2 2
  have c12 : w1.cell? ⟨w.heap.size + 1, 2, none⟩ = some (.string ⟨#[]⟩) := cellK g1 2
  have f12 : w1.frozen? ⟨w.heap.size + 1, 2, none⟩ = false := froK g1 2
  have c23 : w1.cell? ⟨w.heap.size + 1 + 1, 3, none⟩ = some (.string k) := cellK g2 3
  have f23 : w1.frozen? ⟨w.heap.size + 1 + 1, 3, none⟩ = false := froK g2 3
  have c13 : w1.cell? ⟨w.heap.size + 1, 3, none⟩ = some (.string ⟨#[]⟩) := cellK g1 3
  have f13 : w1.frozen? ⟨w.heap.size + 1, 3, none⟩ = false := froK g1 3
  have c24 : w1.cell? ⟨w.heap.size + 1 + 1, 4, none⟩ = some (.bool x) := cellK g2 4
  have f24 : w1.frozen? ⟨w.heap.size + 1 + 1, 4, none⟩ = false := froK g2 4
  have c14 : w1.cell? ⟨w.heap.size + 1, 4, none⟩ = some (.bool false) := cellK g1 4
  have f14 : w1.frozen? ⟨w.heap.size + 1, 4, none⟩ = false := froK g1 4
  have c25 : w1.cell? ⟨w.heap.size + 1 + 1, 5, none⟩ = some (.string m) := cellK g2 5
  have f25 : w1.frozen? ⟨w.heap.size + 1 + 1, 5, none⟩ = false := froK g2 5
  have c15 : w1.cell? ⟨w.heap.size + 1, 5, none⟩ = some (.string ⟨#[]⟩) := cellK g1 5
  have f15 : w1.frozen? ⟨w.heap.size + 1, 5, none⟩ = false := froK g1 5
  have c26 : w1.cell? ⟨w.heap.size + 1 + 1, 6, none⟩ = some (.bool y) := cellK g2 6
  have f26 : w1.frozen? ⟨w.heap.size + 1 + 1, 6, none⟩ = false := froK g2 6
  have c16 : w1.cell? ⟨w.heap.size + 1, 6, none⟩ = some (.bool false) := cellK g1 6
  have f16 : w1.frozen? ⟨w.heap.size + 1, 6, none⟩ = false := froK g1 6
  have c27 : w1.cell? ⟨w.heap.size + 1 + 1, 7, none⟩ = some (.slice none 0 0) := cellK g2 7
  have f27 : w1.frozen? ⟨w.heap.size + 1 + 1, 7, none⟩ = false := froK g2 7
  have c17 : w1.cell? ⟨w.heap.size + 1, 7, none⟩ = some (.slice none 0 0) := cellK g1 7
  have f17 : w1.frozen? ⟨w.heap.size + 1, 7, none⟩ = false := froK g1 7
  clear g0 g1 g2 hG hb hsz
  go_wp2
  refine bodyPost_ret (v := .agg #[.string n, .int .i64 c, .string z, .string k, .bool x, .string m, .bool y, .slice (some ⟨w.heap.size + 1 + 1 + 1, 0, none⟩) len len]) (by simp [results, Tryz.results29, go_sem, *]) rfl ⟨rfl, ?_, ?_⟩
  · exact set_keeps (by omega) (set_keeps (by omega) (set_keeps (by omega) (set_keeps (by omega) (set_keeps (by omega) (set_keeps (by omega) (set_keeps (by omega) (set_keeps (by omega) (set_keeps (by omega) (HG.out)))))))))
  · exact set_below (by omega) (set_below (by omega) (set_below (by omega) (set_below (by omega) (set_below (by omega) (set_below (by omega) (set_below (by omega) (set_below (by omega) (set_below (by omega) (HB.out)))))))))

set_option maxHeartbeats 3200000 in
theorem eqVolume_any (n : ByteArray) (c : Int) (z : ByteArray) (k : ByteArray) (x : Bool) (m : ByteArray) (y : Bool) (a : Option Addr) (len cap : Nat) (zs : List ByteArray) (a' : Option Addr) (len' cap' : Nat) (w : World) (hr : TxRow w a len cap zs) (hr' : TxRow w a' len' cap' zs) :
    Calls Tryz.prog 31 #[.agg #[.string n, .int .i64 c, .string z, .string k, .bool x, .string m, .bool y, .slice a len cap], .agg #[.string n, .int .i64 c, .string z, .string k, .bool x, .string m, .bool y, .slice a' len' cap']] w fun e w' => e = .returned (.bool true) ∧ Below w.heap.size w w' := by
  have HR : Hid (TxRow w a len cap zs) := hr
  have HR' : Hid (TxRow w a' len' cap' zs) := hr'
  clear hr hr'
  go_enter Tryz.func31, Tryz.ntmps31
  go_wp2_with fail
  refine (eqS_any a a' len len' cap cap' zs zs _ (HR.out.below (below2 _ _ _)) (HR'.out.below (below2 _ _ _))).mono ?_
  rintro e w1 ⟨r, rfl, hr, hb⟩
  obtain rfl : r = true := hr.2 rfl
  clear hr
  have HB : Hid (Below w.heap.size w w1) := (below2 _ _ _).trans (hb.mono (by simp; omega))
  go_wp2_with fail
  go_ret
  exact ⟨rfl, HB.out⟩

set_option maxHeartbeats 1600000 in
theorem szPod_any (n : ByteArray) (c : Int) (z : ByteArray) (a : Option Addr) (len cap : Nat) (zs : List ByteArray) (d : ByteArray) (p : Int) (left : Int) (w : World) (hn : n.size ≤ 9223372036854775807) (hz : z.size ≤ 9223372036854775807) (hd : d.size ≤ 9223372036854775807) (hr : TxRow w a len cap zs) (h0 : 0 ≤ left) (h1 : left ≤ 1048576) :
    Calls Tryz.prog 37 #[.agg #[.string n, .int .i64 c, .string z, .slice a len cap, .string d, .int .i64 p], .int .i64 left] w (SzB left (len ≤ 1048576) w) := by
  have HR : Hid (TxRow w a len cap zs) := hr
  clear hr
  by_cases h9n : left < (n.size : Int)
  · go_enter Tryz.func37, Tryz.ntmps37
    go_wp2
    go_ret
    exact ⟨-1, rfl, .inl rfl, below1 _ _⟩
  by_cases h9z : left < (n.size : Int) + (z.size : Int)
  · go_enter Tryz.func37, Tryz.ntmps37
    go_wp2
    go_ret
    exact ⟨-1, rfl, .inl rfl, below1 _ _⟩
  go_enter Tryz.func37, Tryz.ntmps37
  go_wp2_with fail
  refine (szS_any a len cap zs _ _ (HR.out.below (below1 _ _)) (by omega) (by omega)).mono ?_
  rintro e w1 ⟨r, rfl, hr, rfl⟩
  rcases hr with rfl | ⟨hr0, hr1, hr2⟩
  · go_wp2
    go_ret
    exact ⟨-1, rfl, .inl rfl, below1 _ _⟩
  by_cases h9d : r < (d.size : Int)
  · go_wp2
    go_ret
    exact ⟨-1, rfl, .inl rfl, below1 _ _⟩
  go_wp2
  go_ret
  exact ⟨_, rfl, .inr ⟨by omega, by omega, by omega⟩, below1 _ _⟩

set_option maxHeartbeats 3200000 in
theorem toPod_any (n : ByteArray) (c : Int) (z : ByteArray) (a : Option Addr) (len cap : Nat) (zs : List ByteArray) (d : ByteArray) (p : Int) (w : World) (hr : TxRow w a len cap zs) (hl : len ≤ 1048576) :
    Calls Tryz.prog 39 #[.agg #[.string n, .int .i64 c, .string z, .slice a len cap, .string d, .int .i64 p]] w fun e w' => e = .returned (.agg #[.string n, .int .i64 c, .string z, .slice (some ⟨w.heap.size + 1 + 1 + 1, 0, none⟩) len len, .string d, .int .i64 p]) ∧ w'.heap[w.heap.size + 1 + 1 + 1]? = some (.cells (zs.map Value.string).toArray 9 (0, 0)) ∧ Below w.heap.size w w' := by
  have HR : Hid (TxRow w a len cap zs) := hr
  clear hr
  go_enter Tryz.func39, Tryz.ntmps39
  go_wp2_with fail
  refine (toS_any a len cap zs _ (HR.out.below (below3 _ _ _ _)) hl).mono ?_
  rintro e w1 ⟨rfl, hG, hb⟩
  have hsz : (((w.alloc (.cells #[.string n, .int .i64 c, .string z, .slice a len cap, .string d, .int .i64 p] 73)).alloc (.cells #[.string ⟨#[]⟩, .int .i64 0, .string ⟨#[]⟩, .slice none 0 0, .string ⟨#[]⟩, .int .i64 0] 76)).alloc (.cells #[.string n, .int .i64 c, .string z, .slice none 0 0, .string ⟨#[]⟩, .int .i64 0] 76)).heap.size = w.heap.size + 1 + 1 + 1 := by simp
  rw [hsz] at hG hb ⊢
  have g0 : w1.heap[w.heap.size]? = some (.cells #[.string n, .int .i64 c, .string z, .slice a len cap, .string d, .int .i64 p] 73 (0, 0)) := by rw [hb.block _ (by omega)]; exact heap3_0 _ _ _ _
  have g1 : w1.heap[w.heap.size + 1]? = some (.cells #[.string ⟨#[]⟩, .int .i64 0, .string ⟨#[]⟩, .slice none 0 0, .string ⟨#[]⟩, .int .i64 0] 76 (0, 0)) := by rw [hb.block _ (by omega)]; exact heap3_1 _ _ _ _
  have g2 : w1.heap[w.heap.size + 1 + 1]? = some (.cells #[.string n, .int .i64 c, .string z, .slice none 0 0, .string ⟨#[]⟩, .int .i64 0] 76 (0, 0)) := by rw [hb.block _ (by omega)]; exact heap3_2 _ _ _ _
  have HG := hidK hG
  have HB : Hid (Below w.heap.size w w1) := (below3 _ _ _ _).trans (hb.mono (by omega))
  have c04 : w1.cell? ⟨w.heap.size, 4, none⟩ = some (.string d) := cellK g0 4
  have c05 : w1.cell? ⟨w.heap.size, 5, none⟩ = some (.int .i64 p) := cellK g0 5
  have c20 : w1.cell? ⟨w.heap.size + 1 + 1, 0, none⟩ = some (.string n) := cellK g2 0
  have f20 : w1.frozen? ⟨w.heap.size + 1 + 1, 0, none⟩ = false := froK g2 0
  have c10 : w1.cell? ⟨w.heap.size + 1, 0, none⟩ = some (.string ⟨#[]⟩) := cellK g1 0
  have f10 : w1.frozen? ⟨w.heap.size + 1, 0, none⟩ = false := froK g1 0
  have c21 : w1.cell? ⟨w.heap.size + 1 + 1, 1, none⟩ = some (.int .i64 c) := cellK g2 1
  have f21 : w1.frozen? ⟨w.heap.size + 1 + 1, 1, none⟩ = false := froK g2 1
  have c11 : w1.cell? ⟨w.heap.size + 1, 1, none⟩ = some (.int .i64 0) := cellK g1 1
  have f11 : w1.frozen? ⟨w.heap.size + 1, 1, none⟩ = false := froK g1 1
  have c22 : w1.cell? ⟨w.heap.size + 1 + 1, 2, none⟩ = some (.string z) := cellK g2 2
  have f22 : w1.frozen? ⟨w.heap.size + 1 + 1, 2, none⟩ = false := froK g2 2
  have c12 : w1.cell? ⟨w.heap.size + 1, 2, none⟩ = some (.string ⟨#[]⟩) := cellK g1 2
  have f12 : w1.frozen? ⟨w.heap.size + 1, 2, none⟩ = false := froK g1 2
  have c23 : w1.cell? ⟨w.heap.size + 1 + 1, 3, none⟩ = some (.slice none 0 0) := cellK g2 3
  have f23 : w1.frozen? ⟨w.heap.size + 1 + 1, 3, none⟩ = false := froK g2 3
  have c13 : w1.cell? ⟨w.heap.size + 1, 3, none⟩ = some (.slice none 0 0) := cellK g1 3
  have f13 : w1.frozen? ⟨w.heap.size + 1, 3, none⟩ = false := froK g1 3
  have c24 : w1.cell? ⟨w.heap.size + 1 + 1, 4, none⟩ = some (.string ⟨#[]⟩) := cellK g2 4
  have f24 : w1.frozen? ⟨w.heap.size + 1 + 1, 4, none⟩ = false := froK g2 4
  have c14 : w1.cell? ⟨w.heap.size + 1, 4, none⟩ = some (.string ⟨#[]⟩) := cellK g1 4
  have f14 : w1.frozen? ⟨w.heap.size + 1, 4, none⟩ = false := froK g1 4
  have c25 : w1.cell? ⟨w.heap.size + 1 + 1, 5, none⟩ = some (.int .i64 0) := cellK g2 5
  have f25 : w1.frozen? ⟨w.heap.size + 1 + 1, 5, none⟩ = false := froK g2 5
  have c15 : w1.cell? ⟨w.heap.size + 1, 5, none⟩ = some (.int .i64 0) := cellK g1 5
  have f15 : w1.frozen? ⟨w.heap.size + 1, 5, none⟩ = false := froK g1 5
  clear g0 g1 g2 hG hb hsz
  go_wp2
  refine bodyPost_ret (v := .agg #[.string n, .int .i64 c, .string z, .slice (some ⟨w.heap.size + 1 + 1 + 1, 0, none⟩) len len, .string d, .int .i64 p]) (by simp [results, Tryz.results39, go_sem, *]) rfl ⟨rfl, ?_, ?_⟩
  · exact set_keeps (by omega) (set_keeps (by omega) (set_keeps (by omega) (set_keeps (by omega) (set_keeps (by omega) (set_keeps (by omega) (set_keeps (by omega) (set_keeps (by omega) (set_keeps (by omega) (HG.out)))))))))
  · exact set_below (by omega) (set_below (by omega) (set_below (by omega) (set_below (by omega) (set_below (by omega) (set_below (by omega) (set_below (by omega) (set_below (by omega) (set_below (by omega) (HB.out)))))))))

set_option maxHeartbeats 3200000 in
theorem eqPod_any (n : ByteArray) (c : Int) (z : ByteArray) (a : Option Addr) (len cap : Nat) (zs : List ByteArray) (d : ByteArray) (p : Int) (a' : Option Addr) (len' cap' : Nat) (w : World) (hr : TxRow w a len cap zs) (hr' : TxRow w a' len' cap' zs) :
    Calls Tryz.prog 41 #[.agg #[.string n, .int .i64 c, .string z, .slice a len cap, .string d, .int .i64 p], .agg #[.string n, .int .i64 c, .string z, .slice a' len' cap', .string d, .int .i64 p]] w fun e w' => e = .returned (.bool true) ∧ Below w.heap.size w w' := by
  have HR : Hid (TxRow w a len cap zs) := hr
  have HR' : Hid (TxRow w a' len' cap' zs) := hr'
  clear hr hr'
  go_enter Tryz.func41, Tryz.ntmps41
  go_wp2_with fail
  refine (eqS_any a a' len len' cap cap' zs zs _ (HR.out.below (below2 _ _ _)) (HR'.out.below (below2 _ _ _))).mono ?_
  rintro e w1 ⟨r, rfl, hr, hb⟩
  obtain rfl : r = true := hr.2 rfl
  clear hr
  have HB : Hid (Below w.heap.size w w1) := (below2 _ _ _).trans (hb.mono (by simp; omega))
  have g0 := (hb.block w.heap.size (by simp; omega)).trans (heap2_0 _ _ _)
  have g1 := (hb.block (w.heap.size + 1) (by simp)).trans (heap2_1 _ _ _)
  have c04 : w1.cell? ⟨w.heap.size, 4, none⟩ = some (.string d) := cellK g0 4
  have c05 : w1.cell? ⟨w.heap.size, 5, none⟩ = some (.int .i64 p) := cellK g0 5
  have c14 : w1.cell? ⟨w.heap.size + 1, 4, none⟩ = some (.string d) := cellK g1 4
  have c15 : w1.cell? ⟨w.heap.size + 1, 5, none⟩ = some (.int .i64 p) := cellK g1 5
  clear g0 g1 hb
  go_wp2_with fail
  go_ret
  exact ⟨rfl, HB.out⟩

end Go.Proofs.YtcljghpfclegmaaGreatDoor
