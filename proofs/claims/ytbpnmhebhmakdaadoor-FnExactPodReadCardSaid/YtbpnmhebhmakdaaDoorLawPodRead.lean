/-
  The law FnExactPodRead, walked: it returns true at every text.
-/
import Derived.Test.YtbpnmhebhmakdaaDoorPReadI
import Derived.Test.YtbpnmhebhmakdaaDoorPReadS
import Derived.Test.YtbpnmhebhmakdaaDoorPMark
namespace Go.Proofs.YtbpnmhebhmakdaaDoor
open Go.RowKit

/-- So many marks. -/
def marksL (len : Nat) : List ByteArray := (List.range len).map fun j => markT (1 + j)
theorem marksL_length (len : Nat) : (marksL len).length = len := by simp [marksL]
theorem marksL_at {len j : Nat} {y : ByteArray} (h : (marksL len)[j]? = some y) : y = markT (1 + j) ∧ j < len := by
  have hj : j < len := by have := (List.getElem?_eq_some_iff.1 h).1; rw [marksL_length] at this; exact this
  unfold marksL at h
  rw [List.getElem?_map, List.getElem?_range hj] at h
  simp at h
  exact ⟨h.symm, hj⟩
theorem markT_size {u : Nat} (h : u ≤ 1048576) : (markT u).size ≤ 9223372036854775807 := by
  have h3 := dec_len (u := u) (k := 18) (by omega)
  unfold markT
  rw [ByteArray.size_append]
  have : (⟨(Lib.decDigits u).toArray⟩ : ByteArray).size = (Lib.decDigits u).length := by simp [ByteArray.size]
  rw [this, show (⟨#[109]⟩ : ByteArray).size = 1 from rfl]
  omega
theorem row_marked {w : World} {g len cap : Nat} {cur : Array Value} {T : TypeId} (h : w.heap[g]? = some (.cells cur T (0, 0))) (hm : MarkAt 1 len cur) (hl : len ≤ 1000) (hc : len ≤ cap) (hc2 : cap ≤ 9223372036854775807) :
    TxRow w (some ⟨g, 0, none⟩) len cap (marksL len) := by
  refine ⟨marksL_length len, hc, hc2, fun j x hx => ?_, .inr ⟨g, 0, rfl, lt_of_someP h, fun j x hx => ?_⟩⟩
  · obtain ⟨rfl, hj⟩ := marksL_at hx
    exact markT_size (by omega)
  · obtain ⟨rfl, hj⟩ := marksL_at hx
    rw [Nat.zero_add, cellK h]
    exact hm j hj
theorem row_fits {w : World} {g len cap : Nat} {cur : Array Value} {zs : List ByteArray} {T : TypeId} (hr : TxRow w (some ⟨g, 0, none⟩) len cap zs) (h : w.heap[g]? = some (.cells cur T (0, 0))) : len ≤ cur.size := by
  rcases Nat.eq_zero_or_pos len with h0 | h0
  · omega
  obtain ⟨b, o, x, e, hb, hx, hc, -⟩ := hr.at (k := len - 1) (by omega)
  cases e
  rw [Nat.zero_add, cellK h] at hc
  have := (Array.getElem?_eq_some_iff.1 hc).1
  omega

theorem PodIs.few {s n : ByteArray} {c : Int} {z : ByteArray} {zs : List ByteArray} {d : ByteArray} {p k : Int} (h : PodIs s n c z zs d p k) : zs.length ≤ 3 := by
  obtain ⟨-, -, ⟨_, _, _, _, rfl, _⟩ | ⟨_, _, _, _, _, rfl, _⟩ | ⟨_, _, h, _⟩⟩ := h
  · simp
  · simp
  · exact h

/-- What the marking of an answer leaves: the list holds marks; what lies elsewhere stands. -/
def MarkedAns (a : Option Addr) (len cap X q : Nat) (w : World) (e : Ending) (w' : World) : Prop :=
  e = .returned (.int .i64 ((1 + len : Nat) : Int)) ∧ TxRow w' a len cap (marksL len) ∧ Below X w w' ∧ w'.heap[q]? = w.heap[q]?

theorem markPodOut_all (n : ByteArray) (c : Int) (z : ByteArray) (a : Option Addr) (len cap : Nat) (d : ByteArray) (p x : Int) (zs : List ByteArray) (X q : Nat) (w : World) (hr : TxRow w a len cap zs) (hl : len ≤ 3)
    (ho : zs = [] ∨ ∃ g cur, a = some ⟨g, 0, none⟩ ∧ X ≤ g ∧ w.heap[g]? = some (.cells cur 9 (0, 0)) ∧ ¬ q = g) (hX : X ≤ w.heap.size) (hq : q < w.heap.size) :
    Calls Tryd.prog 7 #[.agg #[.string n, .int .i64 c, .string z, .slice a len cap, .string d, .int .i64 p, .int .i64 x], .int .i64 1] w (MarkedAns a len cap X q w) := by
  rcases ho with hz | ⟨g, cur, rfl, hg, hh, hne⟩
  · subst hz
    obtain rfl : len = 0 := by have := hr.1; simpa using this.symm
    refine (markPodOut_nil n c z a cap d p x w).mono ?_
    rintro e w' ⟨rfl, hb⟩
    exact ⟨rfl, ⟨rfl, hr.2.1, hr.2.2.1, fun j y hy => by simp [marksL] at hy, .inl rfl⟩, hb.mono hX, hb.block q hq⟩
  · refine (markPodOut_own n c z g len cap d p x cur w hh (row_fits hr hh) (by omega)).mono ?_
    rintro e w' ⟨rfl, hk, cu, hcu, hm⟩
    exact ⟨rfl, row_marked hcu hm (by omega) hr.2.1 hr.2.2.1, hk.below (Below.refl X w) hX hg, hk.block q hq hne⟩

set_option maxHeartbeats 6400000 in
theorem fnExactPodRead_walk (s : ByteArray) (w : World) (hs : s.size ≤ maxLen) (ht : ptab w) (hmx : mxl w) :
    Calls Tryd.prog 3 #[.string s] w fun e w' => e = .returned (.bool true) ∧ Below w.heap.size w w' := by
  unfold maxLen at hs
  have HT := hidK ht
  have HM := hidK hmx
  clear ht hmx
  by_cases hl : 1048576 < s.size
  · go_enter Tryd.func3, Tryd.ntmps3
    go_wp2
    go_ret
    exact ⟨rfl, Below.refl _ _⟩
  have HS := hidK (fun w => spodRead_any s w (by omega))
  have HI := hidK (fun w (h : ptab w) (h2 : mxl w) => ipodRead_any s w (by omega) h h2)
  go_enter Tryd.func3, Tryd.ntmps3
  go_wp2_with fail
  refine (HS.out _).mono ?_
  rintro e w1 ⟨n, c, z, a0, l0, cp0, zs, d, p, x, rfl, hp0, hr0, -, hb1⟩
  have HB1 := hidK hb1
  have HP := hidK hp0
  have HR0 := hidK hr0
  clear hb1 hp0 hr0
  go_wp2_with fail
  have HBa := hidK (HB1.out.trans ((below1 w1 (.cells #[.string n, .int .i64 c, .string z, .slice a0 l0 cp0, .string d, .int .i64 p, .int .i64 x] 26)).mono HB1.out.size))
  refine (HI.out _ (HT.out.below HBa.out) (HM.out.below HBa.out)).mono ?_
  rintro e w2 ⟨n', c', z', a, len, cap, zs', d', p', x', rfl, hp2, hr2, ho2, hb2⟩
  obtain ⟨rfl, rfl, rfl, rfl, rfl, rfl, rfl⟩ := HP.out.same hp2
  obtain ⟨g2, hb21, -⟩ := slotK hb2
  have HB2 := hidK (HB1.out.trans (hb21.mono HB1.out.size))
  have HR2 := hidK hr2
  have HG2 := hidK g2
  have HO2 := hidK ho2
  have HR02 := hidK (HR0.out.below hb21)
  have c0 : ∀ o, (w2.alloc o).cell? ⟨w1.heap.size, 0, none⟩ = some (.string n) := fun o => (cell_below (below1 w2 o) (lt_of_someP g2)).trans (cellK g2 0)
  have c1 : ∀ o, (w2.alloc o).cell? ⟨w1.heap.size, 1, none⟩ = some (.int .i64 c) := fun o => (cell_below (below1 w2 o) (lt_of_someP g2)).trans (cellK g2 1)
  have c2 : ∀ o, (w2.alloc o).cell? ⟨w1.heap.size, 2, none⟩ = some (.string z) := fun o => (cell_below (below1 w2 o) (lt_of_someP g2)).trans (cellK g2 2)
  have c3 : ∀ o, (w2.alloc o).cell? ⟨w1.heap.size, 3, none⟩ = some (.slice a0 l0 cp0) := fun o => (cell_below (below1 w2 o) (lt_of_someP g2)).trans (cellK g2 3)
  have c4 : ∀ o, (w2.alloc o).cell? ⟨w1.heap.size, 4, none⟩ = some (.string d) := fun o => (cell_below (below1 w2 o) (lt_of_someP g2)).trans (cellK g2 4)
  have c5 : ∀ o, (w2.alloc o).cell? ⟨w1.heap.size, 5, none⟩ = some (.int .i64 p) := fun o => (cell_below (below1 w2 o) (lt_of_someP g2)).trans (cellK g2 5)
  have c6 : ∀ o, (w2.alloc o).cell? ⟨w1.heap.size, 6, none⟩ = some (.int .i64 x) := fun o => (cell_below (below1 w2 o) (lt_of_someP g2)).trans (cellK g2 6)
  have HLE := hidK (HP.out.few)
  have hlz := HR2.out.1
  have hb21' := hb21
  clear hp2 hr2 ho2 hb2 hb21 HBa
  have HB12 := hidK hb21'
  clear hb21'
  obtain ⟨M, hM⟩ : ∃ M : Int, M = ((1 + len : Nat) : Int) := ⟨_, rfl⟩
  have hM0 : (0 : Int) < M := by omega
  have HE := hidK (fun w' (h : TxRow w' a len cap zs) (h' : TxRow w' a0 l0 cp0 zs) => eqPodOut_any n c z a len cap zs d p x a0 l0 cp0 w' h h')
  have HH := hidK (fun w' (h : TxRow w' a len cap (marksL len)) => heldPodOut_any n c z a len cap d p x (marksL len) w' h (by have := HLE.out; omega) (fun j y hy => (marksL_at hy).1))
  rw [← hM] at HH
  have HMM := hidK hM
  clear hM g2
  go_wp2_with fail
  refine (HE.out _ (HR2.out.below (below1 _ _)) (HR02.out.below (below1 _ _))).mono ?_
  rintro e w3 ⟨rfl, hb3⟩
  obtain ⟨g3, hb31, -⟩ := slotK hb3
  have HG3 := hidK g3
  have HB23 := hidK hb31
  have HB13 := hidK (HB12.out.trans (hb31.mono HB12.out.size))
  have k0 : w3.cell? ⟨w2.heap.size, 0, none⟩ = some (.string n) := cellK g3 0
  have k1 : w3.cell? ⟨w2.heap.size, 1, none⟩ = some (.int .i64 c) := cellK g3 1
  have k2 : w3.cell? ⟨w2.heap.size, 2, none⟩ = some (.string z) := cellK g3 2
  have k3 : w3.cell? ⟨w2.heap.size, 3, none⟩ = some (.slice a len cap) := cellK g3 3
  have k4 : w3.cell? ⟨w2.heap.size, 4, none⟩ = some (.string d) := cellK g3 4
  have k5 : w3.cell? ⟨w2.heap.size, 5, none⟩ = some (.int .i64 p) := cellK g3 5
  have k6 : w3.cell? ⟨w2.heap.size, 6, none⟩ = some (.int .i64 x) := cellK g3 6
  clear hb3 hb31 g3 c0 c1 c2 c3 c4 c5 c6
  have HMK := hidK (markPodOut_all n c z a len cap d p x zs (w1.heap.size + 1) w2.heap.size w3 (HR2.out.below HB23.out) (by have := HLE.out; omega)
    (by
      rcases HO2.out with h | ⟨g, cur, h1, h2, h3⟩
      · exact .inl h
      · have hlt := lt_of_someP h3
        exact .inr ⟨g, cur, h1, by simpa using h2, (HB23.out.block g hlt).trans h3, by omega⟩)
    (Nat.le_trans (lt_of_someP HG2.out) HB23.out.size) (lt_of_someP HG3.out))
  go_wp2_with fail
  refine HMK.out.mono ?_
  rintro e w4 ⟨rfl, hr4, hb4, hq4⟩
  rw [← HMM.out]
  have g4 := hq4.trans HG3.out
  have HG4 := hidK g4
  have HR4 := hidK hr4
  have HB14 : Hid (Below w1.heap.size w1 w4) := HB13.out.trans (hb4.mono (by omega))
  have HV4 : Hid (w4.heap[w1.heap.size]? = _) := (hb4.block w1.heap.size (by omega)).trans ((HB23.out.block _ (lt_of_someP HG2.out)).trans HG2.out)
  have y0 : w4.cell? ⟨w2.heap.size, 0, none⟩ = some (.string n) := cellK g4 0
  have y1 : w4.cell? ⟨w2.heap.size, 1, none⟩ = some (.int .i64 c) := cellK g4 1
  have y2 : w4.cell? ⟨w2.heap.size, 2, none⟩ = some (.string z) := cellK g4 2
  have y3 : w4.cell? ⟨w2.heap.size, 3, none⟩ = some (.slice a len cap) := cellK g4 3
  have y4 : w4.cell? ⟨w2.heap.size, 4, none⟩ = some (.string d) := cellK g4 4
  have y5 : w4.cell? ⟨w2.heap.size, 5, none⟩ = some (.int .i64 p) := cellK g4 5
  have y6 : w4.cell? ⟨w2.heap.size, 6, none⟩ = some (.int .i64 x) := cellK g4 6
  clear k0 k1 k2 k3 k4 k5 k6 hr4 hb4 hq4 g4 HMK
  go_wp2_with fail
  refine (HH.out _ HR4.out).mono ?_
  rintro e w5 ⟨rfl, hb5⟩
  have HB45 := hidK hb5
  have HB15 := hidK (HB14.out.trans (hb5.mono HB14.out.size))
  have HB05 := hidK (HB1.out.trans (HB15.out.mono HB1.out.size))
  clear hb5 y0 y1 y2 y3 y4 y5 y6
  go_wp2_with fail
  refine (HI.out _ (HT.out.below HB05.out) (HM.out.below HB05.out)).mono ?_
  rintro e w6 ⟨n', c', z', a', len', cap', zs', d', p', x', rfl, hp6, hr6, -, hb6⟩
  obtain ⟨rfl, rfl, rfl, rfl, rfl, rfl, rfl⟩ := HP.out.same hp6
  have HB46 := hidK (HB45.out.trans (hb6.mono HB45.out.size))
  have HB16 := hidK (HB15.out.trans (hb6.mono HB15.out.size))
  have HR6 := hidK hr6
  have g6 := (HB46.out.block _ (lt_of_someP HV4.out)).trans HV4.out
  have HE2 := hidK (fun w' (h : TxRow w' a' len' cap' zs) (h' : TxRow w' a0 l0 cp0 zs) => eqPodOut_any n c z a' len' cap' zs d p x a0 l0 cp0 w' h h')
  have c0 : ∀ o, (w6.alloc o).cell? ⟨w1.heap.size, 0, none⟩ = some (.string n) := fun o => (cell_below (below1 w6 o) (lt_of_someP g6)).trans (cellK g6 0)
  have c1 : ∀ o, (w6.alloc o).cell? ⟨w1.heap.size, 1, none⟩ = some (.int .i64 c) := fun o => (cell_below (below1 w6 o) (lt_of_someP g6)).trans (cellK g6 1)
  have c2 : ∀ o, (w6.alloc o).cell? ⟨w1.heap.size, 2, none⟩ = some (.string z) := fun o => (cell_below (below1 w6 o) (lt_of_someP g6)).trans (cellK g6 2)
  have c3 : ∀ o, (w6.alloc o).cell? ⟨w1.heap.size, 3, none⟩ = some (.slice a0 l0 cp0) := fun o => (cell_below (below1 w6 o) (lt_of_someP g6)).trans (cellK g6 3)
  have c4 : ∀ o, (w6.alloc o).cell? ⟨w1.heap.size, 4, none⟩ = some (.string d) := fun o => (cell_below (below1 w6 o) (lt_of_someP g6)).trans (cellK g6 4)
  have c5 : ∀ o, (w6.alloc o).cell? ⟨w1.heap.size, 5, none⟩ = some (.int .i64 p) := fun o => (cell_below (below1 w6 o) (lt_of_someP g6)).trans (cellK g6 5)
  have c6 : ∀ o, (w6.alloc o).cell? ⟨w1.heap.size, 6, none⟩ = some (.int .i64 x) := fun o => (cell_below (below1 w6 o) (lt_of_someP g6)).trans (cellK g6 6)
  clear hp6 hr6 hb6 g6
  go_wp2_with fail
  refine (HE2.out _ (HR6.out.below (below1 _ _)) ((HR0.out.below HB16.out).below (below1 _ _))).mono ?_
  rintro e w7 ⟨rfl, hb7⟩
  obtain ⟨-, hb71, -⟩ := slotK hb7
  have HB47 := hidK (HB46.out.trans (hb71.mono HB46.out.size))
  have HB17 := hidK (HB16.out.trans (hb71.mono HB16.out.size))
  have g7 := (HB47.out.block _ (lt_of_someP HG4.out)).trans HG4.out
  have y0 : w7.cell? ⟨w2.heap.size, 0, none⟩ = some (.string n) := cellK g7 0
  have y1 : w7.cell? ⟨w2.heap.size, 1, none⟩ = some (.int .i64 c) := cellK g7 1
  have y2 : w7.cell? ⟨w2.heap.size, 2, none⟩ = some (.string z) := cellK g7 2
  have y3 : w7.cell? ⟨w2.heap.size, 3, none⟩ = some (.slice a len cap) := cellK g7 3
  have y4 : w7.cell? ⟨w2.heap.size, 4, none⟩ = some (.string d) := cellK g7 4
  have y5 : w7.cell? ⟨w2.heap.size, 5, none⟩ = some (.int .i64 p) := cellK g7 5
  have y6 : w7.cell? ⟨w2.heap.size, 6, none⟩ = some (.int .i64 x) := cellK g7 6
  clear hb7 hb71 g7 c0 c1 c2 c3 c4 c5 c6
  go_wp2_with fail
  refine (HH.out _ (HR4.out.below HB47.out)).mono ?_
  rintro e w8 ⟨rfl, hb8⟩
  have HB8 := hidK (HB1.out.trans ((HB17.out.trans (hb8.mono HB17.out.size)).mono HB1.out.size))
  clear hb8
  go_wp2_with fail
  go_ret
  exact ⟨rfl, HB8.out⟩

end Go.Proofs.YtbpnmhebhmakdaaDoor
