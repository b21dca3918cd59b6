/-
  For PodRead: what lies behind the making of the pod, and the answer written into its place.
-/
import Derived.Test.YtbpnmhebhmakdaaDoorPRead
namespace Go.Proofs.YtbpnmhebhmakdaaDoor
open Go.RowKit

theorem keep_cellP {w w' : World} {b o : Nat} {v : Value} (hb : Below w.heap.size w w') (h : w.cell? ⟨b, o, none⟩ = some v) : w'.cell? ⟨b, o, none⟩ = some v := by
  rcases Nat.lt_or_ge b w.heap.size with h1 | h1
  · rw [cell_below hb h1]; exact h
  · simp [World.cell?, Array.getElem?_eq_none h1] at h
theorem keep_frozP {w w' : World} {b o : Nat} {v : Value} (hb : Below w.heap.size w w') (h : w.cell? ⟨b, o, none⟩ = some v) (hf : w.frozen? ⟨b, o, none⟩ = false) : w'.frozen? ⟨b, o, none⟩ = false := by
  rcases Nat.lt_or_ge b w.heap.size with h1 | h1
  · rw [hb.frozen (p := ⟨b, o, none⟩) h1]; exact hf
  · simp [World.cell?, Array.getElem?_eq_none h1] at h
theorem lt_keepP {w w' : World} (hb : Below w.heap.size w w') {b o : Nat} {v : Value} (h : w.cell? ⟨b, o, none⟩ = some v) : b < w'.heap.size := by
  rcases Nat.lt_or_ge b w.heap.size with h1 | h1
  · exact Nat.lt_of_lt_of_le h1 hb.size
  · simp [World.cell?, Array.getElem?_eq_none h1] at h
theorem keep_laidP {w w' : World} {vs : Array Value} {T : TypeId} {j : Nat} {v : Value} (hb : Below (w.alloc (.cells vs T)).drew.heap.size (w.alloc (.cells vs T)).drew w') (h : vs[j]? = some v) : w'.cell? ⟨w.heap.size, j, none⟩ = some v ∧ w'.frozen? ⟨w.heap.size, j, none⟩ = false := by
  have e : w'.heap[w.heap.size]? = some (.cells vs T (0, 0)) := (hb.block w.heap.size (by simp)).trans Array.getElem?_push_size
  exact ⟨by rw [cellK e, h], by simp [World.frozen?, e]⟩
theorem keep_laidQ {w w' : World} {vs : Array Value} {T : TypeId} {j : Nat} {v : Value} (hb : Below (w.alloc (.cells vs T)).heap.size (w.alloc (.cells vs T)) w') (h : vs[j]? = some v) : w'.cell? ⟨w.heap.size, j, none⟩ = some v ∧ w'.frozen? ⟨w.heap.size, j, none⟩ = false := by
  have e : w'.heap[w.heap.size]? = some (.cells vs T (0, 0)) := (hb.block w.heap.size (by simp)).trans Array.getElem?_push_size
  exact ⟨by rw [cellK e, h], by simp [World.frozen?, e]⟩
theorem numNP (a b c : Int) (w : World) : (Instr.field 33 (.agg #[.int .i64 a, .int .i64 b, .int .i64 c]) 0).run Tryd.prog w = .ok (.int .i64 a) w := by kernel_rfl
theorem drewP {B : Nat} {x w1 : World} (h : Below x.drew.heap.size x.drew w1) (hB : B ≤ x.heap.size) : Below B x w1 := ⟨h.os, h.tape, h.output, h.size, fun k hk => h.block k (Nat.lt_of_lt_of_le hk hB)⟩
theorem wordsB_count (s : ByteArray) : (wordsB s).length ≤ s.size + 1 := by
  rw [wordsB_length]
  have := Lib.countB_le blank (by decide) s.size s (Nat.le_refl _)
  omega
theorem four_of {l : List ByteArray} (h : 4 ≤ l.length) : ∃ a b c d r, l = a :: b :: c :: d :: r := by
  match l, h with
  | a :: b :: c :: d :: r, _ => exact ⟨a, b, c, d, r, rfl⟩

set_option maxHeartbeats 400000 in
theorem tooLongP_any (s : ByteArray) (w : World) (hs : s.size ≤ 9223372036854775807) :
    Calls Tryd.prog 12 #[.string s] w (BoolAns (8000 < s.size) w) := by
  go_enter Tryd.func12, Tryd.ntmps12
  go_wp2
  go_ret
  exact ⟨_, rfl, by simp; omega, rfl⟩

theorem PodAns.bad {s : ByteArray} {w w' : World} {k : Int} (h : PodIs s ⟨#[]⟩ 0 ⟨#[]⟩ [] ⟨#[]⟩ 0 k) (hb : Below w.heap.size w w') : PodAns s w (.returned (.agg #[.string ⟨#[]⟩, .int .i64 0, .string ⟨#[]⟩, .slice none 0 0, .string ⟨#[]⟩, .int .i64 0, .int .i64 k])) w' :=
  ⟨_, _, _, none, 0, 0, [], _, _, _, rfl, h, ⟨rfl, Nat.le_refl _, by omega, fun j x hx => by simp at hx, .inl rfl⟩, .inl rfl, hb⟩

/-- Behind the making of the pod: where it lies, its list, the answer's place. -/
def PMid (w : World) (a1 : ByteArray) (c : Int) (z : ByteArray) (zs : List ByteArray) (v : Value) (wx : World) : Prop :=
  ∃ bc a l cp, v = .pointer (some ⟨bc, 0, none⟩) ∧ wx.heap[bc]? = some (.cells #[.string a1, .int .i64 c, .string z, .slice a l cp, .string ⟨#[]⟩, .int .i64 0] 24 (0, 0)) ∧ wx.heap[w.heap.size]? = some (.cells #[.string ⟨#[]⟩, .int .i64 0, .string ⟨#[]⟩, .slice none 0 0, .string ⟨#[]⟩, .int .i64 0, .int .i64 0] 26 (0, 0)) ∧
    TxRow wx a l cp zs ∧ (a = none → cp = 0) ∧ (zs = [] ∨ ∃ g cur, a = some ⟨g, 0, none⟩ ∧ w.heap.size < g ∧ wx.heap[g]? = some (.cells cur 9 (0, 0))) ∧ Below w.heap.size w wx ∧ ¬ bc = w.heap.size
theorem TxRow.set {w : World} {a : Option Addr} {len cap : Nat} {zs : List ByteArray} (h : TxRow w a len cap zs) {b i : Nat} {v : Value} (hn : zs = [] ∨ ∃ g, a = some ⟨g, 0, none⟩ ∧ ¬ g = b) : TxRow (w.setCell ⟨b, i, none⟩ v) a len cap zs := by
  obtain ⟨h1, h2, h3, h4, h5⟩ := h
  refine ⟨h1, h2, h3, h4, ?_⟩
  rcases hn with hz | ⟨g, rfl, hg⟩
  · exact .inl hz
  rcases h5 with h5 | ⟨b', o, e, hlt, hc⟩
  · exact .inl h5
  cases e
  have hh : ∀ w : World, (w.setCell ⟨b, i, none⟩ v).heap[g]? = w.heap[g]? := fun w => Below.heap_setCell _ _ _ _ hg
  refine .inr ⟨g, 0, rfl, by simpa [World.setCell] using hlt, fun j x hx => ?_⟩
  have := hc j x hx
  simp only [World.cell?, hh] at this ⊢
  exact this
theorem PMid.A {w w4 : World} {a1 : ByteArray} {c : Int} {z : ByteArray} {zs : List ByteArray} {a : Option Addr} {l cp : Nat} (hb : Below w.heap.size w w4) (gv : w4.heap[w.heap.size]? = some (.cells #[.string ⟨#[]⟩, .int .i64 0, .string ⟨#[]⟩, .slice none 0 0, .string ⟨#[]⟩, .int .i64 0, .int .i64 0] 26 (0, 0)))
    (hr : TxRow w4 a l cp zs) (hn : a = none → cp = 0) (ho : zs = [] ∨ ∃ g cur, a = some ⟨g, 0, none⟩ ∧ w.heap.size < g ∧ w4.heap[g]? = some (.cells cur 9 (0, 0))) :
    PMid w a1 c z zs (.pointer (some ⟨w4.heap.size, 0, none⟩)) (w4.alloc (.cells #[.string a1, .int .i64 c, .string z, .slice a l cp, .string ⟨#[]⟩, .int .i64 0] 24)) := by
  have hlt := lt_of_someP gv
  refine ⟨w4.heap.size, a, l, cp, rfl, Array.getElem?_push_size, by rw [Below.heap_alloc _ _ _ hlt]; exact gv, hr.below (below1 _ _), hn, ?_, hb.trans ((below1 _ _).mono hb.size), Nat.ne_of_gt hlt⟩
  rcases ho with h | ⟨g, cur, h1, h2, h3⟩
  · exact .inl h
  · exact .inr ⟨g, cur, h1, h2, by rw [Below.heap_alloc _ _ _ (lt_of_someP h3)]; exact h3⟩
theorem PMid.S {w w4 : World} {b : Nat} {a1 : ByteArray} {c : Int} {z : ByteArray} {zs : List ByteArray} {a : Option Addr} {l cp : Nat} (gx : w4.heap[b]? = some (.cells #[.string ⟨#[]⟩, .int .i64 0, .string ⟨#[]⟩, .slice none 0 0, .string ⟨#[]⟩, .int .i64 0] 24 (0, 0))) (hbw : w.heap.size < b)
    (hb : Below w.heap.size w w4) (gv : w4.heap[w.heap.size]? = some (.cells #[.string ⟨#[]⟩, .int .i64 0, .string ⟨#[]⟩, .slice none 0 0, .string ⟨#[]⟩, .int .i64 0, .int .i64 0] 26 (0, 0)))
    (hr : TxRow w4 a l cp zs) (hn : a = none → cp = 0) (ho : zs = [] ∨ ∃ g cur, a = some ⟨g, 0, none⟩ ∧ b < g ∧ w4.heap[g]? = some (.cells cur 9 (0, 0))) :
    PMid w a1 c z zs (.pointer (some ⟨b, 0, none⟩)) ((((((w4.setCell ⟨b, 0, none⟩ (.string a1)).setCell ⟨b, 1, none⟩ (.int .i64 c)).setCell ⟨b, 2, none⟩ (.string z)).setCell ⟨b, 3, none⟩ (.slice a l cp)).setCell ⟨b, 4, none⟩ (.string ⟨#[]⟩)).setCell ⟨b, 5, none⟩ (.int .i64 0)) := by
  have hne : ¬ w.heap.size = b := Nat.ne_of_lt hbw
  have hn' : zs = [] ∨ ∃ g, a = some ⟨g, 0, none⟩ ∧ ¬ g = b := by
    rcases ho with h | ⟨g, cur, h1, h2, _⟩
    · exact .inl h
    · exact .inr ⟨g, h1, Nat.ne_of_gt h2⟩
  refine ⟨b, a, l, cp, rfl, block_set (block_set (block_set (block_set (block_set (block_set gx _) _) _) _) _) _, ?_, (((((hr.set hn').set hn').set hn').set hn').set hn').set hn', hn, ?_, ?_, Nat.ne_of_gt hbw⟩
  · rw [Below.heap_setCell _ _ _ _ hne, Below.heap_setCell _ _ _ _ hne, Below.heap_setCell _ _ _ _ hne, Below.heap_setCell _ _ _ _ hne, Below.heap_setCell _ _ _ _ hne, Below.heap_setCell _ _ _ _ hne]
    exact gv
  · rcases ho with h | ⟨g, cur, h1, h2, h3⟩
    · exact .inl h
    · have hg : ¬ g = b := Nat.ne_of_gt h2
      refine .inr ⟨g, cur, h1, Nat.lt_trans hbw h2, ?_⟩
      rw [Below.heap_setCell _ _ _ _ hg, Below.heap_setCell _ _ _ _ hg, Below.heap_setCell _ _ _ _ hg, Below.heap_setCell _ _ _ _ hg, Below.heap_setCell _ _ _ _ hg, Below.heap_setCell _ _ _ _ hg]
      exact h3
  · have hB := Nat.le_of_lt hbw
    exact (((((hb.setCell (p := ⟨b, 0, none⟩) hB _).setCell (p := ⟨b, 1, none⟩) hB _).setCell (p := ⟨b, 2, none⟩) hB _).setCell (p := ⟨b, 3, none⟩) hB _).setCell (p := ⟨b, 4, none⟩) hB _).setCell (p := ⟨b, 5, none⟩) hB _
theorem row_none {w : World} {a : Option Addr} {len cap : Nat} {zs : List ByteArray} (hz : zs = []) (hl : len = 0) (hc : cap ≤ 9223372036854775807) : TxRow w a len cap zs := by
  subst hz; subst hl
  exact ⟨rfl, Nat.zero_le _, hc, fun j x hx => by simp at hx, .inl rfl⟩

theorem zoneR_size {z : ByteArray} (h : z.size ≤ 9223372036854775807) : (zoneR z).size ≤ 9223372036854775807 := by
  by_cases hz : z = wDash
  · subst hz; rw [zoneR_dash]; decide
  · rw [zoneR_no hz]; exact h
theorem own_up {w4 : World} {zs : List ByteArray} {a : Option Addr} {X Y : Nat} {T : TypeId} (h : X < Y) (ho : zs = [] ∨ ∃ g cur, a = some ⟨g, 0, none⟩ ∧ Y ≤ g ∧ w4.heap[g]? = some (.cells cur T (0, 0))) : zs = [] ∨ ∃ g cur, a = some ⟨g, 0, none⟩ ∧ X < g ∧ w4.heap[g]? = some (.cells cur T (0, 0)) := by
  rcases ho with ho | ⟨g, cur, h1, h2, h3⟩
  · exact .inl ho
  · exact .inr ⟨g, cur, h1, Nat.lt_of_lt_of_le h h2, h3⟩
theorem endA {w w1 w2 w4 : World} {a1 : ByteArray} {c : Int} {z : ByteArray} {zs : List ByteArray} {a : Option Addr} {l cp : Nat} (HB : Below w.heap.size w w1) (HG : w1.heap[w.heap.size]? = some (.cells #[.string ⟨#[]⟩, .int .i64 0, .string ⟨#[]⟩, .slice none 0 0, .string ⟨#[]⟩, .int .i64 0, .int .i64 0] 26 (0, 0))) (HK : Below w1.heap.size w1 w2) (hb4 : Below w2.heap.size w2 w4) (hr : TxRow w4 a l cp zs) (hn : a = none → cp = 0) (ho : zs = [] ∨ ∃ g cur, a = some ⟨g, 0, none⟩ ∧ w2.heap.size ≤ g ∧ w4.heap[g]? = some (.cells cur 9 (0, 0))) :
    PMid w a1 c z zs (.pointer (some ⟨w4.heap.size, 0, none⟩)) (w4.alloc (.cells #[.string a1, .int .i64 c, .string z, .slice a l cp, .string ⟨#[]⟩, .int .i64 0] 24)) := by
  have h1 := lt_of_someP HG
  have h2 := Nat.lt_of_lt_of_le h1 HK.size
  exact PMid.A (HB.trans ((HK.mono HB.size).trans (hb4.mono (Nat.le_of_lt h2)))) ((hb4.block _ h2).trans ((HK.block _ h1).trans HG)) hr hn (own_up h2 ho)
theorem endB {w w1 w2 w4 : World} {a1 : ByteArray} {c : Int} {z : ByteArray} {zs : List ByteArray} {a : Option Addr} {l cp : Nat} (HB : Below w.heap.size w w1) (HG : w1.heap[w.heap.size]? = some (.cells #[.string ⟨#[]⟩, .int .i64 0, .string ⟨#[]⟩, .slice none 0 0, .string ⟨#[]⟩, .int .i64 0, .int .i64 0] 26 (0, 0))) (HK : Below w1.heap.size w1 w2) (hb4 : Below (w2.alloc (.cells #[.string ⟨#[]⟩, .int .i64 0, .string ⟨#[]⟩, .slice none 0 0, .string ⟨#[]⟩, .int .i64 0] 24)).heap.size (w2.alloc (.cells #[.string ⟨#[]⟩, .int .i64 0, .string ⟨#[]⟩, .slice none 0 0, .string ⟨#[]⟩, .int .i64 0] 24)) w4) (hr : TxRow w4 a l cp zs) (hn : a = none → cp = 0) (ho : zs = [] ∨ ∃ g cur, a = some ⟨g, 0, none⟩ ∧ (w2.alloc (.cells #[.string ⟨#[]⟩, .int .i64 0, .string ⟨#[]⟩, .slice none 0 0, .string ⟨#[]⟩, .int .i64 0] 24)).heap.size ≤ g ∧ w4.heap[g]? = some (.cells cur 9 (0, 0))) :
    PMid w a1 c z zs (.pointer (some ⟨w2.heap.size, 0, none⟩)) ((((((w4.setCell ⟨w2.heap.size, 0, none⟩ (.string a1)).setCell ⟨w2.heap.size, 1, none⟩ (.int .i64 c)).setCell ⟨w2.heap.size, 2, none⟩ (.string z)).setCell ⟨w2.heap.size, 3, none⟩ (.slice a l cp)).setCell ⟨w2.heap.size, 4, none⟩ (.string ⟨#[]⟩)).setCell ⟨w2.heap.size, 5, none⟩ (.int .i64 0)) := by
  have h1 := lt_of_someP HG
  have h2 := Nat.lt_of_lt_of_le h1 HK.size
  have h3 : w2.heap.size < (w2.alloc (.cells #[.string ⟨#[]⟩, .int .i64 0, .string ⟨#[]⟩, .slice none 0 0, .string ⟨#[]⟩, .int .i64 0] 24)).heap.size := by simp
  exact PMid.S ((hb4.block _ h3).trans Array.getElem?_push_size) h2 (HB.trans ((HK.mono HB.size).trans (((below1 _ _).mono (Nat.le_of_lt h2)).trans (hb4.mono (Nat.le_of_lt (Nat.lt_trans h2 h3))))))
    ((hb4.block _ (Nat.lt_trans h2 h3)).trans ((Below.heap_alloc _ _ _ h2).trans ((HK.block _ h1).trans HG))) hr hn (own_up h3 ho)
theorem endC {w w1 w2 w4 : World} {a1 : ByteArray} {c : Int} {z : ByteArray} {zs : List ByteArray} {a : Option Addr} {l cp : Nat} (HB : Below w.heap.size w w1) (HG : w1.heap[w.heap.size]? = some (.cells #[.string ⟨#[]⟩, .int .i64 0, .string ⟨#[]⟩, .slice none 0 0, .string ⟨#[]⟩, .int .i64 0, .int .i64 0] 26 (0, 0))) (HK : Below w1.heap.size w1 w2) (hb2 : Below (w1.alloc (.cells #[.string ⟨#[]⟩, .int .i64 0, .string ⟨#[]⟩, .slice none 0 0, .string ⟨#[]⟩, .int .i64 0] 24)).drew.heap.size (w1.alloc (.cells #[.string ⟨#[]⟩, .int .i64 0, .string ⟨#[]⟩, .slice none 0 0, .string ⟨#[]⟩, .int .i64 0] 24)).drew w2) (hb4 : Below w2.heap.size w2 w4) (hr : TxRow w4 a l cp zs) (hn : a = none → cp = 0) (ho : zs = [] ∨ ∃ g cur, a = some ⟨g, 0, none⟩ ∧ w2.heap.size ≤ g ∧ w4.heap[g]? = some (.cells cur 9 (0, 0))) :
    PMid w a1 c z zs (.pointer (some ⟨w1.heap.size, 0, none⟩)) ((((((w4.setCell ⟨w1.heap.size, 0, none⟩ (.string a1)).setCell ⟨w1.heap.size, 1, none⟩ (.int .i64 c)).setCell ⟨w1.heap.size, 2, none⟩ (.string z)).setCell ⟨w1.heap.size, 3, none⟩ (.slice a l cp)).setCell ⟨w1.heap.size, 4, none⟩ (.string ⟨#[]⟩)).setCell ⟨w1.heap.size, 5, none⟩ (.int .i64 0)) := by
  have h1 := lt_of_someP HG
  have h2 := Nat.lt_of_lt_of_le h1 HK.size
  have h3 : w1.heap.size < (w1.alloc (.cells #[.string ⟨#[]⟩, .int .i64 0, .string ⟨#[]⟩, .slice none 0 0, .string ⟨#[]⟩, .int .i64 0] 24)).drew.heap.size := by simp
  have h4 : w1.heap.size < w2.heap.size := Nat.lt_of_lt_of_le h3 hb2.size
  exact PMid.S ((hb4.block _ h4).trans ((hb2.block _ h3).trans Array.getElem?_push_size)) h1 (HB.trans ((HK.mono HB.size).trans (hb4.mono (Nat.le_of_lt h2)))) ((hb4.block _ h2).trans ((HK.block _ h1).trans HG)) hr hn (own_up h4 ho)
theorem frzP {w : World} {b : Nat} {vs : Array Value} {T : TypeId} (h : w.heap[b]? = some (.cells vs T (0, 0))) (i : Nat) : w.frozen? ⟨b, i, none⟩ = false := by simp [World.frozen?, h]
theorem set_below7 {w w1 : World} {B b : Nat} {v0 v1 v2 v3 v4 v5 v6 : Value} (hB : B ≤ b) (h : Below B w w1) :
    Below B w (((((((w1.setCell ⟨b, 0, none⟩ (v0)).setCell ⟨b, 1, none⟩ (v1)).setCell ⟨b, 2, none⟩ (v2)).setCell ⟨b, 3, none⟩ (v3)).setCell ⟨b, 4, none⟩ (v4)).setCell ⟨b, 5, none⟩ (v5)).setCell ⟨b, 6, none⟩ (v6)) :=
  ((((((h.setCell (p := ⟨b, 0, none⟩) hB v0).setCell (p := ⟨b, 1, none⟩) hB v1).setCell (p := ⟨b, 2, none⟩) hB v2).setCell (p := ⟨b, 3, none⟩) hB v3).setCell (p := ⟨b, 4, none⟩) hB v4).setCell (p := ⟨b, 5, none⟩) hB v5).setCell (p := ⟨b, 6, none⟩) hB v6
/-- The answer, written into its place. -/
theorem PodAns.good {s a1 : ByteArray} {c : Int} {z : ByteArray} {zs : List ByteArray} {w w5 : World} {a : Option Addr} {l cp : Nat} {v0 v1 v2 v3 v4 v5 v6 : Value} (hp : PodIs s a1 c z zs ⟨#[]⟩ 0 0) (hr : TxRow w5 a l cp zs)
    (ho : zs = [] ∨ ∃ g cur, a = some ⟨g, 0, none⟩ ∧ w.heap.size < g ∧ w5.heap[g]? = some (.cells cur 9 (0, 0))) (hb : Below w.heap.size w w5) :
    PodAns s w (.returned (.agg #[.string a1, .int .i64 c, .string z, .slice a l cp, .string ⟨#[]⟩, .int .i64 0, .int .i64 0])) (((((((w5.setCell ⟨w.heap.size, 0, none⟩ (v0)).setCell ⟨w.heap.size, 1, none⟩ (v1)).setCell ⟨w.heap.size, 2, none⟩ (v2)).setCell ⟨w.heap.size, 3, none⟩ (v3)).setCell ⟨w.heap.size, 4, none⟩ (v4)).setCell ⟨w.heap.size, 5, none⟩ (v5)).setCell ⟨w.heap.size, 6, none⟩ (v6)) := by
  have hn' : zs = [] ∨ ∃ g, a = some ⟨g, 0, none⟩ ∧ ¬ g = w.heap.size := by
    rcases ho with h | ⟨g, cur, h1, h2, _⟩
    · exact .inl h
    · exact .inr ⟨g, h1, Nat.ne_of_gt h2⟩
  refine ⟨_, _, _, a, l, cp, zs, _, _, _, rfl, hp, ((((((hr.set hn').set hn').set hn').set hn').set hn').set hn').set hn', ?_, set_below7 (Nat.le_refl _) hb⟩
  rcases ho with h | ⟨g, cur, h1, h2, h3⟩
  · exact .inl h
  · have hg : ¬ g = w.heap.size := Nat.ne_of_gt h2
    refine .inr ⟨g, cur, h1, Nat.le_of_lt h2, ?_⟩
    rw [Below.heap_setCell _ _ _ _ hg, Below.heap_setCell _ _ _ _ hg, Below.heap_setCell _ _ _ _ hg, Below.heap_setCell _ _ _ _ hg, Below.heap_setCell _ _ _ _ hg, Below.heap_setCell _ _ _ _ hg, Below.heap_setCell _ _ _ _ hg]
    exact h3

end Go.Proofs.YtbpnmhebhmakdaaDoor
