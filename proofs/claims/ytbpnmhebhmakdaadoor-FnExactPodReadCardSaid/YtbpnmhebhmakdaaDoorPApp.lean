/-
  append onto an empty list of texts: the answer is a list of its own, and all that stood stands.
-/
import Derived.Test.YtbpnmhebhmakdaaDoorPReadH
import Derived.Deep.AppendLies
namespace Go.Proofs.YtbpnmhebhmakdaaDoor
open Go.RowKit

/-- What append onto an empty list leaves. -/
def AppAns (zs : List ByteArray) (w : World) (a : Addr) (l c : Nat) (w' : World) : Prop :=
  TxRow w' (some a) l c zs ∧ (zs = [] ∨ ∃ g cur, some a = some (⟨g, 0, none⟩ : Addr) ∧ w.heap.size ≤ g ∧ w'.heap[g]? = some (.cells cur 9 (0, 0))) ∧ Below w.heap.size w w'
theorem setRow_same {w : World} {g : Nat} {cs : Array Value} {T : TypeId} {f : Nat × Nat} (h : w.heap[g]? = some (.cells cs T f)) : Below w.heap.size w (w.setRow g cs) := by
  refine ⟨rfl, rfl, rfl, by simp, fun k hk => ?_⟩
  by_cases e : k = g
  · subst e
    rw [setRow_heap w k cs cs T f h, h]
  · exact setRow_other w g k cs e
theorem append_empty {w : World} {g0 : Nat} {ad : Addr} {len cap : Nat} {zs : List ByteArray} (ty : TypeId) (hg : w.heap[g0]? = some (.cells #[] 9 (0, 0))) (hr : TxRow w (some ad) len cap zs) (hl : len ≤ 8001) :
    ∃ a l c w', (Builtin.append_ #[22, 22] ty #[.slice (some ⟨g0, 0, none⟩) 0 0, .slice (some ad) len cap]).run Tryd.prog w = .ok (.slice (some a) l c) w' ∧ AppAns zs w a l c w' := by
  obtain ⟨i0, hi, hz0, hz1, hz2⟩ := info_parts infoStrP
  have hzl : zs.length = len := hr.1
  rcases Nat.eq_zero_or_pos len with h0 | h0
  · subst h0
    obtain rfl : zs = [] := List.eq_nil_of_length_eq_zero hzl
    have h := run_append_room (P := Tryd.prog) w 22 ty 9 i0 Tryd.underlying22 hi g0 0 0 #[] hg ad 0 cap [] (by simp) (fun j u hu => by simp at hu) (fun u hu => by simp at hu) (by omega) (by simp)
    refine ⟨_, _, _, _, h, ⟨rfl, Nat.le_refl _, by omega, fun j x hx => by simp at hx, .inl rfl⟩, .inl rfl, ?_⟩
    simpa using setRow_same hg
  · have h := run_append_grow (P := Tryd.prog) w 22 ty 9 i0 (.string ⟨#[]⟩) Tryd.underlying22 hi hz0 ⟨g0, 0, none⟩ 0 0 [] (by simp) (fun j u hu => by simp at hu) ad len cap (zs.map Value.string) (by rw [hz1]; simpa using hzl) (news_of hr) (by omega) (by omega) (growslice_fits (by omega) (by rw [hz2]; omega))
    have hge := grownCap_ge w (0 + len) 0 9
    have hcm := grownCap_le_maxLen w (0 + len) 0 9 (by unfold maxLen; omega)
    unfold maxLen at hcm
    refine ⟨_, _, _, _, h, ⟨by omega, hge, by omega, hr.2.2.2.1, .inr ⟨w.heap.size, 0, rfl, by simp, fun j x hx => ?_⟩⟩, .inr ⟨w.heap.size, _, rfl, Nat.le_refl _, heap_alloc_new w.drew _⟩, ⟨rfl, rfl, rfl, by simp, fun k hk => heap_alloc_old w.drew _ (by simpa using hk)⟩⟩
    have hc := fun o => cellK (w := w.drew.alloc (.cells o 9)) (b := w.heap.size) (heap_alloc_new w.drew (.cells o 9)) (0 + j)
    rw [hc, Nat.zero_add]
    have hj : j < zs.length := (List.getElem?_eq_some_iff.1 hx).1
    rw [Array.getElem?_append_left (by simp; omega), Array.getElem?_append_right (by simp)]
    simp [hx]

/-- At the operation. -/
theorem wp_names {o : Oper} {a : Act} {w : World} {K : Act → World → Prop} {Q : Exit → Act → World → Prop} (s x : Operand)
    (ho : o.op = .call { callee := .builtin .append, args := #[s, x], argTypes := #[22, 22] }) (g0 : Nat) (hs : a.eval s = .slice (some ⟨g0, 0, none⟩) 0 0) (hg : w.heap[g0]? = some (.cells #[] 9 (0, 0)))
    (ad : Addr) (len cap : Nat) (hx : a.eval x = .slice (some ad) len cap) (zs : List ByteArray) (hr : TxRow w (some ad) len cap zs) (hl : len ≤ 8001)
    (h : ∀ a' l c w', AppAns zs w a' l c w' → K (a.put o.dst (.slice (some a') l c)) w') : Oper.wp Tryd.prog o a w K Q := by
  obtain ⟨a', l, c, w', hrun, hans⟩ := append_empty o.type hg hr hl
  unfold Oper.wp execOp
  simp only [ho, resolve, invoke, builtin, Sem.run_bind, Sem.run_pure, Result.andThen_ok, List.map_toArray, List.map_cons, List.map_nil, hs, hx, hrun]
  exact h a' l c w' hans

theorem podZ_cells {w : World} {b : Nat} (h : w.heap[b]? = some (.cells #[.string ⟨#[]⟩, .int .i64 0, .string ⟨#[]⟩, .slice none 0 0, .string ⟨#[]⟩, .int .i64 0] 24 (0, 0))) :
    (w.cell? ⟨b, 0, none⟩ = some (.string ⟨#[]⟩) ∧ w.frozen? ⟨b, 0, none⟩ = false) ∧ (w.cell? ⟨b, 1, none⟩ = some (.int .i64 0) ∧ w.frozen? ⟨b, 1, none⟩ = false) ∧ (w.cell? ⟨b, 2, none⟩ = some (.string ⟨#[]⟩) ∧ w.frozen? ⟨b, 2, none⟩ = false) ∧
    (w.cell? ⟨b, 3, none⟩ = some (.slice none 0 0) ∧ w.frozen? ⟨b, 3, none⟩ = false) ∧ (w.cell? ⟨b, 4, none⟩ = some (.string ⟨#[]⟩) ∧ w.frozen? ⟨b, 4, none⟩ = false) ∧ (w.cell? ⟨b, 5, none⟩ = some (.int .i64 0) ∧ w.frozen? ⟨b, 5, none⟩ = false) :=
  ⟨⟨cellK h 0, frzP h 0⟩, ⟨cellK h 1, frzP h 1⟩, ⟨cellK h 2, frzP h 2⟩, ⟨cellK h 3, frzP h 3⟩, ⟨cellK h 4, frzP h 4⟩, ⟨cellK h 5, frzP h 5⟩⟩
/-- And it lies behind all that stood. -/
def PMidS (w : World) (a1 : ByteArray) (c : Int) (z : ByteArray) (zs : List ByteArray) (v : Value) (wx : World) : Prop := PMid w a1 c z zs v wx ∧ ∃ bc, v = .pointer (some ⟨bc, 0, none⟩) ∧ w.heap.size < bc
theorem PMid.T {w w4 : World} {b : Nat} {a1 : ByteArray} {c : Int} {z : ByteArray} {zs : List ByteArray} {a : Option Addr} {l cp : Nat} (gx : w4.heap[b]? = some (.cells #[.string ⟨#[]⟩, .int .i64 0, .string ⟨#[]⟩, .slice none 0 0, .string ⟨#[]⟩, .int .i64 0] 24 (0, 0))) (hbw : w.heap.size < b)
    (hb : Below w.heap.size w w4) (gv : w4.heap[w.heap.size]? = some (.cells #[.string ⟨#[]⟩, .int .i64 0, .string ⟨#[]⟩, .slice none 0 0, .string ⟨#[]⟩, .int .i64 0, .int .i64 0] 26 (0, 0)))
    (hr : TxRow w4 a l cp zs) (hn : a = none → cp = 0) (ho : zs = [] ∨ ∃ g cur, a = some (⟨g, 0, none⟩ : Addr) ∧ w.heap.size < g ∧ w4.heap[g]? = some (.cells cur 9 (0, 0))) :
    PMidS w a1 c z zs (.pointer (some ⟨b, 0, none⟩)) ((((((w4.setCell ⟨b, 0, none⟩ (.string a1)).setCell ⟨b, 1, none⟩ (.int .i64 c)).setCell ⟨b, 2, none⟩ (.string z)).setCell ⟨b, 3, none⟩ (.slice a l cp)).setCell ⟨b, 4, none⟩ (.string ⟨#[]⟩)).setCell ⟨b, 5, none⟩ (.int .i64 0)) := by
  have hne : ¬ w.heap.size = b := Nat.ne_of_lt hbw
  have ho' : zs = [] ∨ ∃ g cur, a = some (⟨g, 0, none⟩ : Addr) ∧ w.heap.size < g ∧ w4.heap[g]? = some (.cells cur 9 (0, 0)) ∧ ¬ g = b := by
    rcases ho with h | ⟨g, cur, h1, h2, h3⟩
    · exact .inl h
    · refine .inr ⟨g, cur, h1, h2, h3, ?_⟩
      rintro rfl
      rw [gx] at h3
      simp at h3
  have hn' : zs = [] ∨ ∃ g, a = some (⟨g, 0, none⟩ : Addr) ∧ ¬ g = b := by
    rcases ho' with h | ⟨g, cur, h1, h2, _, h4⟩
    · exact .inl h
    · exact .inr ⟨g, h1, h4⟩
  refine ⟨⟨b, a, l, cp, rfl, block_set (block_set (block_set (block_set (block_set (block_set gx _) _) _) _) _) _, ?_, (((((hr.set hn').set hn').set hn').set hn').set hn').set hn', hn, ?_, ?_, Nat.ne_of_gt hbw⟩, b, rfl, hbw⟩
  · rw [Below.heap_setCell _ _ _ _ hne, Below.heap_setCell _ _ _ _ hne, Below.heap_setCell _ _ _ _ hne, Below.heap_setCell _ _ _ _ hne, Below.heap_setCell _ _ _ _ hne, Below.heap_setCell _ _ _ _ hne]
    exact gv
  · rcases ho' with h | ⟨g, cur, h1, h2, h3, hg⟩
    · exact .inl h
    · refine .inr ⟨g, cur, h1, h2, ?_⟩
      rw [Below.heap_setCell _ _ _ _ hg, Below.heap_setCell _ _ _ _ hg, Below.heap_setCell _ _ _ _ hg, Below.heap_setCell _ _ _ _ hg, Below.heap_setCell _ _ _ _ hg, Below.heap_setCell _ _ _ _ hg]
      exact h3
  · have hB := Nat.le_of_lt hbw
    exact (((((hb.setCell (p := ⟨b, 0, none⟩) hB _).setCell (p := ⟨b, 1, none⟩) hB _).setCell (p := ⟨b, 2, none⟩) hB _).setCell (p := ⟨b, 3, none⟩) hB _).setCell (p := ⟨b, 4, none⟩) hB _).setCell (p := ⟨b, 5, none⟩) hB _

end Go.Proofs.YtbpnmhebhmakdaaDoor
