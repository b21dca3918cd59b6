/-
  The desk's cluster, as both packages build it.
-/
import Derived.Test.YtkmoncjbpfcnjaaClu
import Derived.Test.YtkmoncjbpfcnjaaGrow
namespace Go.Proofs.Ytkmoncjbpfcnjaa
open Go.RowKit
namespace Rc
open Mk

def bN1 : ByteArray := ⟨#[110, 49]⟩
def bN2 : ByteArray := ⟨#[110, 50]⟩
def bN3 : ByteArray := ⟨#[110, 51]⟩
def bEast : ByteArray := ⟨#[101, 97, 115, 116]⟩
def bWest : ByteArray := ⟨#[119, 101, 115, 116]⟩
def bFast : ByteArray := ⟨#[102, 97, 115, 116]⟩
def bSlow : ByteArray := ⟨#[115, 108, 111, 119]⟩
def bE : ByteArray := ⟨#[]⟩
/-- The desk's cluster. -/
def deskC : Cl := ⟨[⟨bN1, bEast, 2000, 3, 0, false, []⟩, ⟨bN2, bEast, 1500, 2, 0, false, []⟩, ⟨bN3, bWest, 2000, 2, 0, false, []⟩], [⟨bFast, false, false, bEast⟩, ⟨bSlow, true, true, bE⟩], [], [], [], 0⟩

set_option maxRecDepth 10000 in
set_option maxHeartbeats 3200000 in
theorem idesk_any (w : World) : Calls Try.prog 5 #[] w fun e w' => ∃ d, e = .returned (.agg #[.slice d.a1 d.l1 d.c1, .slice d.a2 d.l2 d.c2, .slice d.a3 d.l3 d.c3, .slice d.a4 d.l4 d.c4, .slice d.a5 d.l5 d.c5, .int .i64 0]) ∧ ClOwn w' d deskC.raw (fun k => w.heap.size ≤ k) ∧ Below w.heap.size w w' := by
  go_enter Try.func5, Try.ntmps5
  go_wp2
  refine bodyPost_ret (v := .agg #[.slice (some ⟨w.heap.size + 1, 0, none⟩) 3 3, .slice (some ⟨w.heap.size + 1 + 1, 0, none⟩) 2 2, .slice none 0 0, .slice none 0 0, .slice none 0 0, .int .i64 0]) (by simp [results, Try.results5, go_sem]) rfl ⟨⟨some ⟨w.heap.size + 1, 0, none⟩, 3, 3, some ⟨w.heap.size + 1 + 1, 0, none⟩, 2, 2, none, 0, 0, none, 0, 0, none, 0, 0⟩, rfl, ⟨fun k => if k = w.heap.size + 1 then 1 else 2, ?_, ?_, ?_, ?_, ?_⟩, below3 _ _ _ _⟩
  · refine ⟨rfl, Nat.le_refl _, show (3 : Nat) ≤ 9223372036854775807 by omega, .inr ⟨w.heap.size + 1, _, fun _ _ => 0, rfl, heap3_1 _ _ _ _, ⟨by omega, if_pos rfl⟩, ?_, ?_, ?_⟩⟩
    · intro j r hj
      rcases j with _ | _ | _ | j <;> first | (cases hj; rfl) | (simp [deskC, Cl.raw] at hj)
    · intro j r hj i f hi
      rcases j with _ | _ | _ | j <;> first | cases hj | (simp [deskC, Cl.raw] at hj; done)
      all_goals
        rcases i with _ | _ | _ | _ | _ | _ | _ | i <;> first | cases hi | (simp [ndF] at hi; done)
      all_goals first | exact ⟨_, rfl, rfl, by decide⟩ | exact ⟨_, rfl, rfl⟩ | exact ⟨_, rfl, none, 0, 0, rfl, rfl, Nat.le_refl _, by decide, fun j x hx => by simp at hx, .inl rfl⟩
    · intro j r i zs j' r' i' zs' hj hi hz
      exfalso
      rcases j with _ | _ | _ | j <;> first | cases hj | (simp [deskC, Cl.raw] at hj; done)
      all_goals
        rcases i with _ | _ | _ | _ | _ | _ | _ | i <;> first | (cases hi; done) | (cases hi; exact hz rfl) | (simp [ndF] at hi; done)
  · refine ⟨rfl, Nat.le_refl _, show (2 : Nat) ≤ 9223372036854775807 by omega, .inr ⟨w.heap.size + 1 + 1, _, fun _ _ => 0, rfl, heap3_2 _ _ _ _, ⟨by omega, if_neg (by omega)⟩, ?_, ?_, ?_⟩⟩
    · intro j r hj
      rcases j with _ | _ | j <;> first | (cases hj; rfl) | (simp [deskC, Cl.raw] at hj)
    · intro j r hj i f hi
      rcases j with _ | _ | j <;> first | cases hj | (simp [deskC, Cl.raw] at hj; done)
      all_goals
        rcases i with _ | _ | _ | _ | i <;> first | cases hi | (simp [kdF] at hi; done)
      all_goals first | exact ⟨_, rfl, rfl, by decide⟩ | exact ⟨_, rfl, rfl⟩
    · intro j r i zs j' r' i' zs' hj hi hz
      exfalso
      rcases j with _ | _ | j <;> first | cases hj | (simp [deskC, Cl.raw] at hj; done)
      all_goals
        rcases i with _ | _ | _ | _ | i <;> first | (cases hi; done) | (simp [kdF] at hi; done)
  · exact ROwn.nil _ _ _ _ _ (show (0 : Nat) ≤ 9223372036854775807 by omega)
  · exact ROwn.nil _ _ _ _ _ (show (0 : Nat) ≤ 9223372036854775807 by omega)
  · exact ROwn.nil _ _ _ _ _ (show (0 : Nat) ≤ 9223372036854775807 by omega)

set_option maxRecDepth 10000 in
set_option maxHeartbeats 3200000 in
theorem splain_any (w : World) : Calls Try.prog 9 #[] w fun e w' => ∃ d, e = .returned (.agg #[.slice d.a1 d.l1 d.c1, .slice d.a2 d.l2 d.c2, .slice d.a3 d.l3 d.c3, .slice d.a4 d.l4 d.c4, .slice d.a5 d.l5 d.c5, .int .i64 0]) ∧ ClOwn w' d deskC.raw (fun k => w.heap.size ≤ k) ∧ Below w.heap.size w w' := by
  go_enter Try.func9, Try.ntmps9
  go_wp2
  refine bodyPost_ret (v := .agg #[.slice (some ⟨w.heap.size + 1, 0, none⟩) 3 3, .slice (some ⟨w.heap.size + 1 + 1, 0, none⟩) 2 2, .slice none 0 0, .slice none 0 0, .slice none 0 0, .int .i64 0]) (by simp [results, Try.results9, go_sem]) rfl ⟨⟨some ⟨w.heap.size + 1, 0, none⟩, 3, 3, some ⟨w.heap.size + 1 + 1, 0, none⟩, 2, 2, none, 0, 0, none, 0, 0, none, 0, 0⟩, rfl, ⟨fun k => if k = w.heap.size + 1 then 1 else 2, ?_, ?_, ?_, ?_, ?_⟩, below3 _ _ _ _⟩
  · refine ⟨rfl, Nat.le_refl _, show (3 : Nat) ≤ 9223372036854775807 by omega, .inr ⟨w.heap.size + 1, _, fun _ _ => 0, rfl, heap3_1 _ _ _ _, ⟨by omega, if_pos rfl⟩, ?_, ?_, ?_⟩⟩
    · intro j r hj
      rcases j with _ | _ | _ | j <;> first | (cases hj; rfl) | (simp [deskC, Cl.raw] at hj)
    · intro j r hj i f hi
      rcases j with _ | _ | _ | j <;> first | cases hj | (simp [deskC, Cl.raw] at hj; done)
      all_goals
        rcases i with _ | _ | _ | _ | _ | _ | _ | i <;> first | cases hi | (simp [ndF] at hi; done)
      all_goals first | exact ⟨_, rfl, rfl, by decide⟩ | exact ⟨_, rfl, rfl⟩ | exact ⟨_, rfl, none, 0, 0, rfl, rfl, Nat.le_refl _, by decide, fun j x hx => by simp at hx, .inl rfl⟩
    · intro j r i zs j' r' i' zs' hj hi hz
      exfalso
      rcases j with _ | _ | _ | j <;> first | cases hj | (simp [deskC, Cl.raw] at hj; done)
      all_goals
        rcases i with _ | _ | _ | _ | _ | _ | _ | i <;> first | (cases hi; done) | (cases hi; exact hz rfl) | (simp [ndF] at hi; done)
  · refine ⟨rfl, Nat.le_refl _, show (2 : Nat) ≤ 9223372036854775807 by omega, .inr ⟨w.heap.size + 1 + 1, _, fun _ _ => 0, rfl, heap3_2 _ _ _ _, ⟨by omega, if_neg (by omega)⟩, ?_, ?_, ?_⟩⟩
    · intro j r hj
      rcases j with _ | _ | j <;> first | (cases hj; rfl) | (simp [deskC, Cl.raw] at hj)
    · intro j r hj i f hi
      rcases j with _ | _ | j <;> first | cases hj | (simp [deskC, Cl.raw] at hj; done)
      all_goals
        rcases i with _ | _ | _ | _ | i <;> first | cases hi | (simp [kdF] at hi; done)
      all_goals first | exact ⟨_, rfl, rfl, by decide⟩ | exact ⟨_, rfl, rfl⟩
    · intro j r i zs j' r' i' zs' hj hi hz
      exfalso
      rcases j with _ | _ | j <;> first | cases hj | (simp [deskC, Cl.raw] at hj; done)
      all_goals
        rcases i with _ | _ | _ | _ | i <;> first | (cases hi; done) | (simp [kdF] at hi; done)
  · exact ROwn.nil _ _ _ _ _ (show (0 : Nat) ≤ 9223372036854775807 by omega)
  · exact ROwn.nil _ _ _ _ _ (show (0 : Nat) ≤ 9223372036854775807 by omega)
  · exact ROwn.nil _ _ _ _ _ (show (0 : Nat) ≤ 9223372036854775807 by omega)

set_option maxRecDepth 10000 in
set_option maxHeartbeats 3200000 in
theorem sdesk_any (w : World) : Calls Try.prog 4 #[] w fun e w' => ∃ d, e = .returned (.agg #[.slice d.a1 d.l1 d.c1, .slice d.a2 d.l2 d.c2, .slice d.a3 d.l3 d.c3, .slice d.a4 d.l4 d.c4, .slice d.a5 d.l5 d.c5, .int .i64 0]) ∧ ClOwn w' d deskC.raw (fun k => w.heap.size ≤ k) ∧ Below w.heap.size w w' := by
  go_enter Try.func4, Try.ntmps4
  go_wp2_with fail
  refine (splain_any _).mono ?_
  rintro e w1 ⟨d, rfl, ho, hb⟩
  have hsz : (w.alloc (.cells #[.slice none 0 0, .slice none 0 0, .slice none 0 0, .slice none 0 0, .slice none 0 0, .int .i64 0] 28)).heap.size = w.heap.size + 1 := by simp
  rw [hsz] at ho hb
  have g0 : w1.heap[w.heap.size]? = some (.cells #[.slice none 0 0, .slice none 0 0, .slice none 0 0, .slice none 0 0, .slice none 0 0, .int .i64 0] 28 (0, 0)) := by rw [hb.block _ (by omega)]; exact Array.getElem?_push_size
  have c0 : w1.cell? ⟨w.heap.size, 0, none⟩ = some (.slice none 0 0) := cellK g0 0
  have f0 : w1.frozen? ⟨w.heap.size, 0, none⟩ = false := froK g0 0
  have c1 : w1.cell? ⟨w.heap.size, 1, none⟩ = some (.slice none 0 0) := cellK g0 1
  have f1 : w1.frozen? ⟨w.heap.size, 1, none⟩ = false := froK g0 1
  have c2 : w1.cell? ⟨w.heap.size, 2, none⟩ = some (.slice none 0 0) := cellK g0 2
  have f2 : w1.frozen? ⟨w.heap.size, 2, none⟩ = false := froK g0 2
  have c3 : w1.cell? ⟨w.heap.size, 3, none⟩ = some (.slice none 0 0) := cellK g0 3
  have f3 : w1.frozen? ⟨w.heap.size, 3, none⟩ = false := froK g0 3
  have c4 : w1.cell? ⟨w.heap.size, 4, none⟩ = some (.slice none 0 0) := cellK g0 4
  have f4 : w1.frozen? ⟨w.heap.size, 4, none⟩ = false := froK g0 4
  have c5 : w1.cell? ⟨w.heap.size, 5, none⟩ = some (.int .i64 0) := cellK g0 5
  have f5 : w1.frozen? ⟨w.heap.size, 5, none⟩ = false := froK g0 5
  have HB : Hid (Below w.heap.size w w1) := (below1 _ _).trans (hb.mono (by omega))
  have HO := hidK ho
  clear g0 hb ho hsz
  go_wp2
  refine bodyPost_ret (v := .agg #[.slice d.a1 d.l1 d.c1, .slice d.a2 d.l2 d.c2, .slice d.a3 d.l3 d.c3, .slice d.a4 d.l4 d.c4, .slice d.a5 d.l5 d.c5, .int .i64 0]) (by simp [results, Try.results4, go_sem, *]) rfl ⟨d, rfl, ?_, set_below (Nat.le_refl _) (set_below (Nat.le_refl _) (set_below (Nat.le_refl _) (set_below (Nat.le_refl _) (set_below (Nat.le_refl _) (set_below (Nat.le_refl _) (HB.out))))))⟩
  obtain ⟨P, ho⟩ := HO.out
  refine ⟨P, ho.keep (fun k hk s => ?_) (fun k _ s => by omega)⟩
  have hne : ¬ k = w.heap.size := by omega
  rw [Below.heap_setCell _ _ _ _ hne, Below.heap_setCell _ _ _ _ hne, Below.heap_setCell _ _ _ _ hne, Below.heap_setCell _ _ _ _ hne, Below.heap_setCell _ _ _ _ hne, Below.heap_setCell _ _ _ _ hne]

end Rc
end Go.Proofs.Ytkmoncjbpfcnjaa
