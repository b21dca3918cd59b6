/-
  A text cut at each blank: the library's way and a plain one are one.
-/
import Derived.Test.YtbpnmhebhmakdaaDoorRows
import Derived.Lib.SplitLaws
import Derived.WalkKit
namespace Go.Proofs.YtbpnmhebhmakdaaDoor
open Go.RowKit

def glue (p : List UInt8) : List (List UInt8) → List (List UInt8)
  | [] => [p]
  | h :: t => (p ++ h) :: t
/-- The pieces between the blanks. -/
def wsplit : List UInt8 → List (List UInt8)
  | [] => [[]]
  | c :: l => if c = 32 then [] :: wsplit l else glue [c] (wsplit l)
theorem wsplit_ne (l : List UInt8) : wsplit l ≠ [] := by
  cases l with
  | nil => simp [wsplit]
  | cons c l =>
    unfold wsplit
    split
    · simp
    · cases wsplit l <;> simp [glue]
theorem glue_nil {x : List (List UInt8)} (h : x ≠ []) : glue [] x = x := by cases x with | nil => exact absurd rfl h | cons a t => rfl
theorem glue_glue (p q : List UInt8) (x : List (List UInt8)) : glue p (glue q x) = glue (p ++ q) x := by cases x <;> simp [glue]
theorem wsplit_blank (l : List UInt8) : wsplit (32 :: l) = [] :: wsplit l := by simp [wsplit]
theorem wsplit_other {c : UInt8} (h : ¬ c = 32) (l : List UInt8) : wsplit (c :: l) = glue [c] (wsplit l) := by simp [wsplit, h]
theorem index_cons (c : UInt8) (l : List UInt8) : Lib.index (c :: l) [32] = if c = 32 then 0 else if Lib.index l [32] = -1 then -1 else Lib.index l [32] + 1 := by
  rw [Lib.index]
  by_cases h : c = 32
  · subst h; simp
  · have h' : ¬ (32 : UInt8) = c := fun e => h e.symm
    simp [h, h']
theorem wsplit_miss : ∀ {l : List UInt8}, Lib.index l [32] = -1 → wsplit l = [l]
  | [], _ => rfl
  | c :: l, h => by
    rw [index_cons] at h
    by_cases hc : c = 32
    · rw [if_pos hc] at h; cases h
    · rw [if_neg hc] at h
      by_cases hl : Lib.index l [32] = -1
      · rw [wsplit_other hc, wsplit_miss hl]; rfl
      · rw [if_neg hl] at h
        have := Lib.index_ge l [32]
        omega
theorem wsplit_hit : ∀ {l : List UInt8} {i : Nat}, Lib.index l [32] = i → wsplit l = l.take i :: wsplit (l.drop (i + 1))
  | [], i, h => by
    have : Lib.index [] [32] = -1 := rfl
    omega
  | c :: l, i, h => by
    rw [index_cons] at h
    by_cases hc : c = 32
    · rw [if_pos hc] at h
      obtain rfl : i = 0 := by omega
      subst hc
      rw [wsplit_blank]; rfl
    · rw [if_neg hc] at h
      by_cases hl : Lib.index l [32] = -1
      · rw [if_pos hl] at h; omega
      · rw [if_neg hl] at h
        have := Lib.index_ge l [32]
        obtain ⟨j, hj⟩ : ∃ j : Nat, Lib.index l [32] = j := ⟨(Lib.index l [32]).toNat, by omega⟩
        obtain rfl : i = j + 1 := by omega
        rw [wsplit_other hc, wsplit_hit hj]; rfl
def blank : ByteArray := ⟨#[32]⟩
theorem splitB_w : ∀ (k : Nat) (s : ByteArray), Lib.countB s blank = k → (Lib.splitB blank 0 k s).map (·.data.toList) = wsplit s.data.toList := by
  intro k
  induction k with
  | zero =>
    intro s h
    rcases Lib.indexB_cases s blank with hm | ⟨i, hi, hle⟩
    · rw [Lib.splitB_miss _ _ _ _ hm]
      exact (wsplit_miss (l := s.data.toList) hm).symm
    · rw [Lib.countB_hit s blank i (by decide) hi] at h
      omega
  | succ k ih =>
    intro s h
    rcases Lib.indexB_cases s blank with hm | ⟨i, hi, hle⟩
    · rw [Lib.countB_miss s blank hm] at h
      omega
    · rw [Lib.countB_hit s blank i (by decide) hi] at h
      rw [Lib.splitB_hit _ _ _ _ i hi, List.map_cons, ih _ (by omega)]
      rw [wsplit_hit (l := s.data.toList) (i := i) hi]
      congr 1
      · rw [Lib.extract_data]; simp
      · rw [Lib.extract_to_end]; rfl

end Go.Proofs.YtbpnmhebhmakdaaDoor
