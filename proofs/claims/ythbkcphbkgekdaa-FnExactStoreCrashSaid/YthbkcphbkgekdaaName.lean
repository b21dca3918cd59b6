/-
  What NameRight of the program and of the specification answer: yes just where a text is a name: 1 to 20 bytes, the first a lower letter, the others lower letters, digits or '_'; at every text.
-/
import Derived.Test.YthbkcphbkgekdaaRows
import Derived.WalkKit
import Derived.WalkSpells
import Derived.OwnWalk
import Derived.Outline
namespace Go.Proofs.Ythbkcphbkgekdaa
open Go.RowKit

def lowB (b : Int) : Bool := decide (97 ≤ b) && decide (b ≤ 122)
def digB (b : Int) : Bool := decide (48 ≤ b) && decide (b ≤ 57)
def nbB (b : Int) : Bool := lowB b || digB b || decide (b = 95)
def okB (i : Nat) (b : Int) : Bool := if i = 0 then lowB b else nbB b
def NameOk (s : ByteArray) : Prop := 1 ≤ s.size ∧ s.size ≤ 20 ∧ ∀ i (h : i < s.size), okB i ((s[i]'h).toNat : Int) = true
/-- The answer is a bool: whether p. -/
def BoolAns (p : Prop) (w : World) (e : Ending) (w' : World) : Prop := ∃ r : Bool, e = .returned (.bool r) ∧ (r = true ↔ p) ∧ w = w'
theorem ret_bool {a b : Bool} (h : a = b) : Ending.returned (.bool a) = .returned (.bool b) := by rw [h]

theorem name_bad {s : ByteArray} {k : Nat} (hlt : k < s.size) (h : okB k ((s[k]'hlt).toNat : Int) = false) : (false = true ↔ NameOk s) := by
  constructor
  · intro h; cases h
  · intro h3
    have := h3.2.2 k hlt
    rw [h] at this
    exact this
theorem name_step {s : ByteArray} {k : Nat} (hlt : k < s.size) (h : okB k ((s[k]'hlt).toNat : Int) = true) (ha : ∀ i (h : i < s.size), i < k → okB i ((s[i]'h).toNat : Int) = true) :
    ∀ i (h : i < s.size), i < k + 1 → okB i ((s[i]'h).toNat : Int) = true := by
  intro i hi hk
  by_cases e : i = k
  · subst e; exact h
  · exact ha i hi (by omega)

end Go.Proofs.Ythbkcphbkgekdaa
