/-
  What GetNum answers, in the program and in the specification.
-/
import Derived.Test.YtbnchappillecadDoorRd
import Derived.Test.YtbnchappillecadDoorFault
import Derived.Test.YtbnchappillecadDoorLong
import Derived.Test.YtbnchappillecadDoorSlot
namespace Go.Proofs.YtbnchappillecadDoor
open Go.RowKit

/-- What GetNum answers: the number, the place behind it, a code. -/
def gn (s : ByteArray) (at_ : Int) : Int × Int × Int :=
  if 8000 < s.size then (0, 0, 2) else if at_ < 0 then (0, 0, 1)
  else if (rd (s.data.toList.drop at_.toNat) 0 0).1 = 0 then (unf (rd (s.data.toList.drop at_.toNat) 0 0).2.1, ((at_.toNat + (rd (s.data.toList.drop at_.toNat) 0 0).2.2 : Nat) : Int), 0)
  else (0, 0, ((rd (s.data.toList.drop at_.toNat) 0 0).1 : Nat))
def gnVal (t : Int × Int × Int) : Value := .agg #[.int .i64 t.1, .int .i64 t.2.1, .int .i64 t.2.2]
theorem ret_gn {t : Int × Int × Int} {x y z : Int} (h : t = (x, y, z)) : Ending.returned (.agg #[.int .i64 x, .int .i64 y, .int .i64 z]) = .returned (gnVal t) := by rw [h]; rfl
theorem gn_long {s : ByteArray} {i : Int} (h : 8000 < s.size) : gn s i = (0, 0, 2) := by unfold gn; rw [if_pos h]
theorem gn_neg {s : ByteArray} {i : Int} (h : ¬ 8000 < s.size) (h0 : i < 0) : gn s i = (0, 0, 1) := by unfold gn; rw [if_neg h, if_pos h0]
theorem gn_ok {s : ByteArray} {a n k : Nat} (h : ¬ 8000 < s.size) (hr : rd (s.data.toList.drop a) 0 0 = (0, n, k)) : gn s (a : Int) = (unf n, ((a + k : Nat) : Int), 0) := by
  unfold gn; rw [if_neg h, if_neg (by omega), Int.toNat_natCast, hr]; simp
theorem gn_bad {s : ByteArray} {a c : Nat} (h : ¬ 8000 < s.size) (hr : rd (s.data.toList.drop a) 0 0 = (c, 0, 0)) (hc : c ≠ 0) : gn s (a : Int) = (0, 0, (c : Int)) := by
  unfold gn; rw [if_neg h, if_neg (by omega), Int.toNat_natCast, hr]; simp [hc]
/-- Either it is read, or there is a code and no more. -/
theorem rd_cases : ∀ (l : List UInt8) (k u : Nat), k ≤ 9 → u < 128 ^ k → (∃ n m, rd l k u = (0, n, m) ∧ m ≤ k + l.length ∧ n < 18446744073709551616) ∨ rd l k u = (3, 0, 0) ∨ rd l k u = (4, 0, 0)
  | [], _, _, _, _ => .inr (.inr rfl)
  | b :: t, k, u, hk, hu => by
    rw [rd]
    have hp := pow_le9 k hk
    split
    · exact .inr (.inl rfl)
    · rename_i h9
      split
      · rename_i h128
        split
        · exact .inr (.inl rfl)
        · refine .inl ⟨_, _, rfl, by simp, ?_⟩
          by_cases e : k = 9
          · subst e
            have : b.toNat ≤ 1 := by omega
            have e9 : (128 : Nat) ^ 9 = 9223372036854775808 := by decide
            rw [e9] at hu ⊢
            omega
          · have h1 := pow_step128 u k _ hu h128
            have h2 := pow_le9 (k + 1) (by omega)
            omega
      · rename_i h128
        have hb := b.toNat_lt
        rcases rd_cases t (k + 1) (u + b.toNat % 128 * 128 ^ k) (by omega) (pow_step128 u k _ hu (Nat.mod_lt _ (by decide))) with ⟨n, m, h1, h2, h3⟩ | h | h
        · exact .inl ⟨n, m, h1, by simp; omega, h3⟩
        · exact .inr (.inl h)
        · exact .inr (.inr h)

end Go.Proofs.YtbnchappillecadDoor
