/-
  What was put as a number is read back; of bytes that end too early nothing is read: plain mathematics.
-/
import Derived.Test.YtbnchappillecaaDoorNum
import Derived.Test.YtbnchappillecaaDoorRd
import Derived.Test.YtbnchappillecaaDoorGetNum
namespace Go.Proofs.YtbnchappillecaaDoor
open Go.RowKit

theorem u8_nat (a : Nat) (h : a < 256) : (a.toUInt8).toNat = a := Lib.toUInt8_toNat h
theorem pow9 : (128 : Nat) ^ 9 = 9223372036854775808 := by decide
theorem rd_put : ∀ (x k u : Nat) (rest : List UInt8), k ≤ 9 → (k = 0 ∨ 1 ≤ x) → x * 128 ^ k < 18446744073709551616 → rd (Lib.uvarint x ++ rest) k u = (0, u + x * 128 ^ k, k + (Lib.uvarint x).length) := by
  intro x
  induction x using Nat.strongRecOn with
  | _ x ih =>
    intro k u rest hk h1 hlt
    by_cases hx : x < 128
    · rw [Lib.uvarint_small hx]
      show rd (x.toUInt8 :: rest) k u = _
      rw [rd, u8_nat x (by omega), if_neg, if_pos hx, if_neg]
      · rfl
      · rintro ⟨h2, h3⟩; omega
      · rintro ⟨rfl, h3⟩
        rw [pow9] at hlt
        omega
    · have hx' : 128 ≤ x := by omega
      rw [Lib.uvarint_big hx']
      show rd ((x % 128 + 128).toUInt8 :: (Lib.uvarint (x / 128) ++ rest)) k u = _
      have hk9 : k < 9 := by
        rcases Nat.lt_or_ge k 9 with h | h
        · exact h
        · obtain rfl : k = 9 := by omega
          rw [pow9] at hlt
          omega
      have hpow : 128 ^ (k + 1) = 128 ^ k * 128 := Nat.pow_succ ..
      have hmul : x / 128 * 128 ^ (k + 1) ≤ x * 128 ^ k := by
        rw [hpow, Nat.mul_comm (128 ^ k), ← Nat.mul_assoc]
        exact Nat.mul_le_mul_right _ (Nat.div_mul_le_self x 128)
      rw [rd, u8_nat _ (by omega), if_neg (by omega), if_neg (by omega), ih (x / 128) (by omega) (k + 1) _ rest (by omega) (.inr (by omega)) (by omega)]
      have e1 : (x % 128 + 128) % 128 = x % 128 := by omega
      rw [e1]
      have e2 : x % 128 * 128 ^ k + x / 128 * 128 ^ (k + 1) = x * 128 ^ k := by
        rw [hpow, Nat.mul_comm (128 ^ k), ← Nat.mul_assoc, ← Nat.add_mul]
        congr 1
        omega
      rw [List.length_cons, Nat.add_assoc, e2]
      congr 2
      omega
theorem rd_cut : ∀ (x k u : Nat), k ≤ 9 → x * 128 ^ k < 18446744073709551616 → rd (Lib.uvarint x).dropLast k u = (4, 0, 0) := by
  intro x
  induction x using Nat.strongRecOn with
  | _ x ih =>
    intro k u hk hlt
    by_cases hx : x < 128
    · rw [Lib.uvarint_small hx]; rfl
    · have hx' : 128 ≤ x := by omega
      have hne : Lib.uvarint (x / 128) ≠ [] := by
        intro e
        have := Lib.uvarint_pos (x / 128)
        rw [e] at this
        simp at this
      rw [Lib.uvarint_big hx', List.dropLast_cons_of_ne_nil hne]
      have hk9 : k < 9 := by
        rcases Nat.lt_or_ge k 9 with h | h
        · exact h
        · obtain rfl : k = 9 := by omega
          rw [pow9] at hlt
          omega
      have hpow : 128 ^ (k + 1) = 128 ^ k * 128 := Nat.pow_succ ..
      have hmul : x / 128 * 128 ^ (k + 1) ≤ x * 128 ^ k := by
        rw [hpow, Nat.mul_comm (128 ^ k), ← Nat.mul_assoc]
        exact Nat.mul_le_mul_right _ (Nat.div_mul_le_self x 128)
      rw [rd, u8_nat _ (by omega), if_neg (by omega), if_neg (by omega)]
      exact ih (x / 128) (by omega) (k + 1) _ (by omega) (by omega)
theorem unf_zz (n : Int) : unf (zz n) = n := by
  unfold unf zz
  split <;> split <;> omega
theorem rd_num (n : Int) (h0 : -9223372036854775808 ≤ n) (h1 : n ≤ 9223372036854775807) (rest : List UInt8) : rd (Lib.uvarint (zz n) ++ rest) 0 0 = (0, zz n, (Lib.uvarint (zz n)).length) := by
  have := rd_put (zz n) 0 0 rest (by omega) (.inl rfl) (by have := zz_bd n h0 h1; omega)
  simpa using this
theorem rd_num_cut (n : Int) (h0 : -9223372036854775808 ≤ n) (h1 : n ≤ 9223372036854775807) : rd (Lib.uvarint (zz n)).dropLast 0 0 = (4, 0, 0) :=
  rd_cut (zz n) 0 0 (by omega) (by have := zz_bd n h0 h1; omega)

end Go.Proofs.YtbnchappillecaaDoor
