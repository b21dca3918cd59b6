/-
  What GetNum of the specification answers.
-/
import Derived.Test.YtbnchappillecaaDoorGetNum
namespace Go.Proofs.YtbnchappillecaaDoor
open Go.RowKit

theorem gn_ok' {s : ByteArray} {a n k : Nat} {x y : Int} (h : ¬ 8000 < s.size) (hr : rd (s.data.toList.drop a) 0 0 = (0, n, k)) (hx : x = unf n) (hy : y = ((a + k : Nat) : Int)) : gn s (a : Int) = (x, y, 0) := by
  rw [gn_ok h hr, hx, hy]
theorem byte255 (b : UInt8) : (b.toNat : Int) ≤ 255 := by have := b.toNat_lt; omega
theorem unf_odd {m : Nat} (h : m % 2 = 1) : -((m : Int) / 2) - 1 = unf m := by unfold unf; rw [if_pos h]; omega
theorem unf_even {m : Nat} (h : ¬ m % 2 = 1) : (m : Int) / 2 = unf m := by unfold unf; rw [if_neg h]; omega
theorem sgath (n k : Nat) (b : UInt8) (h : n + b.toNat % 128 * 128 ^ k < 18446744073709551616) :
    IntKind.u64.wrap ((n : Int) + IntKind.u64.wrap ((b.toNat : Int) % 128 * 2 ^ (7 * k))) = ((n + b.toNat % 128 * 128 ^ k : Nat) : Int) := by
  have e : ((b.toNat : Int) % 128 * 2 ^ (7 * k)) = ((b.toNat % 128 * 128 ^ k : Nat) : Int) := by
    rw [show (128 : Nat) ^ k = 2 ^ (7 * k) from by rw [Nat.pow_mul]]
    simp
  rw [e, wrapN _ (by omega)]
  have e2 : ((n : Int) + ((b.toNat % 128 * 128 ^ k : Nat) : Int)) = ((n + b.toNat % 128 * 128 ^ k : Nat) : Int) := by simp
  rw [e2, wrapN _ h]

end Go.Proofs.YtbnchappillecaaDoor
