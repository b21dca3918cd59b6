/-
  What the CRC functions of the program and of the specification answer: one function of the register and the bytes.
-/
import Derived.Test.YtbnchappillecaaDoorRows
import Derived.Test.YtbnchappillecaaDoorLong
import Derived.WalkKit
import Derived.WalkSpells
import Derived.OwnWalk
import Derived.Outline
namespace Go.Proofs.YtbnchappillecaaDoor
open Go.RowKit

/-- One bit, one byte, all bytes of a text, on the register. -/
def stp (r : Int) : Int := if r % 2 = 1 then bits .xor .u32 (r / 2) 3988292384 else r / 2
def stpN : Nat → Int → Int
  | 0, r => r
  | k + 1, r => stp (stpN k r)
def cbyte (r b : Int) : Int := stpN 8 (bits .xor .u32 r b)
def crcTo (r : Int) (l : List UInt8) : Int := l.foldl (fun r b => cbyte r b.toNat) r

theorem xor_bd (a b : Int) : 0 ≤ bits .xor .u32 a b ∧ bits .xor .u32 a b ≤ 4294967295 := by
  simp only [bits, IntKind.wrap_u32]
  constructor <;> omega
theorem xor_comm32 (a b : Int) : bits .xor .u32 a b = bits .xor .u32 b a := by
  simp only [bits, BitVec.xor_comm]
theorem wraps32 (n : Int) (h0 : 0 ≤ n) (h1 : n < 2 ^ 32) : IntKind.u32.wrap n = n := by rw [IntKind.wrap_u32]; omega
theorem and1 (r : Int) (h0 : 0 ≤ r) (h1 : r ≤ 4294967295) : bits .and .u32 r 1 = r % 2 := by
  have := bits_mask .u32 32 (by decide) wraps32 1 (by decide) r h0 (by omega)
  simpa using this
theorem stp_bd (r : Int) (h0 : 0 ≤ r) (h1 : r ≤ 4294967295) : 0 ≤ stp r ∧ stp r ≤ 4294967295 := by
  unfold stp; split
  · exact xor_bd _ _
  · omega
theorem stpN_bd (k : Nat) (r : Int) (h0 : 0 ≤ r) (h1 : r ≤ 4294967295) : 0 ≤ stpN k r ∧ stpN k r ≤ 4294967295 := by
  induction k with
  | zero => exact ⟨h0, h1⟩
  | succ k ih => exact stp_bd _ ih.1 ih.2
theorem cbyte_bd (r b : Int) : 0 ≤ cbyte r b ∧ cbyte r b ≤ 4294967295 := stpN_bd 8 _ (xor_bd _ _).1 (xor_bd _ _).2
theorem crcTo_bd (r : Int) (l : List UInt8) (h0 : 0 ≤ r) (h1 : r ≤ 4294967295) : 0 ≤ crcTo r l ∧ crcTo r l ≤ 4294967295 := by
  unfold crcTo
  induction l generalizing r with
  | nil => exact ⟨h0, h1⟩
  | cons b l ih => exact ih _ (cbyte_bd _ _).1 (cbyte_bd _ _).2
theorem stpN_odd (k : Nat) (r : Int) (h : stpN k r % 2 = 1) : stpN (k + 1) r = bits .xor .u32 (stpN k r / 2) 3988292384 := by
  show stp _ = _; unfold stp; rw [if_pos h]
theorem stpN_even (k : Nat) (r : Int) (h : ¬ stpN k r % 2 = 1) : stpN (k + 1) r = stpN k r / 2 := by
  show stp _ = _; unfold stp; rw [if_neg h]
theorem val_int {k : IntKind} {a b : Int} (h : a = b) : Value.int k a = .int k b := by rw [h]
theorem ret_int' {k : IntKind} {a b : Int} (h : a = b) : Ending.returned (.int k a) = .returned (.int k b) := by rw [h]

/-- The CRC of a text behind what had the CRC c. -/
def inv32 (r : Int) : Int := bits .xor .u32 r 4294967295
def crcOf (c : Int) (l : List UInt8) : Int := inv32 (crcTo (inv32 c) l)
theorem crcOf_bd (c : Int) (l : List UInt8) : 0 ≤ crcOf c l ∧ crcOf c l ≤ 4294967295 := xor_bd _ _
theorem max_u32 : IntKind.u32.max = 4294967295 := by decide
theorem take_snoc (s : ByteArray) (k : Nat) (h : k < s.size) : s.data.toList.take (k + 1) = s.data.toList.take k ++ [s[k]] := by
  rw [List.take_succ_eq_append_getElem (by simpa using h)]; rfl
theorem crcTo_snoc (r : Int) (s : ByteArray) (k : Nat) (h : k < s.size) : crcTo r (s.data.toList.take (k + 1)) = cbyte (crcTo r (s.data.toList.take k)) ((s[k]'h).toNat : Int) := by
  rw [take_snoc s k h]; unfold crcTo; simp
theorem byte_bd (b : UInt8) : 0 ≤ (b.toNat : Int) ∧ (b.toNat : Int) ≤ 255 := by
  have := b.toNat_lt; omega

/-- What CrcMore answers. -/
def crcMore (c : Int) (s : ByteArray) : Int := if 8000 < s.size ∨ c < 0 ∨ 4294967295 < c then 0 else crcOf c s.data.toList

theorem crcMore_bd (c : Int) (s : ByteArray) : 0 ≤ crcMore c s ∧ crcMore c s ≤ 4294967295 := by
  unfold crcMore
  split
  · omega
  · exact crcOf_bd _ _

end Go.Proofs.YtbnchappillecaaDoor
