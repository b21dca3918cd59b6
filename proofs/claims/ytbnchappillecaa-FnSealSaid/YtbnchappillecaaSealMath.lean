/-
  A sealed text with one byte turned is refused; a CRC goes on from text to text: plain mathematics.
-/
import Derived.Test.YtbnchappillecaaUnseal
namespace Go.Proofs.Ytbnchappillecaa
open Go.RowKit

theorem xorN (a b : Nat) (ha : a < 4294967296) (hb : b < 4294967296) : bits .xor .u32 (a : Int) (b : Int) = ((a ^^^ b : Nat) : Int) := by
  have ha' : a % 2 ^ 32 = a := Nat.mod_eq_of_lt ha
  have hb' : b % 2 ^ 32 = b := Nat.mod_eq_of_lt hb
  have hx : a ^^^ b < 2 ^ 32 := Nat.xor_lt_two_pow (n := 32) ha hb
  have hk : IntKind.u32.bits = 32 := rfl
  simp only [bits, hk, BitVec.ofInt_natCast, BitVec.toNat_xor, BitVec.toNat_ofNat, ha', hb']
  rw [IntKind.wrap_u32]
  omega
theorem xor_cancel (a b c : Nat) (h : a ^^^ c = b ^^^ c) : a = b := by
  have h2 := congrArg (· ^^^ c) h
  simpa [Nat.xor_assoc] using h2
theorem top_bit (x : Nat) (h : x < 2147483648) : 2147483648 ≤ x ^^^ 3988292384 := by
  rcases Nat.lt_or_ge (x ^^^ 3988292384) 2147483648 with h1 | h1
  · exfalso
    have t1 : (x ^^^ 3988292384).testBit 31 = false := Nat.testBit_lt_two_pow h1
    have t2 : x.testBit 31 = false := Nat.testBit_lt_two_pow h
    have t3 : (3988292384 : Nat).testBit 31 = true := by decide
    rw [Nat.testBit_xor, t2, t3] at t1
    simp at t1
  · exact h1
theorem stp_inj (r q : Int) (r0 : 0 ≤ r) (r1 : r ≤ 4294967295) (q0 : 0 ≤ q) (q1 : q ≤ 4294967295) (h : stp r = stp q) : r = q := by
  obtain ⟨a, rfl⟩ := Int.eq_ofNat_of_zero_le r0
  obtain ⟨b, rfl⟩ := Int.eq_ofNat_of_zero_le q0
  have e : ∀ c : Nat, c ≤ 4294967295 → stp (c : Int) = ((if c % 2 = 1 then (c / 2) ^^^ 3988292384 else c / 2 : Nat) : Int) := by
    intro c hc
    unfold stp
    by_cases hp : c % 2 = 1
    · rw [if_pos hp, if_pos (by omega), show ((c : Int) / 2) = ((c / 2 : Nat) : Int) by omega]
      exact xorN (c / 2) 3988292384 (by omega) (by decide)
    · rw [if_neg hp, if_neg (by omega)]
      omega
  rw [e a (by omega), e b (by omega)] at h
  have h' : (if a % 2 = 1 then (a / 2) ^^^ 3988292384 else a / 2) = (if b % 2 = 1 then (b / 2) ^^^ 3988292384 else b / 2) := by omega
  have ta := top_bit (a / 2) (by omega)
  have tb := top_bit (b / 2) (by omega)
  by_cases ha : a % 2 = 1 <;> by_cases hb : b % 2 = 1
  · rw [if_pos ha, if_pos hb] at h'
    have := xor_cancel _ _ _ h'
    omega
  · rw [if_pos ha, if_neg hb] at h'
    omega
  · rw [if_neg ha, if_pos hb] at h'
    omega
  · rw [if_neg ha, if_neg hb] at h'
    omega
theorem stpN_inj : ∀ (k : Nat) (r q : Int), 0 ≤ r → r ≤ 4294967295 → 0 ≤ q → q ≤ 4294967295 → stpN k r = stpN k q → r = q
  | 0, _, _, _, _, _, _, h => h
  | k + 1, r, q, r0, r1, q0, q1, h => by
    have br := stpN_bd k r r0 r1
    have bq := stpN_bd k q q0 q1
    exact stpN_inj k r q r0 r1 q0 q1 (stp_inj _ _ br.1 br.2 bq.1 bq.2 h)
theorem xor32_inj_left (r q c : Int) (r0 : 0 ≤ r) (r1 : r ≤ 4294967295) (q0 : 0 ≤ q) (q1 : q ≤ 4294967295) (c0 : 0 ≤ c) (c1 : c ≤ 4294967295) (h : bits .xor .u32 r c = bits .xor .u32 q c) : r = q := by
  obtain ⟨a, rfl⟩ := Int.eq_ofNat_of_zero_le r0
  obtain ⟨b, rfl⟩ := Int.eq_ofNat_of_zero_le q0
  obtain ⟨d, rfl⟩ := Int.eq_ofNat_of_zero_le c0
  rw [xorN a d (by omega) (by omega), xorN b d (by omega) (by omega)] at h
  have := xor_cancel a b d (by omega)
  omega
theorem cbyte_inj_reg (r q b : Int) (r0 : 0 ≤ r) (r1 : r ≤ 4294967295) (q0 : 0 ≤ q) (q1 : q ≤ 4294967295) (b0 : 0 ≤ b) (b1 : b ≤ 255) (h : cbyte r b = cbyte q b) : r = q :=
  xor32_inj_left r q b r0 r1 q0 q1 b0 (by omega) (stpN_inj 8 _ _ (xor_bd _ _).1 (xor_bd _ _).2 (xor_bd _ _).1 (xor_bd _ _).2 h)
theorem cbyte_inj_byte (r b d : Int) (r0 : 0 ≤ r) (r1 : r ≤ 4294967295) (b0 : 0 ≤ b) (b1 : b ≤ 255) (d0 : 0 ≤ d) (d1 : d ≤ 255) (h : cbyte r b = cbyte r d) : b = d := by
  have h2 := stpN_inj 8 _ _ (xor_bd r b).1 (xor_bd r b).2 (xor_bd r d).1 (xor_bd r d).2 h
  rw [xor_comm32 r b, xor_comm32 r d] at h2
  exact xor32_inj_left b d r b0 (by omega) d0 (by omega) r0 r1 h2
theorem crcTo_inj : ∀ (l : List UInt8) (r q : Int), 0 ≤ r → r ≤ 4294967295 → 0 ≤ q → q ≤ 4294967295 → crcTo r l = crcTo q l → r = q
  | [], _, _, _, _, _, _, h => h
  | b :: l, r, q, r0, r1, q0, q1, h => by
    have bb := byte_bd b
    exact cbyte_inj_reg r q b.toNat r0 r1 q0 q1 bb.1 bb.2 (crcTo_inj l _ _ (cbyte_bd _ _).1 (cbyte_bd _ _).2 (cbyte_bd _ _).1 (cbyte_bd _ _).2 h)
theorem crcTo_append (r : Int) (l m : List UInt8) : crcTo r (l ++ m) = crcTo (crcTo r l) m := by unfold crcTo; rw [List.foldl_append]
theorem crcTo_turned (r : Int) (l m : List UInt8) (x y : UInt8) (r0 : 0 ≤ r) (r1 : r ≤ 4294967295) (h : crcTo r (l ++ x :: m) = crcTo r (l ++ y :: m)) : x = y := by
  rw [crcTo_append, crcTo_append] at h
  have bd := crcTo_bd r l r0 r1
  have h2 : cbyte (crcTo r l) (x.toNat : Int) = cbyte (crcTo r l) (y.toNat : Int) := crcTo_inj m _ _ (cbyte_bd _ _).1 (cbyte_bd _ _).2 (cbyte_bd _ _).1 (cbyte_bd _ _).2 h
  have bx := byte_bd x
  have by_ := byte_bd y
  have h3 := cbyte_inj_byte _ _ _ bd.1 bd.2 bx.1 bx.2 by_.1 by_.2 h2
  exact UInt8.toNat_inj.1 (by omega)
theorem inv32_inj (r q : Int) (r0 : 0 ≤ r) (r1 : r ≤ 4294967295) (q0 : 0 ≤ q) (q1 : q ≤ 4294967295) (h : inv32 r = inv32 q) : r = q :=
  xor32_inj_left r q 4294967295 r0 r1 q0 q1 (by decide) (by decide) h
theorem inv32_inv (r : Int) (r0 : 0 ≤ r) (r1 : r ≤ 4294967295) : inv32 (inv32 r) = r := by
  obtain ⟨a, rfl⟩ := Int.eq_ofNat_of_zero_le r0
  have hx : a ^^^ 4294967295 < 2 ^ 32 := Nat.xor_lt_two_pow (n := 32) (by omega) (by decide)
  unfold inv32
  have e1 := xorN a 4294967295 (by omega) (by decide)
  have e2 := xorN (a ^^^ 4294967295) 4294967295 hx (by decide)
  rw [show ((4294967295 : Nat) : Int) = 4294967295 from rfl] at e1 e2
  rw [e1, e2, Nat.xor_assoc, Nat.xor_self, Nat.xor_zero]
theorem crcOf_turned (l m : List UInt8) (x y : UInt8) (h : crcOf 0 (l ++ x :: m) = crcOf 0 (l ++ y :: m)) : x = y := by
  unfold crcOf at h
  have b0 : 0 ≤ inv32 0 ∧ inv32 0 ≤ 4294967295 := xor_bd _ _
  have h1 := crcTo_bd (inv32 0) (l ++ x :: m) b0.1 b0.2
  have h2 := crcTo_bd (inv32 0) (l ++ y :: m) b0.1 b0.2
  exact crcTo_turned _ l m x y b0.1 b0.2 (inv32_inj _ _ h1.1 h1.2 h2.1 h2.2 h)
theorem crcOf_on (l m : List UInt8) : crcOf (crcOf 0 l) m = crcOf 0 (l ++ m) := by
  unfold crcOf
  have b0 : 0 ≤ inv32 0 ∧ inv32 0 ≤ 4294967295 := xor_bd _ _
  have h1 := crcTo_bd (inv32 0) l b0.1 b0.2
  rw [inv32_inv _ h1.1 h1.2, crcTo_append]
theorem four_inj (c d : Int) (c0 : 0 ≤ c) (c1 : c ≤ 4294967295) (d0 : 0 ≤ d) (d1 : d ≤ 4294967295) (h : four c = four d) : c = d := by
  have h2 := congrArg Lib.byteCells h
  rw [four_cells c c0 c1, four_cells d d0 d1] at h2
  simp only [List.cons.injEq, Value.int.injEq, true_and, and_true] at h2
  omega

end Go.Proofs.Ytbnchappillecaa
