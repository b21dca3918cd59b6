/-
  What the CRC functions of the program and of the specification answer: one function of the register and the bytes.
-/
import Derived.Test.YtbnchappillecaaRows
import Derived.Test.YtbnchappillecaaLong
import Derived.WalkKit
import Derived.WalkSpells
import Derived.OwnWalk
import Derived.Outline
namespace Go.Proofs.Ytbnchappillecaa
open Go.RowKit

/-- One bit, one byte, all bytes of a text, on the register. -/
def stp (r : Int) : Int := if r % 2 = 1 then bits .xor .u32 (r / 2) 3988292384 else r / 2
def stpN : Nat → Int → Int
  | 0, r => r
  | k + 1, r => stp (stpN k r)
def cbyte (r b : Int) : Int := stpN 8 (bits .xor .u32 r b)
def crcTo (r : Int) (l : List UInt8) : Int := l.foldl (fun r b => cbyte r b.toNat) r

theorem xor_bd (a b : Int) : 0 ≤ bits .xor .u32 a b ∧ bits .xor .u32 a b ≤ 4294967295 := by
  simp only [bits, IntKind.wrap_u32]
  constructor <;> omega
theorem xor_comm32 (a b : Int) : bits .xor .u32 a b = bits .xor .u32 b a := by
  simp only [bits, BitVec.xor_comm]
theorem wraps32 (n : Int) (h0 : 0 ≤ n) (h1 : n < 2 ^ 32) : IntKind.u32.wrap n = n := by rw [IntKind.wrap_u32]; omega
theorem and1 (r : Int) (h0 : 0 ≤ r) (h1 : r ≤ 4294967295) : bits .and .u32 r 1 = r % 2 := by
  have := bits_mask .u32 32 (by decide) wraps32 1 (by decide) r h0 (by omega)
  simpa using this
theorem stp_bd (r : Int) (h0 : 0 ≤ r) (h1 : r ≤ 4294967295) : 0 ≤ stp r ∧ stp r ≤ 4294967295 := by
  unfold stp; split
  · exact xor_bd _ _
  · omega
theorem stpN_bd (k : Nat) (r : Int) (h0 : 0 ≤ r) (h1 : r ≤ 4294967295) : 0 ≤ stpN k r ∧ stpN k r ≤ 4294967295 := by
  induction k with
  | zero => exact ⟨h0, h1⟩
  | succ k ih => exact stp_bd _ ih.1 ih.2
theorem cbyte_bd (r b : Int) : 0 ≤ cbyte r b ∧ cbyte r b ≤ 4294967295 := stpN_bd 8 _ (xor_bd _ _).1 (xor_bd _ _).2
theorem crcTo_bd (r : Int) (l : List UInt8) (h0 : 0 ≤ r) (h1 : r ≤ 4294967295) : 0 ≤ crcTo r l ∧ crcTo r l ≤ 4294967295 := by
  unfold crcTo
  induction l generalizing r with
  | nil => exact ⟨h0, h1⟩
  | cons b l ih => exact ih _ (cbyte_bd _ _).1 (cbyte_bd _ _).2
theorem stpN_odd (k : Nat) (r : Int) (h : stpN k r % 2 = 1) : stpN (k + 1) r = bits .xor .u32 (stpN k r / 2) 3988292384 := by
  show stp _ = _; unfold stp; rw [if_pos h]
theorem stpN_even (k : Nat) (r : Int) (h : ¬ stpN k r % 2 = 1) : stpN (k + 1) r = stpN k r / 2 := by
  show stp _ = _; unfold stp; rw [if_neg h]
theorem val_int {k : IntKind} {a b : Int} (h : a = b) : Value.int k a = .int k b := by rw [h]
theorem ret_int' {k : IntKind} {a b : Int} (h : a = b) : Ending.returned (.int k a) = .returned (.int k b) := by rw [h]

set_option maxHeartbeats 800000 in
theorem cb_any (r b : Int) (w : World) (h2 : 0 ≤ b) (h3 : b ≤ 255) :
    Calls Try.prog 25 #[.int .u32 r, .int .u8 b] w fun e w' => e = .returned (.int .u32 (cbyte r b)) ∧ w = w' := by
  obtain ⟨g0, g1⟩ := xor_bd r b
  unfold cbyte
  go_enter Try.func25, Try.ntmps25
  go_wp2
  obtain ⟨x, hx⟩ : ∃ x, x = bits .xor .u32 r b := ⟨_, rfl⟩
  rw [← hx] at g0 g1 ⊢
  have HX : Hid (x = bits .xor .u32 r b) := hx
  clear hx
  go_loop [0, 10] (fun vr vi => ∃ k : Nat, k ≤ 8 ∧ vi = .int .i64 k ∧ vr = .int .u32 (stpN k x)) (fun _ vi => 8 - (intOf vi).toNat)
  case atStart => exact ⟨0, by omega, rfl, rfl⟩
  case round =>
    obtain ⟨k, hk, rfl, rfl⟩ := hrel
    obtain ⟨b0, b1⟩ := stpN_bd k x g0 g1
    by_cases hlt : k < 8
    · by_cases ho : stpN k x % 2 = 1
      · have HO : Hid (stpN (k + 1) x = bits .xor .u32 (stpN k x / 2) 3988292384) := stpN_odd k x ho
        have ha := and1 _ b0 b1
        have hb : (stpN k x % 2 == 1) = true := by simp [ho]
        clear ho
        go_wp2
        go_round
        case rel => exact ⟨k + 1, by omega, by go_num, val_int HO.out.symm⟩
        case measure => simp [intOf]; omega
      · have HO : Hid (stpN (k + 1) x = stpN k x / 2) := stpN_even k x ho
        have ha := and1 _ b0 b1
        have hb : (stpN k x % 2 == 1) = false := by simp [ho]
        clear ho
        go_wp2
        go_round
        case rel => exact ⟨k + 1, by omega, by go_num, val_int HO.out.symm⟩
        case measure => simp [intOf]; omega
    · obtain rfl : k = 8 := by omega
      go_wp2
      go_ret
      exact ⟨ret_int' (by rw [HX.out]), rfl⟩

/-- The CRC of a text behind what had the CRC c. -/
def inv32 (r : Int) : Int := bits .xor .u32 r 4294967295
def crcOf (c : Int) (l : List UInt8) : Int := inv32 (crcTo (inv32 c) l)
theorem crcOf_bd (c : Int) (l : List UInt8) : 0 ≤ crcOf c l ∧ crcOf c l ≤ 4294967295 := xor_bd _ _
theorem max_u32 : IntKind.u32.max = 4294967295 := by decide
theorem take_snoc (s : ByteArray) (k : Nat) (h : k < s.size) : s.data.toList.take (k + 1) = s.data.toList.take k ++ [s[k]] := by
  rw [List.take_succ_eq_append_getElem (by simpa using h)]; rfl
theorem crcTo_snoc (r : Int) (s : ByteArray) (k : Nat) (h : k < s.size) : crcTo r (s.data.toList.take (k + 1)) = cbyte (crcTo r (s.data.toList.take k)) ((s[k]'h).toNat : Int) := by
  rw [take_snoc s k h]; unfold crcTo; simp
theorem byte_bd (b : UInt8) : 0 ≤ (b.toNat : Int) ∧ (b.toNat : Int) ≤ 255 := by
  have := b.toNat_lt; omega

set_option maxHeartbeats 800000 in
theorem con_any (c : Int) (s : ByteArray) (w : World) (hs : s.size ≤ 9223372036854775807) :
    Calls Try.prog 17 #[.int .u32 c, .string s] w fun e w' => e = .returned (.int .u32 (crcOf c s.data.toList)) ∧ w = w' := by
  have hsg : IntKind.u32.signed = false := rfl
  have hmx := max_u32
  go_enter Try.func17, Try.ntmps17
  go_wp2
  obtain ⟨x, hx⟩ : ∃ x, x = bits .xor .u32 4294967295 c := ⟨_, rfl⟩
  rw [← hx]
  have HX : Hid (x = inv32 c) := by unfold inv32; rw [xor_comm32]; exact hx
  clear hx
  go_loop [5, 6] (fun vr vi => ∃ k : Nat, k ≤ s.size ∧ vi = .int .i64 k ∧ vr = .int .u32 (crcTo x (s.data.toList.take k))) (fun _ vi => s.size - (intOf vi).toNat)
  case atStart => exact ⟨0, by omega, rfl, rfl⟩
  case round =>
    obtain ⟨k, hk, rfl, rfl⟩ := hrel
    by_cases hlt : k < s.size
    · have HO : Hid (crcTo x (s.data.toList.take (k + 1)) = cbyte (crcTo x (s.data.toList.take k)) ((s[k]'hlt).toNat : Int)) := crcTo_snoc x s k hlt
      generalize crcTo x (s.data.toList.take k) = y at *
      obtain ⟨b0, b1⟩ := byte_bd (s[k]'hlt)
      go_wp2_with (go_at_call 25; refine (cb_any _ _ _ b0 b1).mono ?_; rintro e w1 ⟨rfl, rfl⟩)
      go_round
      case rel => exact ⟨k + 1, by omega, by go_num, val_int HO.out.symm⟩
      case measure => simp [intOf]; omega
    · obtain rfl : k = s.size := by omega
      go_wp2
      go_ret
      exact ⟨ret_int' (by unfold crcOf inv32; rw [xor_comm32, HX.out, List.take_of_length_le (by simp)]; rfl), rfl⟩

set_option maxHeartbeats 1600000 in
theorem sc_any (c : Int) (s : ByteArray) (w : World) (h0 : 0 ≤ c) (h1 : c ≤ 4294967295) (hs : s.size ≤ 9223372036854775807) :
    Calls Try.prog 20 #[.int .i64 c, .string s] w fun e w' => e = .returned (.int .i64 (crcOf c s.data.toList)) ∧ w = w' := by
  go_enter Try.func20, Try.ntmps20
  go_wp2
  obtain ⟨x, hx⟩ : ∃ x, x = bits .xor .u32 c 4294967295 := ⟨_, rfl⟩
  obtain ⟨x0, x1⟩ := xor_bd c 4294967295
  rw [← hx] at x0 x1 ⊢
  have HX : Hid (x = inv32 c) := hx
  clear hx
  go_loop [5, 6] (fun vr vi => ∃ k : Nat, k ≤ s.size ∧ vi = .int .i64 k ∧ vr = .int .u32 (crcTo x (s.data.toList.take k))) (fun _ vi => s.size - (intOf vi).toNat)
  case atStart => exact ⟨0, by omega, rfl, rfl⟩
  case round =>
    obtain ⟨k, hk, rfl, rfl⟩ := hrel
    by_cases hlt : k < s.size
    · have HO : Hid (crcTo x (s.data.toList.take (k + 1)) = cbyte (crcTo x (s.data.toList.take k)) ((s[k]'hlt).toNat : Int)) := crcTo_snoc x s k hlt
      generalize crcTo x (s.data.toList.take k) = y at *
      obtain ⟨b0, b1⟩ := byte_bd (s[k]'hlt)
      obtain ⟨g0, g1⟩ := xor_bd y ((s[k]'hlt).toNat : Int)
      go_wp2
      obtain ⟨z, hz⟩ : ∃ z, z = bits .xor .u32 y ((s[k]'hlt).toNat : Int) := ⟨_, rfl⟩
      rw [← hz] at g0 g1 ⊢
      have HZ : Hid (crcTo x (s.data.toList.take (k + 1)) = stpN 8 z) := by rw [HO.out, hz]; rfl
      clear hz HO
      go_loop [5, 7] (fun vr vj => ∃ j : Nat, j ≤ 8 ∧ vj = .int .i64 j ∧ vr = .int .u32 (stpN j z)) (fun _ vj => 8 - (intOf vj).toNat)
      case atStart => exact ⟨0, by omega, rfl, rfl⟩
      case round =>
        obtain ⟨j, hj, rfl, rfl⟩ := hrel
        obtain ⟨b0, b1⟩ := stpN_bd j z g0 g1
        by_cases hjt : j < 8
        · by_cases ho : stpN j z % 2 = 1
          · have HO : Hid (stpN (j + 1) z = bits .xor .u32 (stpN j z / 2) 3988292384) := stpN_odd j z ho
            have ha := and1 _ b0 b1
            have hb : (stpN j z % 2 == 1) = true := by simp [ho]
            clear ho
            go_wp2
            go_round
            case rel => exact ⟨j + 1, by omega, by go_num, val_int HO.out.symm⟩
            case measure => simp [intOf]; omega
          · have HO : Hid (stpN (j + 1) z = stpN j z / 2) := stpN_even j z ho
            have ha := and1 _ b0 b1
            have hb : (stpN j z % 2 == 1) = false := by simp [ho]
            clear ho
            go_wp2
            go_round
            case rel => exact ⟨j + 1, by omega, by go_num, val_int HO.out.symm⟩
            case measure => simp [intOf]; omega
        · obtain rfl : j = 8 := by omega
          go_wp2
          go_round
          case rel => exact ⟨k + 1, by omega, by go_num, val_int HZ.out.symm⟩
          case measure => simp [intOf]; omega
    · obtain rfl : k = s.size := by omega
      obtain ⟨y0, y1⟩ := xor_bd (crcTo x (s.data.toList.take s.size)) 4294967295
      go_wp2
      go_ret
      exact ⟨ret_int' (by unfold crcOf inv32; rw [HX.out, List.take_of_length_le (by simp)]; rfl), rfl⟩

/-- What CrcMore answers. -/
def crcMore (c : Int) (s : ByteArray) : Int := if 8000 < s.size ∨ c < 0 ∨ 4294967295 < c then 0 else crcOf c s.data.toList

theorem crcMore_bd (c : Int) (s : ByteArray) : 0 ≤ crcMore c s ∧ crcMore c s ≤ 4294967295 := by
  unfold crcMore
  split
  · omega
  · exact crcOf_bd _ _

set_option maxHeartbeats 800000 in
theorem smore_any (c : Int) (s : ByteArray) (w : World) :
    Calls Try.prog 11 #[.int .i64 c, .string s] w fun e w' => e = .returned (.int .i64 (crcMore c s)) ∧ w = w' := by
  by_cases h1 : 8000 < s.size
  · have HM : Hid (crcMore c s = 0) := by unfold crcMore; exact if_pos (.inl h1)
    go_enter Try.func11, Try.ntmps11
    go_wp2
    go_ret
    exact ⟨ret_int' HM.out.symm, rfl⟩
  by_cases h2 : c < 0
  · have HM : Hid (crcMore c s = 0) := by unfold crcMore; exact if_pos (.inr (.inl h2))
    go_enter Try.func11, Try.ntmps11
    go_wp2
    go_ret
    exact ⟨ret_int' HM.out.symm, rfl⟩
  by_cases h3 : 4294967295 < c
  · have HM : Hid (crcMore c s = 0) := by unfold crcMore; exact if_pos (.inr (.inr h3))
    go_enter Try.func11, Try.ntmps11
    go_wp2
    go_ret
    exact ⟨ret_int' HM.out.symm, rfl⟩
  have HM : Hid (crcMore c s = crcOf c s.data.toList) := by unfold crcMore; exact if_neg (by omega)
  go_enter Try.func11, Try.ntmps11
  go_wp2_with fail
  refine (sc_any c s _ (by omega) (by omega) (by omega)).mono ?_
  rintro e w1 ⟨rfl, rfl⟩
  go_wp2
  go_ret
  exact ⟨ret_int' HM.out.symm, rfl⟩

set_option maxHeartbeats 800000 in
theorem imore_any (c : Int) (s : ByteArray) (w : World) :
    Calls Try.prog 10 #[.int .i64 c, .string s] w fun e w' => e = .returned (.int .i64 (crcMore c s)) ∧ w = w' := by
  by_cases h1 : 8000 < s.size
  · have HM : Hid (crcMore c s = 0) := by unfold crcMore; exact if_pos (.inl h1)
    go_enter Try.func10, Try.ntmps10
    go_wp2_with (go_at_call 21; refine (long_yes s _ h1).mono ?_; rintro e w1 ⟨rfl, rfl⟩)
    go_ret
    exact ⟨ret_int' HM.out.symm, rfl⟩
  by_cases h2 : c < 0
  · have HM : Hid (crcMore c s = 0) := by unfold crcMore; exact if_pos (.inr (.inl h2))
    go_enter Try.func10, Try.ntmps10
    go_wp2_with (go_at_call 21; refine (long_no s _ h1).mono ?_; rintro e w1 ⟨rfl, rfl⟩)
    go_ret
    exact ⟨ret_int' HM.out.symm, rfl⟩
  by_cases h3 : 4294967295 < c
  · have HM : Hid (crcMore c s = 0) := by unfold crcMore; exact if_pos (.inr (.inr h3))
    go_enter Try.func10, Try.ntmps10
    go_wp2_with (go_at_call 21; refine (long_no s _ h1).mono ?_; rintro e w1 ⟨rfl, rfl⟩)
    go_ret
    exact ⟨ret_int' HM.out.symm, rfl⟩
  have HM : Hid (crcMore c s = crcOf c s.data.toList) := by unfold crcMore; exact if_neg (by omega)
  obtain ⟨g0, g1⟩ := crcOf_bd c s.data.toList
  generalize hy : crcOf c s.data.toList = y at *
  have HC : Hid (∀ w, Calls Try.prog 17 #[.int .u32 c, .string s] w fun e w' => e = .returned (.int .u32 y) ∧ w = w') := fun w => by rw [← hy]; exact con_any c s w (by omega)
  clear hy
  go_enter Try.func10, Try.ntmps10
  go_wp2_with (first | (go_at_call 21; refine (long_no s _ h1).mono ?_; rintro e w1 ⟨rfl, rfl⟩) | (go_at_call 17; refine (HC.out _).mono ?_; rintro e w1 ⟨rfl, rfl⟩))
  go_ret
  exact ⟨ret_int' HM.out.symm, rfl⟩

set_option maxHeartbeats 800000 in
theorem scrc_any (s : ByteArray) (w : World) :
    Calls Try.prog 24 #[.string s] w fun e w' => e = .returned (.int .i64 (crcMore 0 s)) ∧ w = w' := by
  by_cases h1 : 8000 < s.size
  · have HM : Hid (crcMore 0 s = 0) := by unfold crcMore; exact if_pos (.inl h1)
    go_enter Try.func24, Try.ntmps24
    go_wp2
    go_ret
    exact ⟨ret_int' HM.out.symm, rfl⟩
  have HM : Hid (crcMore 0 s = crcOf 0 s.data.toList) := by unfold crcMore; exact if_neg (by omega)
  go_enter Try.func24, Try.ntmps24
  go_wp2_with fail
  refine (sc_any 0 s _ (by omega) (by omega) (by omega)).mono ?_
  rintro e w1 ⟨rfl, rfl⟩
  go_wp2
  go_ret
  exact ⟨ret_int' HM.out.symm, rfl⟩

set_option maxHeartbeats 800000 in
theorem icrc_any (s : ByteArray) (w : World) :
    Calls Try.prog 12 #[.string s] w fun e w' => e = .returned (.int .i64 (crcMore 0 s)) ∧ w = w' := by
  go_enter Try.func12, Try.ntmps12
  go_wp2_with fail
  refine (imore_any 0 s _).mono ?_
  rintro e w1 ⟨rfl, rfl⟩
  go_wp2
  go_ret
  exact ⟨rfl, rfl⟩

end Go.Proofs.Ytbnchappillecaa
