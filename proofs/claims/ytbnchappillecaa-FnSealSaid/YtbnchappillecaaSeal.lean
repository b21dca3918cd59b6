/-
  What Seal of the program and of the specification answer: the text and the four bytes of its CRC, the least first.
-/
import Derived.Test.YtbnchappillecaaJoin
import Derived.Test.YtbnchappillecaaCrc
namespace Go.Proofs.Ytbnchappillecaa
open Go.RowKit

/-- The four bytes of a number, the least first. -/
def four (c : Int) : List UInt8 := [UInt8.ofNat (c % 256).toNat, UInt8.ofNat (c / 256 % 256).toNat, UInt8.ofNat (c / 65536 % 256).toNat, UInt8.ofNat (c / 16777216 % 256).toNat]

theorem four_cells (c : Int) (h0 : 0 ≤ c) (h1 : c ≤ 4294967295) : Lib.byteCells (four c) = [.int .u8 (c % 256), .int .u8 (c / 256 % 256), .int .u8 (c / 65536 % 256), .int .u8 (c / 16777216)] := by
  have b : ∀ x : Int, 0 ≤ x → x < 256 → (((UInt8.ofNat x.toNat).toNat : Nat) : Int) = x := by
    intro x a b
    rw [UInt8.toNat_ofNat']
    omega
  unfold four Lib.byteCells
  simp only [List.map_cons, List.map_nil]
  rw [b _ (by omega) (by omega), b _ (by omega) (by omega), b _ (by omega) (by omega), b _ (by omega) (by omega)]
  have e : c / 16777216 % 256 = c / 16777216 := by omega
  rw [e]
theorem four_len (c : Int) : (four c).length = 4 := rfl
theorem four_size (c : Int) : (ByteArray.mk (four c).toArray).size = 4 := rfl
theorem conv_four (c : Int) (w : World) (h0 : 0 ≤ c) (h1 : c ≤ 4294967295) :
    (convert 22 9 (.slice (some ⟨w.heap.size, 0, none⟩) 4 4)).run Try.prog (w.alloc (.cells #[.int .u8 (c % 256), .int .u8 (c / 256 % 256), .int .u8 (c / 65536 % 256), .int .u8 (c / 16777216)] 5)) =
      .ok (.string ⟨(four c).toArray⟩) (w.alloc (.cells #[.int .u8 (c % 256), .int .u8 (c / 256 % 256), .int .u8 (c / 65536 % 256), .int .u8 (c / 16777216)] 5)) := by
  refine conv_row (four c) (four_len c) ?_
  rw [four_cells c h0 h1]
  show (w.heap.push _)[w.heap.size]? = _
  simp

set_option maxHeartbeats 800000 in
theorem four_any (c : Int) (w : World) (h0 : 0 ≤ c) (h1 : c ≤ 4294967295) :
    Calls Try.prog 19 #[.int .i64 c] w fun e w' => e = .returned (.string ⟨(four c).toArray⟩) ∧ Below w.heap.size w w' := by
  have hcv := conv_four c w h0 h1
  generalize ByteArray.mk (four c).toArray = p at *
  go_enter Try.func19, Try.ntmps19
  go_wp2
  go_ret
  exact ⟨rfl, (Below.refl _ _).alloc (Nat.le_refl _) _⟩

/-- What Seal answers. -/
def sealed (t : ByteArray) : ByteArray := if 7996 < t.size then ⟨#[]⟩ else t ++ ⟨(four (crcOf 0 t.data.toList)).toArray⟩
theorem ret_str' {a b : ByteArray} (h : a = b) : Ending.returned (.string a) = .returned (.string b) := by rw [h]

set_option maxHeartbeats 800000 in
theorem sseal_any (t : ByteArray) (w : World) :
    Calls Try.prog 6 #[.string t] w fun e w' => e = .returned (.string (sealed t)) ∧ Below w.heap.size w w' := by
  by_cases h1 : 7996 < t.size
  · have HM : Hid (sealed t = ⟨#[]⟩) := by unfold sealed; exact if_pos h1
    go_enter Try.func6, Try.ntmps6
    go_wp2
    go_ret
    exact ⟨ret_str' HM.out.symm, Below.refl _ _⟩
  have HM : Hid (sealed t = t ++ ⟨(four (crcOf 0 t.data.toList)).toArray⟩) := by unfold sealed; exact if_neg h1
  obtain ⟨g0, g1⟩ := crcOf_bd 0 t.data.toList
  have hC := fun w => sc_any 0 t w (by omega) (by omega) (by omega)
  generalize crcOf 0 t.data.toList = c at *
  have HC : Hid (∀ w, Calls Try.prog 20 #[.int .i64 0, .string t] w fun e w' => e = .returned (.int .i64 c) ∧ w = w') := hC
  have hF := fun w => four_any c w g0 g1
  have h4 := four_size c
  generalize ByteArray.mk (four c).toArray = p at *
  have HF : Hid (∀ w, Calls Try.prog 19 #[.int .i64 c] w fun e w' => e = .returned (.string p) ∧ Below w.heap.size w w') := hF
  have hp : p.size ≤ 4 := by omega
  clear hC hF h4
  go_enter Try.func6, Try.ntmps6
  go_wp2_with (first | (go_at_call 20; refine (HC.out _).mono ?_; rintro e w1 ⟨rfl, rfl⟩) | (go_at_call 19; refine (HF.out _).mono ?_; rintro e w1 ⟨rfl, hb1⟩))
  go_ret
  exact ⟨ret_str' HM.out.symm, hb1⟩

set_option maxHeartbeats 1600000 in
theorem iseal_any (t : ByteArray) (w : World) :
    Calls Try.prog 5 #[.string t] w fun e w' => e = .returned (.string (sealed t)) ∧ Below w.heap.size w w' := by
  by_cases h1 : 7996 < t.size
  · have HM : Hid (sealed t = ⟨#[]⟩) := by unfold sealed; exact if_pos h1
    go_enter Try.func5, Try.ntmps5
    go_wp2
    go_ret
    exact ⟨ret_str' HM.out.symm, Below.refl _ _⟩
  have HM : Hid (sealed t = t ++ ⟨(four (crcOf 0 t.data.toList)).toArray⟩) := by unfold sealed; exact if_neg h1
  obtain ⟨g0, g1⟩ := crcOf_bd 0 t.data.toList
  have hC := fun w => con_any 0 t w (by omega)
  generalize crcOf 0 t.data.toList = c at *
  have HC : Hid (∀ w, Calls Try.prog 17 #[.int .u32 0, .string t] w fun e w' => e = .returned (.int .u32 c) ∧ w = w') := hC
  have hcv := conv_four c w g0 g1
  have h4 := four_size c
  generalize ByteArray.mk (four c).toArray = p at *
  have hp : p.size ≤ 4 := by omega
  have HJ : Hid (∀ w, Calls Try.prog 18 #[.string t, .string p] w fun e w' => e = .returned (.string (t ++ p)) ∧ Below w.heap.size w w') := fun w => joined_any t p w (by omega)
  have hmk : ∀ w, (Instr.makeSlice 22 (.int .i64 4) (.int .i64 4)).run Try.prog w = .ok (.slice (some ⟨w.heap.size, 0, none⟩) 4 4) (w.alloc (.cells #[.int .u8 0, .int .u8 0, .int .u8 0, .int .u8 0] 5)) := fun _ => by kernel_rfl
  clear hC h4
  go_enter Try.func5, Try.ntmps5
  go_wp2_with (go_at_call 17; refine (HC.out _).mono ?_; rintro e w1 ⟨rfl, rfl⟩)
  clear HC hmk
  refine wp_loop_rounds 5 ?_
  rw [rounds_succ]
  go_wp2
  rw [rounds_succ]
  go_wp2
  rw [rounds_succ]
  go_wp2
  rw [rounds_succ]
  go_wp2
  rw [rounds_succ]
  go_wp2_with (go_at_call 18; refine (HJ.out _).mono ?_; rintro e w2 ⟨rfl, hb2⟩)
  go_ret
  exact ⟨ret_str' HM.out.symm, ((Below.refl _ _).alloc (Nat.le_refl _) _).trans (hb2.mono (by simp))⟩

end Go.Proofs.Ytbnchappillecaa
