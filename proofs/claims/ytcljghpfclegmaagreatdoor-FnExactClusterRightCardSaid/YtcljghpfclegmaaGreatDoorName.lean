/-
  What NameRight of the program and of the specification answer: yes just where a text is a name: 1 to 20 bytes, the first a lower letter, the others lower letters, digits or '_'; at every text.
-/
import Derived.Test.YtcljghpfclegmaaGreatDoorRows
import Derived.WalkKit
import Derived.WalkSpells
import Derived.OwnWalk
import Derived.Outline
namespace Go.Proofs.YtcljghpfclegmaaGreatDoor
open Go.RowKit

def lowB (b : Int) : Bool := decide (97 ≤ b) && decide (b ≤ 122)
def digB (b : Int) : Bool := decide (48 ≤ b) && decide (b ≤ 57)
def nbB (b : Int) : Bool := lowB b || digB b || decide (b = 95)
def okB (i : Nat) (b : Int) : Bool := if i = 0 then lowB b else nbB b
def NameOk (s : ByteArray) : Prop := 1 ≤ s.size ∧ s.size ≤ 20 ∧ ∀ i (h : i < s.size), okB i ((s[i]'h).toNat : Int) = true
/-- The answer is a bool: whether p. -/
def BoolAns (p : Prop) (w : World) (e : Ending) (w' : World) : Prop := ∃ r : Bool, e = .returned (.bool r) ∧ (r = true ↔ p) ∧ w = w'
theorem ret_bool {a b : Bool} (h : a = b) : Ending.returned (.bool a) = .returned (.bool b) := by rw [h]

set_option maxHeartbeats 400000 in
theorem low_any (b : Int) (w : World) :
    Calls Tryz.prog 207 #[.int .u8 b] w fun e w' => e = .returned (.bool (lowB b)) ∧ w = w' := by
  go_enter Tryz.func207, Tryz.ntmps207
  go_wp2
  all_goals (go_ret; exact ⟨ret_bool (by unfold lowB; rw [Bool.eq_iff_iff]; simp; omega), rfl⟩)

set_option maxHeartbeats 400000 in
theorem nb_any (b : Int) (w : World) :
    Calls Tryz.prog 208 #[.int .u8 b] w fun e w' => e = .returned (.bool (nbB b)) ∧ w = w' := by
  go_enter Tryz.func208, Tryz.ntmps208
  go_wp2
  all_goals (go_ret; exact ⟨ret_bool (by unfold nbB lowB digB; rw [Bool.eq_iff_iff]; simp; omega), rfl⟩)

theorem name_bad {s : ByteArray} {k : Nat} (hlt : k < s.size) (h : okB k ((s[k]'hlt).toNat : Int) = false) : (false = true ↔ NameOk s) := by
  constructor
  · intro h; cases h
  · intro h3
    have := h3.2.2 k hlt
    rw [h] at this
    exact this
theorem name_step {s : ByteArray} {k : Nat} (hlt : k < s.size) (h : okB k ((s[k]'hlt).toNat : Int) = true) (ha : ∀ i (h : i < s.size), i < k → okB i ((s[i]'h).toNat : Int) = true) :
    ∀ i (h : i < s.size), i < k + 1 → okB i ((s[i]'h).toNat : Int) = true := by
  intro i hi hk
  by_cases e : i = k
  · subst e; exact h
  · exact ha i hi (by omega)

set_option maxHeartbeats 3200000 in
theorem sname_any (s : ByteArray) (w : World) (hs : s.size ≤ 9223372036854775807) :
    Calls Tryz.prog 161 #[.string s] w (BoolAns (NameOk s) w) := by
  by_cases h1 : s.size < 1
  · go_enter Tryz.func161, Tryz.ntmps161
    go_wp2
    go_ret
    exact ⟨false, rfl, by unfold NameOk; simp; omega, rfl⟩
  by_cases h2 : 20 < s.size
  · go_enter Tryz.func161, Tryz.ntmps161
    go_wp2
    go_ret
    exact ⟨false, rfl, by unfold NameOk; simp; omega, rfl⟩
  go_enter Tryz.func161, Tryz.ntmps161
  go_wp2
  go_loop [3] (fun i => ∃ k : Nat, k ≤ s.size ∧ i = .int .i64 k ∧ ∀ i (h : i < s.size), i < k → okB i ((s[i]'h).toNat : Int) = true) (fun i => s.size - (intOf i).toNat)
  case atStart => exact ⟨0, by omega, rfl, fun i _ h => by omega⟩
  case round =>
    obtain ⟨k, hk, rfl, hall⟩ := hrel
    have HA : Hid (∀ i (h : i < s.size), i < k → okB i ((s[i]'h).toNat : Int) = true) := hall
    clear hall
    by_cases hlt : k < s.size
    · cases hok : okB k ((s[k]'hlt).toNat : Int)
      · have HB : Hid (okB k ((s[k]'hlt).toNat : Int) = false) := hok
        by_cases hk0 : k = 0
        · have hkb : ((k : Int) == 0) = true := by simp [hk0]
          have hk1 : k < 1 := by omega
          unfold okB lowB at hok
          rw [if_pos hk0] at hok
          simp only [Bool.and_eq_false_iff, decide_eq_false_iff_not] at hok
          clear hk0
          rcases (show ((s[k]'hlt).toNat : Int) < 97 ∨ (97 ≤ ((s[k]'hlt).toNat : Int) ∧ 122 < ((s[k]'hlt).toNat : Int)) by omega) with hA | ⟨hA, hB⟩
          all_goals
            clear hok
            go_wp2
            all_goals first | (exfalso; rename_i hx; simp at hx; omega) | (go_ret; exact ⟨false, rfl, name_bad hlt HB.out, rfl⟩)
        · have hkb : ((k : Int) == 0) = false := by simp [hk0]
          unfold okB nbB lowB digB at hok
          rw [if_neg hk0] at hok
          simp only [Bool.or_eq_false_iff, Bool.and_eq_false_iff, decide_eq_false_iff_not] at hok
          have hne : (((s[k]'hlt).toNat : Int) != 95) = true := by simp; omega
          rcases (show (((s[k]'hlt).toNat : Int) < 97 ∨ (97 ≤ ((s[k]'hlt).toNat : Int) ∧ 122 < ((s[k]'hlt).toNat : Int))) ∧ (((s[k]'hlt).toNat : Int) < 48 ∨ (48 ≤ ((s[k]'hlt).toNat : Int) ∧ 57 < ((s[k]'hlt).toNat : Int))) by omega) with ⟨hA | ⟨hA, hB⟩, hC | ⟨hC, hD⟩⟩
          all_goals
            clear hok
            try omega
          all_goals
            go_wp2
            all_goals first | (exfalso; rename_i hx; simp at hx; omega) | (go_ret; exact ⟨false, rfl, name_bad hlt HB.out, rfl⟩)
      · have HB : Hid (okB k ((s[k]'hlt).toNat : Int) = true) := hok
        by_cases hk0 : k = 0
        · have hkb : ((k : Int) == 0) = true := by simp [hk0]
          have hk1 : k < 1 := by omega
          unfold okB lowB at hok
          rw [if_pos hk0] at hok
          simp only [Bool.and_eq_true, decide_eq_true_eq] at hok
          obtain ⟨hA, hB⟩ := hok
          clear hk0
          go_wp2
          go_round
          case rel => exact ⟨k + 1, by omega, by go_num, name_step hlt HB.out HA.out⟩
          case measure => simp [intOf]; omega
        · have hkb : ((k : Int) == 0) = false := by simp [hk0]
          unfold okB nbB lowB digB at hok
          rw [if_neg hk0] at hok
          simp only [Bool.or_eq_true, Bool.and_eq_true, decide_eq_true_eq] at hok
          rcases (show (97 ≤ ((s[k]'hlt).toNat : Int) ∧ ((s[k]'hlt).toNat : Int) ≤ 122) ∨ (48 ≤ ((s[k]'hlt).toNat : Int) ∧ ((s[k]'hlt).toNat : Int) ≤ 57) ∨ (95 ≤ ((s[k]'hlt).toNat : Int) ∧ ((s[k]'hlt).toNat : Int) ≤ 95) by omega) with ⟨hA, hB⟩ | ⟨hA, hB⟩ | ⟨hA, hB⟩
          · clear hok
            go_wp2
            go_round
            case rel => exact ⟨k + 1, by omega, by go_num, name_step hlt HB.out HA.out⟩
            case measure => simp [intOf]; omega
          · clear hok
            go_wp2
            go_round
            case rel => exact ⟨k + 1, by omega, by go_num, name_step hlt HB.out HA.out⟩
            case measure => simp [intOf]; omega
          · clear hok
            have hne : (((s[k]'hlt).toNat : Int) != 95) = false := by simp; omega
            go_wp2
            go_round
            case rel => exact ⟨k + 1, by omega, by go_num, name_step hlt HB.out HA.out⟩
            case measure => simp [intOf]; omega
    · go_wp2
      go_ret
      refine ⟨true, rfl, ?_, rfl⟩
      simp only [true_iff]
      exact ⟨by omega, by omega, fun i h => HA.out i h (by omega)⟩

set_option maxHeartbeats 800000 in
theorem iname_any (s : ByteArray) (w : World) (hs : s.size ≤ 9223372036854775807) :
    Calls Tryz.prog 165 #[.string s] w (BoolAns (NameOk s) w) := by
  by_cases h1 : s.size < 1
  · go_enter Tryz.func165, Tryz.ntmps165
    go_wp2
    go_ret
    exact ⟨false, rfl, by unfold NameOk; simp; omega, rfl⟩
  by_cases h2 : 20 < s.size
  · go_enter Tryz.func165, Tryz.ntmps165
    go_wp2
    go_ret
    exact ⟨false, rfl, by unfold NameOk; simp; omega, rfl⟩
  have h0 : 0 < s.size := by omega
  cases hl : lowB ((s[0]'h0).toNat : Int)
  · have HC : Hid (∀ w, Calls Tryz.prog 207 #[.int .u8 ((s[0]'h0).toNat : Int)] w fun e w' => e = .returned (.bool false) ∧ w = w') := fun w => by rw [← hl]; exact low_any _ w
    have HB : Hid (okB 0 ((s[0]'h0).toNat : Int) = false) := hl
    clear hl
    go_enter Tryz.func165, Tryz.ntmps165
    go_wp2_with (go_at_call 207; refine (HC.out _).mono ?_; rintro e w1 ⟨rfl, rfl⟩)
    go_ret
    exact ⟨false, rfl, name_bad h0 HB.out, rfl⟩
  · have HC : Hid (∀ w, Calls Tryz.prog 207 #[.int .u8 ((s[0]'h0).toNat : Int)] w fun e w' => e = .returned (.bool true) ∧ w = w') := fun w => by rw [← hl]; exact low_any _ w
    have HB : Hid (okB 0 ((s[0]'h0).toNat : Int) = true) := hl
    clear hl
    go_enter Tryz.func165, Tryz.ntmps165
    go_wp2_with (go_at_call 207; refine (HC.out _).mono ?_; rintro e w1 ⟨rfl, rfl⟩)
    go_loop [3] (fun i => ∃ k : Nat, 1 ≤ k ∧ k ≤ s.size ∧ i = .int .i64 k ∧ ∀ i (h : i < s.size), i < k → okB i ((s[i]'h).toNat : Int) = true) (fun i => s.size - (intOf i).toNat)
    case atStart => exact ⟨1, by omega, by omega, rfl, fun i _ h => by obtain rfl : i = 0 := by omega
                                                                       exact HB.out⟩
    case round =>
      obtain ⟨k, hk1, hk, rfl, hall⟩ := hrel
      have HA : Hid (∀ i (h : i < s.size), i < k → okB i ((s[i]'h).toNat : Int) = true) := hall
      clear hall HC HB
      by_cases hlt : k < s.size
      · cases hok : nbB ((s[k]'hlt).toNat : Int)
        · have HC : Hid (∀ w, Calls Tryz.prog 208 #[.int .u8 ((s[k]'hlt).toNat : Int)] w fun e w' => e = .returned (.bool false) ∧ w = w') := fun w => by rw [← hok]; exact nb_any _ w
          have HB : Hid (okB k ((s[k]'hlt).toNat : Int) = false) := by unfold okB; rw [if_neg (by omega)]; exact hok
          clear hok
          go_wp2_with (go_at_call 208; refine (HC.out _).mono ?_; rintro e w1 ⟨rfl, rfl⟩)
          go_ret
          exact ⟨false, rfl, name_bad hlt HB.out, rfl⟩
        · have HC : Hid (∀ w, Calls Tryz.prog 208 #[.int .u8 ((s[k]'hlt).toNat : Int)] w fun e w' => e = .returned (.bool true) ∧ w = w') := fun w => by rw [← hok]; exact nb_any _ w
          have HB : Hid (okB k ((s[k]'hlt).toNat : Int) = true) := by unfold okB; rw [if_neg (by omega)]; exact hok
          clear hok
          go_wp2_with (go_at_call 208; refine (HC.out _).mono ?_; rintro e w1 ⟨rfl, rfl⟩)
          go_round
          case rel => exact ⟨k + 1, by omega, by omega, by go_num, name_step hlt HB.out HA.out⟩
          case measure => simp [intOf]; omega
      · go_wp2
        go_ret
        refine ⟨true, rfl, ?_, rfl⟩
        simp only [true_iff]
        exact ⟨by omega, by omega, fun i h => HA.out i h (by omega)⟩

end Go.Proofs.YtcljghpfclegmaaGreatDoor
