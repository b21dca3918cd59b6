/-
  The mathematics of numbers in digits: what digits say, and that digits are got back.
-/
import Derived.Lib.ItoaNum
namespace Go.Proofs.YtcljghpfclegmaaGreatDoor

/-- What a row of digits says. -/
def val (l : List UInt8) : Nat := l.foldl (fun a b => 10 * a + (b.toNat - 48)) 0
def isDig (b : UInt8) : Prop := 48 ≤ b.toNat ∧ b.toNat ≤ 57
theorem val_nil : val [] = 0 := rfl
theorem val_snoc (l : List UInt8) (b : UInt8) : val (l ++ [b]) = 10 * val l + (b.toNat - 48) := by simp [val]
theorem dig_toNat {k : Nat} (h : k < 10) : (UInt8.ofNat (48 + k)).toNat = 48 + k := by
  rw [UInt8.toNat_ofNat']; omega
theorem dec_val (u : Nat) : val (Lib.decDigits u) = u := by
  induction u using Nat.strongRecOn with
  | ind u ih =>
    rw [Lib.decDigits]
    split
    · rename_i h
      have := val_snoc [] (UInt8.ofNat (48 + u))
      simp only [List.nil_append] at this
      rw [this, val_nil, dig_toNat h]; omega
    · rename_i h
      rw [val_snoc, ih (u / 10) (by omega), dig_toNat (Nat.mod_lt _ (by omega))]; omega
theorem dec_dig (u : Nat) : ∀ b ∈ Lib.decDigits u, isDig b := by
  induction u using Nat.strongRecOn with
  | ind u ih =>
    rw [Lib.decDigits]
    split
    · rename_i h
      intro b hb
      obtain rfl := List.mem_singleton.1 hb
      unfold isDig
      rw [dig_toNat h]; omega
    · rename_i h
      intro b hb
      rcases List.mem_append.1 hb with hb | hb
      · exact ih (u / 10) (by omega) b hb
      · obtain rfl := List.mem_singleton.1 hb
        unfold isDig
        rw [dig_toNat (Nat.mod_lt _ (by omega))]; omega
theorem dec_ne (u : Nat) : Lib.decDigits u ≠ [] := by
  intro h
  have := Lib.decDigits_length u
  rw [h] at this
  have := Lib.nDigits_pos u
  simp at *; omega
theorem dec_len {u k : Nat} (h : u < 10 ^ (k + 1)) : (Lib.decDigits u).length ≤ k + 1 := by
  induction k generalizing u with
  | zero => rw [Lib.decDigits, dif_pos (by simpa using h)]; simp
  | succ k ih =>
    rw [Lib.decDigits]
    split
    · simp
    · rw [List.length_append]
      have := @ih (u / 10) (by rw [Nat.pow_succ] at h; omega)
      simp; omega
theorem dec_head (u : Nat) (h : 1 < (Lib.decDigits u).length) : (Lib.decDigits u)[0]? ≠ some 48 := by
  induction u using Nat.strongRecOn with
  | ind u ih =>
    rw [Lib.decDigits] at h ⊢
    split
    · rename_i hu
      rw [dif_pos hu] at h; simp at h
    · rename_i hu
      by_cases h2 : u / 10 < 10
      · rw [Lib.decDigits, dif_pos h2]
        simp only [List.cons_append, List.nil_append, List.getElem?_cons_zero, ne_eq, Option.some.injEq]
        intro e
        have := congrArg UInt8.toNat e
        rw [dig_toNat h2] at this
        have h48 : (48 : UInt8).toNat = 48 := rfl
        omega
      · have hl : 1 < (Lib.decDigits (u / 10)).length := by
          rw [Lib.decDigits, dif_neg h2, List.length_append]
          have := List.length_pos_iff.2 (dec_ne (u / 10 / 10))
          simp; omega
        have := ih (u / 10) (by omega) hl
        rwa [List.getElem?_append_left (by omega)]
theorem foldl_ge (b : List UInt8) : ∀ x : Nat, x ≤ b.foldl (fun a b => 10 * a + (b.toNat - 48)) x := by
  induction b with
  | nil => intro x; exact Nat.le_refl _
  | cons y b ih => intro x; exact Nat.le_trans (show x ≤ 10 * x + (y.toNat - 48) by omega) (ih _)
theorem val_mono (a b : List UInt8) : val a ≤ val (a ++ b) := by
  unfold val
  rw [List.foldl_append]
  exact foldl_ge b _
theorem foldl_lt (l : List UInt8) (h : ∀ b ∈ l, isDig b) : ∀ x : Nat, l.foldl (fun a b => 10 * a + (b.toNat - 48)) x < (x + 1) * 10 ^ l.length := by
  induction l with
  | nil => intro x; simp
  | cons y l ih =>
    intro x
    have h1 := ih (fun b hb => h b (by simp [hb])) (10 * x + (y.toNat - 48))
    have h2 := h y (by simp)
    unfold isDig at h2
    rw [List.foldl_cons, List.length_cons, Nat.pow_succ]
    refine Nat.lt_of_lt_of_le h1 ?_
    rw [Nat.mul_comm (10 ^ l.length) 10, ← Nat.mul_assoc]
    exact Nat.mul_le_mul_right _ (by omega)
theorem val_lt (l : List UInt8) (h : ∀ b ∈ l, isDig b) : val l < 10 ^ l.length := by
  have := foldl_lt l h 0
  simpa [val] using this
theorem val_take_succ (l : List UInt8) (i : Nat) (h : i < l.length) : val (l.take (i + 1)) = 10 * val (l.take i) + ((l[i]'h).toNat - 48) := by
  rw [List.take_succ_eq_append_getElem h, val_snoc]
theorem val_take_le (l : List UInt8) (i : Nat) : val (l.take i) ≤ val l := by
  have := val_mono (l.take i) (l.drop i)
  rwa [List.take_append_drop] at this
theorem dec_inj {a b : Nat} (h : Lib.decDigits a = Lib.decDigits b) : a = b := by rw [← dec_val a, ← dec_val b, h]
/-- One step of writing a number in digits. -/
theorem dec_step (u : Nat) (h : 0 < u) (r : List UInt8) : (if u / 10 = 0 then [] else Lib.decDigits (u / 10)) ++ (UInt8.ofNat (48 + u % 10) :: r) = Lib.decDigits u ++ r := by
  conv => rhs; rw [Lib.decDigits]
  split
  · rename_i h1
    rw [dif_pos (by omega), Nat.mod_eq_of_lt (by omega)]; rfl
  · rename_i h1
    rw [dif_neg (by omega)]; simp

end Go.Proofs.YtcljghpfclegmaaGreatDoor
