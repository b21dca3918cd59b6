/-
  What GetNum answers, in the program and in the specification.
-/
import Derived.Test.YtbnchappillecaaDoorRd
import Derived.Test.YtbnchappillecaaDoorFault
import Derived.Test.YtbnchappillecaaDoorLong
import Derived.Test.YtbnchappillecaaDoorSlot
namespace Go.Proofs.YtbnchappillecaaDoor
open Go.RowKit

/-- What GetNum answers: the number, the place behind it, a code. -/
def gn (s : ByteArray) (at_ : Int) : Int × Int × Int :=
  if 8000 < s.size then (0, 0, 2) else if at_ < 0 then (0, 0, 1)
  else if (rd (s.data.toList.drop at_.toNat) 0 0).1 = 0 then (unf (rd (s.data.toList.drop at_.toNat) 0 0).2.1, ((at_.toNat + (rd (s.data.toList.drop at_.toNat) 0 0).2.2 : Nat) : Int), 0)
  else (0, 0, ((rd (s.data.toList.drop at_.toNat) 0 0).1 : Nat))
def gnVal (t : Int × Int × Int) : Value := .agg #[.int .i64 t.1, .int .i64 t.2.1, .int .i64 t.2.2]
theorem ret_gn {t : Int × Int × Int} {x y z : Int} (h : t = (x, y, z)) : Ending.returned (.agg #[.int .i64 x, .int .i64 y, .int .i64 z]) = .returned (gnVal t) := by rw [h]; rfl
theorem gn_long {s : ByteArray} {i : Int} (h : 8000 < s.size) : gn s i = (0, 0, 2) := by unfold gn; rw [if_pos h]
theorem gn_neg {s : ByteArray} {i : Int} (h : ¬ 8000 < s.size) (h0 : i < 0) : gn s i = (0, 0, 1) := by unfold gn; rw [if_neg h, if_pos h0]
theorem gn_ok {s : ByteArray} {a n k : Nat} (h : ¬ 8000 < s.size) (hr : rd (s.data.toList.drop a) 0 0 = (0, n, k)) : gn s (a : Int) = (unf n, ((a + k : Nat) : Int), 0) := by
  unfold gn; rw [if_neg h, if_neg (by omega), Int.toNat_natCast, hr]; simp
theorem gn_bad {s : ByteArray} {a c : Nat} (h : ¬ 8000 < s.size) (hr : rd (s.data.toList.drop a) 0 0 = (c, 0, 0)) (hc : c ≠ 0) : gn s (a : Int) = (0, 0, (c : Int)) := by
  unfold gn; rw [if_neg h, if_neg (by omega), Int.toNat_natCast, hr]; simp [hc]
/-- Either it is read, or there is a code and no more. -/
theorem rd_cases : ∀ (l : List UInt8) (k u : Nat), k ≤ 9 → u < 128 ^ k → (∃ n m, rd l k u = (0, n, m) ∧ m ≤ k + l.length ∧ n < 18446744073709551616) ∨ rd l k u = (3, 0, 0) ∨ rd l k u = (4, 0, 0)
  | [], _, _, _, _ => .inr (.inr rfl)
  | b :: t, k, u, hk, hu => by
    rw [rd]
    have hp := pow_le9 k hk
    split
    · exact .inr (.inl rfl)
    · rename_i h9
      split
      · rename_i h128
        split
        · exact .inr (.inl rfl)
        · refine .inl ⟨_, _, rfl, by simp, ?_⟩
          by_cases e : k = 9
          · subst e
            have : b.toNat ≤ 1 := by omega
            have e9 : (128 : Nat) ^ 9 = 9223372036854775808 := by decide
            rw [e9] at hu ⊢
            omega
          · have h1 := pow_step128 u k _ hu h128
            have h2 := pow_le9 (k + 1) (by omega)
            omega
      · rename_i h128
        have hb := b.toNat_lt
        rcases rd_cases t (k + 1) (u + b.toNat % 128 * 128 ^ k) (by omega) (pow_step128 u k _ hu (Nat.mod_lt _ (by decide))) with ⟨n, m, h1, h2, h3⟩ | h | h
        · exact .inl ⟨n, m, h1, by simp; omega, h3⟩
        · exact .inr (.inl h)
        · exact .inr (.inr h)

set_option maxHeartbeats 800000 in
theorem igetNum_any (s : ByteArray) (i : Int) (w : World) (h1 : i ≤ 9223372036854775807) (hg : etCell w) :
    Calls Tryd.prog 7 #[.string s, .int .i64 i] w fun e w' => e = .returned (gnVal (gn s i)) ∧ Below w.heap.size w w' := by
  by_cases hl : 8000 < s.size
  · have HL : Hid (∀ w, Calls Tryd.prog 16 #[.string s] w fun e w' => e = .returned (.bool true) ∧ w = w') := fun w => long_yes s w hl
    go_enter Tryd.func7, Tryd.ntmps7
    go_wp2_with (go_at_call 16; refine (HL.out _).mono ?_; rintro e w1 ⟨rfl, rfl⟩)
    exact bodyPost_ret (v := .agg #[.int .i64 0, .int .i64 0, .int .i64 2]) (by simp [results, Tryd.results7, go_sem]) rfl ⟨ret_gn (gn_long hl), (Below.refl _ _).alloc (Nat.le_refl _) _⟩
  have HL : Hid (∀ w, Calls Tryd.prog 16 #[.string s] w fun e w' => e = .returned (.bool false) ∧ w = w') := fun w => long_no s w hl
  by_cases h0 : i < 0
  · go_enter Tryd.func7, Tryd.ntmps7
    go_wp2_with (go_at_call 16; refine (HL.out _).mono ?_; rintro e w1 ⟨rfl, rfl⟩)
    exact bodyPost_ret (v := .agg #[.int .i64 0, .int .i64 0, .int .i64 1]) (by simp [results, Tryd.results7, go_sem]) rfl ⟨ret_gn (gn_neg hl h0), (Below.refl _ _).alloc (Nat.le_refl _) _⟩
  obtain ⟨a, rfl⟩ := Int.eq_ofNat_of_zero_le (show 0 ≤ i by omega)
  have HG : Hid (etCell w) := hg
  have hR := fun w => readNum_any s a w (by omega) (by omega)
  rcases rd_cases (s.data.toList.drop a) 0 0 (by omega) (by decide) with ⟨n, m, hr, hm, hn⟩ | hr | hr
  · rw [rdVal_ok hr] at hR
    have HA : Hid (gn s (a : Int) = (unf n, ((a + m : Nat) : Int), 0)) := gn_ok hl hr
    have HR : Hid (∀ w, Calls Tryd.prog 17 #[.string s, .int .i64 (a : Int)] w fun e w' => e = .returned (.tuple #[.int .i64 (unf n), .int .i64 ((a + m : Nat) : Int), .nilIface]) ∧ w = w') := hR
    clear hR hr hg
    go_enter Tryd.func7, Tryd.ntmps7
    go_wp2_with (first | (go_at_call 16; refine (HL.out _).mono ?_; rintro e w1 ⟨rfl, rfl⟩) | (go_at_call 17; refine (HR.out _).mono ?_; rintro e w1 ⟨rfl, rfl⟩) | (go_at_call 18; refine (fault_nil _).mono ?_; rintro e w2 ⟨rfl, hb2⟩; obtain ⟨c0, c1, c2, f0, f1, f2, hb, hz⟩ := slot3 (w := w) (x := (w.alloc (.cells #[.int .i64 0, .int .i64 0, .int .i64 0] 26))) (w1 := w2) rfl rfl rfl rfl hb2))
    exact bodyPost_ret (v := .agg #[.int .i64 (unf n), .int .i64 ((a : Int) + (m : Int)), .int .i64 0]) (by simp [results, Tryd.results7, go_sem, *]) rfl ⟨ret_gn HA.out, ((hb.setCell (Nat.le_refl _) _).setCell (Nat.le_refl _) _).setCell (Nat.le_refl _) _⟩
  · rw [rdVal_bad hr (by decide)] at hR
    have HA : Hid (gn s (a : Int) = (0, 0, ((3 : Nat) : Int))) := gn_bad hl hr (by decide)
    have HR : Hid (∀ w, Calls Tryd.prog 17 #[.string s, .int .i64 (a : Int)] w fun e w' => e = .returned (.tuple #[.int .i64 0, .int .i64 0, .iface 54 (.agg #[.int .i64 3])]) ∧ w = w') := hR
    have HF : Hid (Calls Tryd.prog 18 #[.iface 54 (.agg #[.int .i64 3])] (w.alloc (.cells #[.int .i64 0, .int .i64 0, .int .i64 0] 26)) fun e w' => e = .returned (.int .i64 3) ∧ Below (w.alloc (.cells #[.int .i64 0, .int .i64 0, .int .i64 0] 26)).heap.size (w.alloc (.cells #[.int .i64 0, .int .i64 0, .int .i64 0] 26)) w') := fault_hit 3 _ (hg.below ((Below.refl _ _).alloc (Nat.le_refl _) _) hg.lt)
    clear hR hr hg
    go_enter Tryd.func7, Tryd.ntmps7
    go_wp2_with (first | (go_at_call 16; refine (HL.out _).mono ?_; rintro e w1 ⟨rfl, rfl⟩) | (go_at_call 17; refine (HR.out _).mono ?_; rintro e w1 ⟨rfl, rfl⟩) | (go_at_call 18; refine HF.out.mono ?_; rintro e w2 ⟨rfl, hb2⟩; obtain ⟨c0, c1, c2, f0, f1, f2, hb, hz⟩ := slot3 (w := w) (x := (w.alloc (.cells #[.int .i64 0, .int .i64 0, .int .i64 0] 26))) (w1 := w2) rfl rfl rfl rfl hb2))
    exact bodyPost_ret (v := .agg #[.int .i64 0, .int .i64 0, .int .i64 3]) (by simp [results, Tryd.results7, go_sem, *]) rfl ⟨ret_gn HA.out, ((hb.setCell (Nat.le_refl _) _).setCell (Nat.le_refl _) _).setCell (Nat.le_refl _) _⟩
  · rw [rdVal_bad hr (by decide)] at hR
    have HA : Hid (gn s (a : Int) = (0, 0, ((4 : Nat) : Int))) := gn_bad hl hr (by decide)
    have HR : Hid (∀ w, Calls Tryd.prog 17 #[.string s, .int .i64 (a : Int)] w fun e w' => e = .returned (.tuple #[.int .i64 0, .int .i64 0, .iface 54 (.agg #[.int .i64 4])]) ∧ w = w') := hR
    have HF : Hid (Calls Tryd.prog 18 #[.iface 54 (.agg #[.int .i64 4])] (w.alloc (.cells #[.int .i64 0, .int .i64 0, .int .i64 0] 26)) fun e w' => e = .returned (.int .i64 4) ∧ Below (w.alloc (.cells #[.int .i64 0, .int .i64 0, .int .i64 0] 26)).heap.size (w.alloc (.cells #[.int .i64 0, .int .i64 0, .int .i64 0] 26)) w') := fault_hit 4 _ (hg.below ((Below.refl _ _).alloc (Nat.le_refl _) _) hg.lt)
    clear hR hr hg
    go_enter Tryd.func7, Tryd.ntmps7
    go_wp2_with (first | (go_at_call 16; refine (HL.out _).mono ?_; rintro e w1 ⟨rfl, rfl⟩) | (go_at_call 17; refine (HR.out _).mono ?_; rintro e w1 ⟨rfl, rfl⟩) | (go_at_call 18; refine HF.out.mono ?_; rintro e w2 ⟨rfl, hb2⟩; obtain ⟨c0, c1, c2, f0, f1, f2, hb, hz⟩ := slot3 (w := w) (x := (w.alloc (.cells #[.int .i64 0, .int .i64 0, .int .i64 0] 26))) (w1 := w2) rfl rfl rfl rfl hb2))
    exact bodyPost_ret (v := .agg #[.int .i64 0, .int .i64 0, .int .i64 4]) (by simp [results, Tryd.results7, go_sem, *]) rfl ⟨ret_gn HA.out, ((hb.setCell (Nat.le_refl _) _).setCell (Nat.le_refl _) _).setCell (Nat.le_refl _) _⟩

end Go.Proofs.YtbnchappillecaaDoor
