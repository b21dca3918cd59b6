/-
  What GetNum of the specification answers.
-/
import Derived.Test.YtbnchappillecadDoorGetNum
namespace Go.Proofs.YtbnchappillecadDoor
open Go.RowKit

theorem gn_ok' {s : ByteArray} {a n k : Nat} {x y : Int} (h : ¬ 8000 < s.size) (hr : rd (s.data.toList.drop a) 0 0 = (0, n, k)) (hx : x = unf n) (hy : y = ((a + k : Nat) : Int)) : gn s (a : Int) = (x, y, 0) := by
  rw [gn_ok h hr, hx, hy]
theorem byte255 (b : UInt8) : (b.toNat : Int) ≤ 255 := by have := b.toNat_lt; omega
theorem unf_odd {m : Nat} (h : m % 2 = 1) : -((m : Int) / 2) - 1 = unf m := by unfold unf; rw [if_pos h]; omega
theorem unf_even {m : Nat} (h : ¬ m % 2 = 1) : (m : Int) / 2 = unf m := by unfold unf; rw [if_neg h]; omega
theorem sgath (n k : Nat) (b : UInt8) (h : n + b.toNat % 128 * 128 ^ k < 18446744073709551616) :
    IntKind.u64.wrap ((n : Int) + IntKind.u64.wrap ((b.toNat : Int) % 128 * 2 ^ (7 * k))) = ((n + b.toNat % 128 * 128 ^ k : Nat) : Int) := by
  have e : ((b.toNat : Int) % 128 * 2 ^ (7 * k)) = ((b.toNat % 128 * 128 ^ k : Nat) : Int) := by
    rw [show (128 : Nat) ^ k = 2 ^ (7 * k) from by rw [Nat.pow_mul]]
    simp
  rw [e, wrapN _ (by omega)]
  have e2 : ((n : Int) + ((b.toNat % 128 * 128 ^ k : Nat) : Int)) = ((n + b.toNat % 128 * 128 ^ k : Nat) : Int) := by simp
  rw [e2, wrapN _ h]

set_option maxHeartbeats 6400000 in
set_option maxRecDepth 1000000 in
theorem sgetNum_any (s : ByteArray) (i : Int) (w : World) (h1 : i ≤ 9223372036854775807) :
    Calls Tryd.prog 7 #[.string s, .int .i64 i] w fun e w' => e = .returned (gnVal (gn s i)) ∧ Below w.heap.size w w' := by
  by_cases hl : 8000 < s.size
  · go_enter Tryd.func7, Tryd.ntmps7
    go_wp2
    exact bodyPost_ret (v := .agg #[.int .i64 0, .int .i64 0, .int .i64 2]) (by simp [results, Tryd.results7, go_sem]) rfl ⟨ret_gn (gn_long hl), (Below.refl _ _).alloc (Nat.le_refl _) _⟩
  by_cases h0 : i < 0
  · go_enter Tryd.func7, Tryd.ntmps7
    go_wp2
    exact bodyPost_ret (v := .agg #[.int .i64 0, .int .i64 0, .int .i64 1]) (by simp [results, Tryd.results7, go_sem]) rfl ⟨ret_gn (gn_neg hl h0), (Below.refl _ _).alloc (Nat.le_refl _) _⟩
  obtain ⟨a, rfl⟩ := Int.eq_ofNat_of_zero_le (show 0 ≤ i by omega)
  go_enter Tryd.func7, Tryd.ntmps7
  go_wp2
  go_loop [5, 6] (fun vu vi => ∃ k n : Nat, k ≤ 9 ∧ vi = .int .i64 (k : Int) ∧ vu = .int .u64 (n : Int) ∧ n < 128 ^ k ∧ rd (s.data.toList.drop (a + k)) k n = rd (s.data.toList.drop a) 0 0) (fun _ vi => 10 - (intOf vi).toNat)
  case atStart => exact ⟨0, 0, by omega, rfl, rfl, by decide, rfl⟩
  case round =>
    obtain ⟨k, n, hk9, rfl, rfl, hn, hrd⟩ := hrel
    have HR : Hid (rd (s.data.toList.drop (a + k)) k n = rd (s.data.toList.drop a) 0 0) := hrd
    have hpk := pow_le9 k hk9
    clear hrd
    by_cases hlt : a + k < s.size
    · by_cases hk : k = 9
      · subst hk
        by_cases hb : 1 < (s[a + 9]'hlt).toNat
        · have HS : Hid (rd (s.data.toList.drop a) 0 0 = (3, 0, 0)) := HR.out.symm.trans (rd_wrong s (a + 9) n hlt hb)
          have hbi : 1 < ((s[a + 9]'hlt).toNat : Int) := by omega
          have hb255 := byte255 (s[a + 9]'hlt)
          clear hn hpk
          go_wp2
          exact bodyPost_ret (v := .agg #[.int .i64 0, .int .i64 0, .int .i64 3]) (by simp [results, Tryd.results7, go_sem]) rfl ⟨ret_gn (gn_bad hl HS.out (by decide)), (Below.refl _ _).alloc (Nat.le_refl _) _⟩
        · have HL : Hid (rd (s.data.toList.drop a) 0 0 = if (s[a + 9]'hlt).toNat = 0 ∧ 1 < 9 + 1 then (3, 0, 0) else (0, n + (s[a + 9]'hlt).toNat * 128 ^ 9, 9 + 1)) := HR.out.symm.trans (rd_last s (a + 9) 9 n hlt (by omega) (by omega))
          have e9 : (128 : Nat) ^ 9 = 9223372036854775808 := by decide
          have em : (s[a + 9]'hlt).toNat % 128 = (s[a + 9]'hlt).toNat := by omega
          have hbi : ((s[a + 9]'hlt).toNat : Int) ≤ 1 := by omega
          have hG0 := sgath n 9 (s[a + 9]'hlt) (by rw [em, e9]; rw [e9] at hn; omega)
          obtain ⟨M, hM⟩ : ∃ M, M = n + (s[a + 9]'hlt).toNat % 128 * 128 ^ 9 := ⟨_, rfl⟩
          have hM64 : M < 18446744073709551616 := by rw [hM, em, e9]; rw [e9] at hn; omega
          rw [← hM] at hG0
          have hG : IntKind.u64.wrap ((n : Int) + IntKind.u64.wrap (((s[a + 9]'hlt).toNat : Int) % 128 * 9223372036854775808)) = (M : Int) := hG0
          have HM : Hid (n + (s[a + 9]'hlt).toNat * 128 ^ 9 = M) := by rw [hM, em]; rfl
          have hG1 : IntKind.u64.wrap ((n : Int) + IntKind.u64.wrap (((s[a + 9]'hlt).toNat : Int) * 9223372036854775808)) = (M : Int) := by
            rw [← hG, show (((s[a + 9]'hlt).toNat : Int) % 128) = ((s[a + 9]'hlt).toNat : Int) from by omega]
          have hG2 : IntKind.u64.wrap ((n : Int) + ((s[a + 9]'hlt).toNat : Int) % 128 * 9223372036854775808) = (M : Int) := by
            rw [← hG]
            congr 2
            have e : ((s[a + 9]'hlt).toNat : Int) % 128 * 9223372036854775808 = (((s[a + 9]'hlt).toNat % 128 * 9223372036854775808 : Nat) : Int) := by simp
            rw [e, wrapN _ (by omega)]
          clear hM hG0 em e9 hn hpk
          by_cases hb0 : (s[a + 9]'hlt).toNat = 0
          · have HS : Hid (rd (s.data.toList.drop a) 0 0 = (3, 0, 0)) := by rw [HL.out, if_pos ⟨hb0, by omega⟩]; rfl
            have hbb : (((s[a + 9]'hlt).toNat : Int) == 0) = true := by simp [hb0]
            clear hb0
            go_wp2
            exact bodyPost_ret (v := .agg #[.int .i64 0, .int .i64 0, .int .i64 3]) (by simp [results, Tryd.results7, go_sem]) rfl ⟨ret_gn (gn_bad hl HS.out (by decide)), (Below.refl _ _).alloc (Nat.le_refl _) _⟩
          · have hbb : (((s[a + 9]'hlt).toNat : Int) == 0) = false := by simp [hb0]
            have HM' : Hid (rd (s.data.toList.drop a) 0 0 = (0, M, 9 + 1)) := by rw [HL.out, if_neg (fun h => hb0 h.1), HM.out]; rfl
            by_cases ho : M % 2 = 1
            · have hob : ((M : Int) % 2 == 1) = true := by simp; omega
              have HU := unf_odd ho
              have HU' : Hid (-((M : Int) / 2) - 1 = unf M) := HU
              clear HU ho
              go_wp2
              exact bodyPost_ret (v := .agg #[.int .i64 (-((M : Int) / 2) - 1), .int .i64 ((a : Int) + 9 + 1), .int .i64 0]) (by simp [results, Tryd.results7, go_sem]) rfl ⟨ret_gn (gn_ok' hl HM'.out HU'.out (by omega)), (Below.refl _ _).alloc (Nat.le_refl _) _⟩
            · have hob : ((M : Int) % 2 == 1) = false := by simp; omega
              have HU' : Hid ((M : Int) / 2 = unf M) := unf_even ho
              clear ho
              go_wp2
              exact bodyPost_ret (v := .agg #[.int .i64 ((M : Int) / 2), .int .i64 ((a : Int) + 9 + 1), .int .i64 0]) (by simp [results, Tryd.results7, go_sem]) rfl ⟨ret_gn (gn_ok' hl HM'.out HU'.out (by omega)), (Below.refl _ _).alloc (Nat.le_refl _) _⟩
      · have hkb : ((k : Int) == 9) = false := by simp; omega
        by_cases hb : (s[a + k]'hlt).toNat < 128
        · have HL : Hid (rd (s.data.toList.drop a) 0 0 = if (s[a + k]'hlt).toNat = 0 ∧ 1 < k + 1 then (3, 0, 0) else (0, n + (s[a + k]'hlt).toNat * 128 ^ k, k + 1)) := HR.out.symm.trans (rd_last s (a + k) k n hlt (by omega) hb)
          have em : (s[a + k]'hlt).toNat % 128 = (s[a + k]'hlt).toNat := Nat.mod_eq_of_lt hb
          have hst := pow_step128 n k _ hn hb
          have hp1 := pow_le9 (k + 1) (by omega)
          have hbi : ((s[a + k]'hlt).toNat : Int) < 128 := by omega
          obtain ⟨M, hM⟩ : ∃ M, M = n + (s[a + k]'hlt).toNat % 128 * 128 ^ k := ⟨_, rfl⟩
          have hM64 : M < 18446744073709551616 := by rw [hM, em]; omega
          have hG := sgath n k (s[a + k]'hlt) (by rw [em]; omega)
          rw [← hM] at hG
          have HM : Hid (n + (s[a + k]'hlt).toNat * 128 ^ k = M) := by rw [hM, em]; rfl
          have hG1 : IntKind.u64.wrap ((n : Int) + IntKind.u64.wrap (((s[a + k]'hlt).toNat : Int) * 2 ^ (7 * k))) = (M : Int) := by
            rw [← hG, show (((s[a + k]'hlt).toNat : Int) % 128) = ((s[a + k]'hlt).toNat : Int) from by omega]
          clear hM em hst hp1 hn hpk
          by_cases hb0 : (s[a + k]'hlt).toNat = 0
          · have hbb : (((s[a + k]'hlt).toNat : Int) == 0) = true := by simp [hb0]
            by_cases hk0 : 0 < k
            · have HS : Hid (rd (s.data.toList.drop a) 0 0 = (3, 0, 0)) := by rw [HL.out, if_pos ⟨hb0, by omega⟩]; rfl
              have hki : 0 < (k : Int) := by omega
              clear hb0
              go_wp2
              exact bodyPost_ret (v := .agg #[.int .i64 0, .int .i64 0, .int .i64 3]) (by simp [results, Tryd.results7, go_sem]) rfl ⟨ret_gn (gn_bad hl HS.out (by decide)), (Below.refl _ _).alloc (Nat.le_refl _) _⟩
            · have hki : ¬ 0 < (k : Int) := by omega
              have HM' : Hid (rd (s.data.toList.drop a) 0 0 = (0, M, k + 1)) := by rw [HL.out, if_neg (fun h => hk0 (by omega)), HM.out]; rfl
              by_cases ho : M % 2 = 1
              · have hob : ((M : Int) % 2 == 1) = true := by simp; omega
                have HU := unf_odd ho
                have HU' : Hid (-((M : Int) / 2) - 1 = unf M) := HU
                clear HU ho hb0 hk0
                go_wp2
                exact bodyPost_ret (v := .agg #[.int .i64 (-((M : Int) / 2) - 1), .int .i64 ((a : Int) + (k : Int) + 1), .int .i64 0]) (by simp [results, Tryd.results7, go_sem]) rfl ⟨ret_gn (gn_ok' hl HM'.out HU'.out (by omega)), (Below.refl _ _).alloc (Nat.le_refl _) _⟩
              · have hob : ((M : Int) % 2 == 1) = false := by simp; omega
                have HU' : Hid ((M : Int) / 2 = unf M) := unf_even ho
                clear ho hb0 hk0
                go_wp2
                exact bodyPost_ret (v := .agg #[.int .i64 ((M : Int) / 2), .int .i64 ((a : Int) + (k : Int) + 1), .int .i64 0]) (by simp [results, Tryd.results7, go_sem]) rfl ⟨ret_gn (gn_ok' hl HM'.out HU'.out (by omega)), (Below.refl _ _).alloc (Nat.le_refl _) _⟩
          · have hbb : (((s[a + k]'hlt).toNat : Int) == 0) = false := by simp [hb0]
            have HM' : Hid (rd (s.data.toList.drop a) 0 0 = (0, M, k + 1)) := by rw [HL.out, if_neg (fun h => hb0 h.1), HM.out]; rfl
            by_cases ho : M % 2 = 1
            · have hob : ((M : Int) % 2 == 1) = true := by simp; omega
              have HU := unf_odd ho
              have HU' : Hid (-((M : Int) / 2) - 1 = unf M) := HU
              clear HU ho
              go_wp2
              exact bodyPost_ret (v := .agg #[.int .i64 (-((M : Int) / 2) - 1), .int .i64 ((a : Int) + (k : Int) + 1), .int .i64 0]) (by simp [results, Tryd.results7, go_sem]) rfl ⟨ret_gn (gn_ok' hl HM'.out HU'.out (by omega)), (Below.refl _ _).alloc (Nat.le_refl _) _⟩
            · have hob : ((M : Int) % 2 == 1) = false := by simp; omega
              have HU' : Hid ((M : Int) / 2 = unf M) := unf_even ho
              clear ho
              go_wp2
              exact bodyPost_ret (v := .agg #[.int .i64 ((M : Int) / 2), .int .i64 ((a : Int) + (k : Int) + 1), .int .i64 0]) (by simp [results, Tryd.results7, go_sem]) rfl ⟨ret_gn (gn_ok' hl HM'.out HU'.out (by omega)), (Below.refl _ _).alloc (Nat.le_refl _) _⟩
        · have HL : Hid (rd (s.data.toList.drop (a + (k + 1))) (k + 1) (n + (s[a + k]'hlt).toNat % 128 * 128 ^ k) = rd (s.data.toList.drop a) 0 0) := (rd_more s (a + k) k n hlt (by omega) hb).symm.trans HR.out
          have hm : (s[a + k]'hlt).toNat % 128 < 128 := Nat.mod_lt _ (by decide)
          have hst := pow_step128 n k _ hn hm
          have hp1 := pow_le9 (k + 1) (by omega)
          have hbi : 128 ≤ ((s[a + k]'hlt).toNat : Int) := by omega
          have hb255 := byte255 (s[a + k]'hlt)
          obtain ⟨M, hM⟩ : ∃ M, M = n + (s[a + k]'hlt).toNat % 128 * 128 ^ k := ⟨_, rfl⟩
          have hG := sgath n k (s[a + k]'hlt) (by omega)
          rw [← hM] at hG
          have HN : Hid (M < 128 ^ (k + 1)) := by rw [hM]; exact hst
          have HL' : Hid (rd (s.data.toList.drop (a + (k + 1))) (k + 1) M = rd (s.data.toList.drop a) 0 0) := by rw [hM]; exact HL.out
          clear hM hst hp1 hm hn hpk HL
          go_wp2
          go_round
          case rel => exact ⟨k + 1, M, by omega, by go_num, rfl, HN.out, HL'.out⟩
          case measure => simp [intOf]; omega
    · have HS : Hid (rd (s.data.toList.drop a) 0 0 = (4, 0, 0)) := HR.out.symm.trans (rd_short _ _ _ _ (by simp; omega))
      clear hn hpk
      go_wp2
      exact bodyPost_ret (v := .agg #[.int .i64 0, .int .i64 0, .int .i64 4]) (by simp [results, Tryd.results7, go_sem]) rfl ⟨ret_gn (gn_bad hl HS.out (by decide)), (Below.refl _ _).alloc (Nat.le_refl _) _⟩

end Go.Proofs.YtbnchappillecadDoor
