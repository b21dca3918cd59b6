/-
  What is read of bytes as a number: plain mathematics, and the two functions that undo the folding.
-/
import Derived.Test.YtbnchappillecaaDoorRows
import Derived.WalkKit
import Derived.WalkSpells
import Derived.OwnWalk
import Derived.Outline
import Derived.Test.YtbnchappillecaaDoorScope3
namespace Go.Proofs.YtbnchappillecaaDoor
open Go.RowKit

/-- Read on at the i-th byte, with what was gathered: a code (0: read; 3: wrong; 4: too short), the number as it stands folded, how many bytes. -/
def rd : List UInt8 → Nat → Nat → Nat × Nat × Nat
  | [], _, _ => (4, 0, 0)
  | b :: t, i, u =>
    if i = 9 ∧ 1 < b.toNat then (3, 0, 0)
    else if b.toNat < 128 then (if b.toNat = 0 ∧ 0 < i then (3, 0, 0) else (0, u + b.toNat * 128 ^ i, i + 1))
    else rd t (i + 1) (u + b.toNat % 128 * 128 ^ i)
/-- Unfolded. -/
def unf (u : Nat) : Int := if u % 2 = 1 then -((u / 2 : Nat) : Int) - 1 else ((u / 2 : Nat) : Int)
theorem ret_int2 {k : IntKind} {a b : Int} (h : a = b) : Ending.returned (.int k a) = .returned (.int k b) := by rw [h]

set_option maxHeartbeats 400000 in
theorem unf_any (u : Nat) (w : World) (hu : u < 18446744073709551616) :
    Calls Tryd.prog 25 #[.int .u64 (u : Int)] w fun e w' => e = .returned (.int .i64 (unf u)) ∧ w = w' := by
  have ha : bits .and .u64 (u : Int) 1 = ((u % 2 : Nat) : Int) := by
    have := bits_mask .u64 64 (by decide) (fun n h0 h1 => by
      have e : IntKind.u64.wrap n = n % 18446744073709551616 := by simp [IntKind.wrap, IntKind.bits, IntKind.signed]
      rw [e]; omega) 1 (by decide) (u : Int) (by omega) (by omega)
    simp at this
    rw [this]; omega
  by_cases h : u % 2 = 1
  · have HU : Hid (unf u = -((u / 2 : Nat) : Int) - 1) := by unfold unf; exact if_pos h
    have hb : (((u % 2 : Nat) : Int) == 0) = false := by simp [h]
    go_enter Tryd.func25, Tryd.ntmps25
    go_wp2
    go_ret
    exact ⟨ret_int2 (by rw [HU.out]; omega), rfl⟩
  · have HU : Hid (unf u = ((u / 2 : Nat) : Int)) := by unfold unf; exact if_neg h
    have hb : (((u % 2 : Nat) : Int) == 0) = true := by simp; omega
    go_enter Tryd.func25, Tryd.ntmps25
    go_wp2
    go_ret
    exact ⟨ret_int2 (by rw [HU.out]; omega), rfl⟩

theorem rd_short (l : List UInt8) (n k u : Nat) (h : l.length ≤ n) : rd (l.drop n) k u = (4, 0, 0) := by
  rw [List.drop_eq_nil_of_le h]; rfl
theorem drop_byte (s : ByteArray) (n : Nat) (h : n < s.size) : s.data.toList.drop n = s[n] :: s.data.toList.drop (n + 1) := by
  rw [List.drop_eq_getElem_cons (by simpa using h)]; rfl
theorem rd_wrong (s : ByteArray) (n u : Nat) (h : n < s.size) (hb : 1 < (s[n]'h).toNat) : rd (s.data.toList.drop n) 9 u = (3, 0, 0) := by
  rw [drop_byte s n h, rd, if_pos ⟨rfl, hb⟩]
theorem rd_last (s : ByteArray) (n k u : Nat) (h : n < s.size) (hk : ¬ (k = 9 ∧ 1 < (s[n]'h).toNat)) (hb : (s[n]'h).toNat < 128) :
    rd (s.data.toList.drop n) k u = if (s[n]'h).toNat = 0 ∧ 1 < k + 1 then (3, 0, 0) else (0, u + (s[n]'h).toNat * 128 ^ k, k + 1) := by
  rw [drop_byte s n h, rd, if_neg hk, if_pos hb]
  congr 1
  simp
theorem rd_more (s : ByteArray) (n k u : Nat) (h : n < s.size) (hk : k < 9) (hb : ¬ (s[n]'h).toNat < 128) :
    rd (s.data.toList.drop n) k u = rd (s.data.toList.drop (n + 1)) (k + 1) (u + (s[n]'h).toNat % 128 * 128 ^ k) := by
  rw [drop_byte s n h, rd, if_neg (by omega), if_neg hb]

theorem and127b (b : UInt8) : bits .and .u8 (b.toNat : Int) 127 = ((b.toNat % 128 : Nat) : Int) := by
  have hb := b.toNat_lt
  have := bits_mask .u8 8 (by decide) wraps_u8 7 (by decide) (b.toNat : Int) (by omega) (by omega)
  simp at this
  rw [this]; omega
theorem wrapN (n : Nat) (h : n < 18446744073709551616) : IntKind.u64.wrap (n : Int) = (n : Int) := by
  have e : IntKind.u64.wrap (n : Int) = (n : Int) % 18446744073709551616 := by simp [IntKind.wrap, IntKind.bits, IntKind.signed]
  rw [e]; omega
theorem or_high (n m k : Nat) (hn : n < 128 ^ k) (h : n + m * 128 ^ k < 18446744073709551616) : bits .or .u64 (n : Int) ((m * 128 ^ k : Nat) : Int) = ((n + m * 128 ^ k : Nat) : Int) := by
  have h2 := (bits_nat .u64 64 (by decide) (fun x h0 h1 => by
      have e : IntKind.u64.wrap x = x % 18446744073709551616 := by simp [IntKind.wrap, IntKind.bits, IntKind.signed]
      rw [e]; omega) n (m * 128 ^ k) (by omega) (by omega)).2
  rw [h2]
  have e : (128 : Nat) ^ k = 2 ^ (7 * k) := by rw [Nat.pow_mul]
  rw [e] at hn ⊢
  have := Nat.two_pow_add_eq_or_of_lt hn m
  rw [Nat.or_comm, Nat.mul_comm m, ← this, Nat.add_comm]
theorem gath (n k : Nat) (b : UInt8) (hn : n < 128 ^ k) (h : n + b.toNat % 128 * 128 ^ k < 18446744073709551616) :
    bits .or .u64 (n : Int) (IntKind.u64.wrap (IntKind.u64.wrap (bits .and .u8 (b.toNat : Int) 127) * 2 ^ (7 * k))) = ((n + b.toNat % 128 * 128 ^ k : Nat) : Int) := by
  rw [and127b, wrapN _ (by omega)]
  have e : (((b.toNat % 128 : Nat) : Int) * 2 ^ (7 * k)) = ((b.toNat % 128 * 128 ^ k : Nat) : Int) := by
    rw [show (128 : Nat) ^ k = 2 ^ (7 * k) from by rw [Nat.pow_mul]]
    simp
  rw [e, wrapN _ (by omega)]
  exact or_high n _ k hn h
theorem gath9 (n : Nat) (b : UInt8) (hn : n < 128 ^ 9) (hb : b.toNat ≤ 1) :
    bits .or .u64 (n : Int) (IntKind.u64.wrap (IntKind.u64.wrap (bits .and .u8 (b.toNat : Int) 127) * 9223372036854775808)) = ((n + b.toNat * 128 ^ 9 : Nat) : Int) := by
  have e9 : (128 : Nat) ^ 9 = 9223372036854775808 := by decide
  have em : b.toNat % 128 = b.toNat := by omega
  have := gath n 9 b hn (by rw [em, e9]; rw [e9] at hn; omega)
  rw [em] at this
  exact this
theorem gath0 (b : UInt8) : bits .or .u64 0 (IntKind.u64.wrap (IntKind.u64.wrap (bits .and .u8 (b.toNat : Int) 127))) = ((b.toNat % 128 : Nat) : Int) := by
  have := gath 0 0 b (by decide) (by have := b.toNat_lt; omega)
  simpa using this
theorem pow_step128 (n k m : Nat) (hn : n < 128 ^ k) (hm : m < 128) : n + m * 128 ^ k < 128 ^ (k + 1) := by
  rw [Nat.pow_succ]
  have : (m + 1) * 128 ^ k ≤ 128 * 128 ^ k := Nat.mul_le_mul_right _ (by omega)
  rw [Nat.add_mul] at this
  omega
theorem pow_le9 (k : Nat) (h : k ≤ 9) : 128 ^ k ≤ 9223372036854775808 := by
  have := Nat.pow_le_pow_right (n := 128) (by decide) h
  have e9 : (128 : Nat) ^ 9 = 9223372036854775808 := by decide
  omega

/-- What readNum answers at a place. -/
def rdVal (s : ByteArray) (a : Nat) : Value :=
  if (rd (s.data.toList.drop a) 0 0).1 = 0 then .tuple #[.int .i64 (unf (rd (s.data.toList.drop a) 0 0).2.1), .int .i64 ((a + (rd (s.data.toList.drop a) 0 0).2.2 : Nat) : Int), .nilIface]
  else .tuple #[.int .i64 0, .int .i64 0, .iface 54 (.agg #[.int .i64 ((rd (s.data.toList.drop a) 0 0).1 : Nat)])]
theorem rdVal_bad {s : ByteArray} {a c : Nat} (h : rd (s.data.toList.drop a) 0 0 = (c, 0, 0)) (hc : c ≠ 0) : rdVal s a = .tuple #[.int .i64 0, .int .i64 0, .iface 54 (.agg #[.int .i64 (c : Nat)])] := by
  unfold rdVal; rw [h]; simp [hc]
theorem rdVal_ok {s : ByteArray} {a n k : Nat} (h : rd (s.data.toList.drop a) 0 0 = (0, n, k)) : rdVal s a = .tuple #[.int .i64 (unf n), .int .i64 ((a + k : Nat) : Int), .nilIface] := by
  unfold rdVal; rw [h]; simp
theorem ret_val {u v : Value} (h : u = v) : Ending.returned u = .returned v := by rw [h]

set_option maxHeartbeats 6400000 in
set_option maxRecDepth 1000000 in
theorem readNum_any (s : ByteArray) (a : Nat) (w : World) (ha : a ≤ 9223372036854775807) (hs : s.size ≤ 8000) :
    Calls Tryd.prog 17 #[.string s, .int .i64 (a : Int)] w fun e w' => e = .returned (rdVal s a) ∧ w = w' := by
  go_enter Tryd.func17, Tryd.ntmps17
  go_wp2
  refine wp_scope_three (fun a' w' => w' = w ∧ ∃ (k n : Nat) (c V B : Int) (u11 u12 u13 u14 u15 u16 u17 u18 u19 u20 u21 u22 u23 u24 u25 u26 u27 u28 u29 u30 u31 u32 u33 u34 u35 u36 u37 u38 u39 u40 u41 u42 u43 u44 u45 u46 u47 u48 u49 u50 u51 u52 u53 u54 u55 u56 : Value), a' = { tmps := #[.string s, .int .i64 (a : Int), undef, undef, .int .i64 0, .int .i64 0, .nilIface, .int .u64 V, .int .u8 B, .int .i64 c, .int .i64 (s.size : Int), u11, u12, u13, u14, u15, u16, u17, u18, u19, u20, u21, u22, u23, u24, u25, u26, u27, u28, u29, u30, u31, u32, u33, u34, u35, u36, u37, u38, u39, u40, u41, u42, u43, u44, u45, u46, u47, u48, u49, u50, u51, u52, u53, u54, u55, u56], defers := [] } ∧ c = (k : Int) ∧ V = (n : Int) ∧ 1 ≤ k ∧ k ≤ 9 ∧ n < 128 ^ k ∧ rd (s.data.toList.drop (a + k)) k n = rd (s.data.toList.drop a) 0 0)
    (fun a' w' => w' = w ∧ rd (s.data.toList.drop a) 0 0 = (3, 0, 0) ∧ ∃ (u0 u1 u2 u3 u4 u5 u6 u7 u8 u9 u10 u11 u12 u13 u14 u15 u16 u17 u18 u19 u20 u21 u22 u23 u24 u25 u26 u27 u28 u29 u30 u31 u32 u33 u34 u35 u36 u37 u38 u39 u40 u41 u42 u43 u44 u45 u46 u47 u48 u49 u50 u51 u52 u53 u54 u55 u56 : Value), a' = { tmps := #[u0, u1, u2, u3, u4, u5, u6, u7, u8, u9, u10, u11, u12, u13, u14, u15, u16, u17, u18, u19, u20, u21, u22, u23, u24, u25, u26, u27, u28, u29, u30, u31, u32, u33, u34, u35, u36, u37, u38, u39, u40, u41, u42, u43, u44, u45, u46, u47, u48, u49, u50, u51, u52, u53, u54, u55, u56], defers := [] })
    (fun a' w' => w' = w ∧ ∃ (k n b : Nat) (c V B : Int) (u11 u12 u13 u14 u15 u16 u17 u18 u19 u20 u21 u22 u23 u24 u25 u26 u27 u28 u29 u30 u31 u32 u33 u34 u35 u36 u37 u38 u39 u40 u41 u42 u43 u44 u45 u46 u47 u48 u49 u50 u51 u52 u53 u54 u55 u56 : Value), a' = { tmps := #[.string s, .int .i64 (a : Int), undef, undef, .int .i64 0, .int .i64 0, .nilIface, .int .u64 V, .int .u8 B, .int .i64 c, .int .i64 (s.size : Int), u11, u12, u13, u14, u15, u16, u17, u18, u19, u20, u21, u22, u23, u24, u25, u26, u27, u28, u29, u30, u31, u32, u33, u34, u35, u36, u37, u38, u39, u40, u41, u42, u43, u44, u45, u46, u47, u48, u49, u50, u51, u52, u53, u54, u55, u56], defers := [] } ∧ c = (k : Int) ∧ V = (n : Int) ∧ B = (b : Int) ∧ 1 ≤ k ∧ k ≤ 10 ∧ a + k ≤ s.size ∧ n < 18446744073709551616 ∧ b < 128 ∧ rd (s.data.toList.drop a) 0 0 = if b = 0 ∧ 1 < k then (3, 0, 0) else (0, n, k)) (fun a' _ => 10 - (intOf (a'.tmps.getD 9 undef)).toNat) rfl rfl rfl ?_ ?_ ?_ ?_
  · by_cases hlt : a < s.size
    · by_cases hb : (s[a]'hlt).toNat < 128
      · have HL := rd_last s a 0 0 hlt (by omega) hb
        have HG := gath0 (s[a]'hlt)
        have hbi : ((s[a]'hlt).toNat : Int) < 128 := by omega
        have HL' : Hid (rd (s.data.toList.drop a) 0 0 = if (s[a]'hlt).toNat = 0 ∧ 1 < 0 + 1 then (3, 0, 0) else (0, 0 + (s[a]'hlt).toNat * 128 ^ 0, 0 + 1)) := HL
        have HG' : Hid (bits .or .u64 0 (IntKind.u64.wrap (IntKind.u64.wrap (bits .and .u8 ((s[a]'hlt).toNat : Int) 127))) = (((s[a]'hlt).toNat % 128 : Nat) : Int)) := HG
        clear HL HG
        go_wp2
        go_step3
        go_wp2
        go_step3
        refine then_goto (jump3_2 ?_)
        refine ⟨rfl, 1, (s[a]'hlt).toNat, (s[a]'hlt).toNat, _, _, _, _, _, _, _, _, _, _, _, _, _, _, _, _, _, _, _, _, _, _, _, _, _, _, _, _, _, _, _, _, _, _, _, _, _, _, _, _, _, _, _, _, _, _, _, _, _, rfl, rfl, ?_, rfl, by omega, by omega, by omega, by omega, hb, ?_⟩
        · rw [HG'.out]; omega
        · rw [HL'.out]; simp
      · have HL : Hid (rd (s.data.toList.drop a) 0 0 = rd (s.data.toList.drop (a + 1)) (0 + 1) (0 + (s[a]'hlt).toNat % 128 * 128 ^ 0)) := rd_more s a 0 0 hlt (by omega) hb
        have HG' : Hid (bits .or .u64 0 (IntKind.u64.wrap (IntKind.u64.wrap (bits .and .u8 ((s[a]'hlt).toNat : Int) 127))) = (((s[a]'hlt).toNat % 128 : Nat) : Int)) := gath0 _
        have hbi : 128 ≤ ((s[a]'hlt).toNat : Int) := by omega
        go_wp2
        go_step3
        go_wp2
        go_step3
        refine then_goto (jump3_0 ?_)
        refine ⟨rfl, 1, (s[a]'hlt).toNat % 128, _, _, _, _, _, _, _, _, _, _, _, _, _, _, _, _, _, _, _, _, _, _, _, _, _, _, _, _, _, _, _, _, _, _, _, _, _, _, _, _, _, _, _, _, _, _, _, _, _, rfl, rfl, HG'.out, by omega, by omega, by omega, ?_⟩
        rw [HL.out]; simp
    · have HL : Hid (rd (s.data.toList.drop a) 0 0 = (4, 0, 0)) := rd_short _ _ _ _ (by simp; omega)
      go_wp2
      go_step3
      go_wp2
      refine jump3_ret ?_
      go_ret3
      exact ⟨ret_val (rdVal_bad HL.out (by decide)).symm, rfl⟩
  · rintro a' w' ⟨rfl, hrd, u0, u1, u2, u3, u4, u5, u6, u7, u8, u9, u10, u11, u12, u13, u14, u15, u16, u17, u18, u19, u20, u21, u22, u23, u24, u25, u26, u27, u28, u29, u30, u31, u32, u33, u34, u35, u36, u37, u38, u39, u40, u41, u42, u43, u44, u45, u46, u47, u48, u49, u50, u51, u52, u53, u54, u55, u56, rfl⟩
    have HR : Hid (rd (s.data.toList.drop a) 0 0 = (3, 0, 0)) := hrd
    clear hrd
    go_wp2
    refine jump3_ret ?_
    go_ret3
    exact ⟨ret_val (rdVal_bad HR.out (by decide)).symm, rfl⟩
  · rintro a' w' ⟨rfl, k, n, b, c, V, B, u11, u12, u13, u14, u15, u16, u17, u18, u19, u20, u21, u22, u23, u24, u25, u26, u27, u28, u29, u30, u31, u32, u33, u34, u35, u36, u37, u38, u39, u40, u41, u42, u43, u44, u45, u46, u47, u48, u49, u50, u51, u52, u53, u54, u55, u56, rfl, rfl, rfl, rfl, hk1, hk10, hak, hn, hb, hrd⟩
    by_cases hb0 : b = 0 ∧ 1 < k
    · rw [if_pos hb0] at hrd
      have HR : Hid (rd (s.data.toList.drop a) 0 0 = (3, 0, 0)) := hrd
      obtain ⟨rfl, hk⟩ := hb0
      clear hrd
      go_wp2
      go_step3
      refine then_goto (jump3_1 ?_)
      exact ⟨rfl, HR.out, _, _, _, _, _, _, _, _, _, _, _, _, _, _, _, _, _, _, _, _, _, _, _, _, _, _, _, _, _, _, _, _, _, _, _, _, _, _, _, _, _, _, _, _, _, _, _, _, _, _, _, _, _, _, _, _, _, rfl⟩
    · rw [if_neg hb0] at hrd
      have HR : Hid (rd (s.data.toList.drop a) 0 0 = (0, n, k)) := hrd
      clear hrd
      have HC : Hid (∀ w, Calls Tryd.prog 25 #[.int .u64 (n : Int)] w fun e w' => e = .returned (.int .i64 (unf n)) ∧ w = w') := fun w => unf_any n w hn
      by_cases hb1 : b = 0
      · have hk : ¬ 1 < k := fun h => hb0 ⟨hb1, h⟩
        have hk' : ¬ (1 : Int) < (k : Int) := by omega
        subst hb1
        clear hb0
        go_wp2_with (go_at_call 25; refine (HC.out _).mono ?_; rintro e w1 ⟨rfl, rfl⟩)
        refine jump3_ret ?_
        go_ret3
        exact ⟨ret_val (rdVal_ok HR.out).symm, rfl⟩
      · have hbb : ((b : Int) == 0) = false := by simp [hb1]
        clear hb0
        go_wp2_with (go_at_call 25; refine (HC.out _).mono ?_; rintro e w1 ⟨rfl, rfl⟩)
        refine jump3_ret ?_
        go_ret3
        exact ⟨ret_val (rdVal_ok HR.out).symm, rfl⟩
  · rintro a' w' ⟨rfl, k, n, c, V, B, u11, u12, u13, u14, u15, u16, u17, u18, u19, u20, u21, u22, u23, u24, u25, u26, u27, u28, u29, u30, u31, u32, u33, u34, u35, u36, u37, u38, u39, u40, u41, u42, u43, u44, u45, u46, u47, u48, u49, u50, u51, u52, u53, u54, u55, u56, rfl, rfl, rfl, hk1, hk9, hn, hrd⟩
    have HR : Hid (rd (s.data.toList.drop (a + k)) k n = rd (s.data.toList.drop a) 0 0) := hrd
    have hpk := pow_le9 k hk9
    clear hrd
    by_cases hlt : a + k < s.size
    · by_cases hk : k = 9
      · subst hk
        by_cases hb : 1 < (s[a + 9]'hlt).toNat
        · have HL : Hid (rd (s.data.toList.drop a) 0 0 = (3, 0, 0)) := HR.out.symm.trans (rd_wrong s (a + 9) n hlt hb)
          have hbi : 1 < ((s[a + 9]'hlt).toNat : Int) := by omega
          clear hn hpk
          go_wp2
          go_step3
          refine then_goto (jump3_1 ?_)
          exact ⟨rfl, HL.out, _, _, _, _, _, _, _, _, _, _, _, _, _, _, _, _, _, _, _, _, _, _, _, _, _, _, _, _, _, _, _, _, _, _, _, _, _, _, _, _, _, _, _, _, _, _, _, _, _, _, _, _, _, _, _, _, _, rfl⟩
        · have HL : Hid (rd (s.data.toList.drop a) 0 0 = if (s[a + 9]'hlt).toNat = 0 ∧ 1 < 9 + 1 then (3, 0, 0) else (0, n + (s[a + 9]'hlt).toNat * 128 ^ 9, 9 + 1)) := HR.out.symm.trans (rd_last s (a + 9) 9 n hlt (by omega) (by omega))
          have HG : Hid (bits .or .u64 (n : Int) (IntKind.u64.wrap (IntKind.u64.wrap (bits .and .u8 ((s[a + 9]'hlt).toNat : Int) 127) * 9223372036854775808)) = ((n + (s[a + 9]'hlt).toNat * 128 ^ 9 : Nat) : Int)) := gath9 n _ hn (by omega)
          have hbi : ((s[a + 9]'hlt).toNat : Int) ≤ 1 := by omega
          have HN : Hid (n < 128 ^ 9) := hn
          clear hn hpk
          go_wp2
          go_step3
          refine then_goto (jump3_2 ?_)
          refine ⟨rfl, 10, n + (s[a + 9]'hlt).toNat * 128 ^ 9, (s[a + 9]'hlt).toNat, _, _, _, _, _, _, _, _, _, _, _, _, _, _, _, _, _, _, _, _, _, _, _, _, _, _, _, _, _, _, _, _, _, _, _, _, _, _, _, _, _, _, _, _, _, _, _, _, _, rfl, rfl, HG.out, rfl, by omega, by omega, by omega, ?_, by omega, HL.out⟩
          have h9 : n < 9223372036854775808 := HN.out
          have e9 : (128 : Nat) ^ 9 = 9223372036854775808 := by decide
          rw [e9]; omega
      · have hkne : ¬ ((k : Int) + 1 = 10) := by omega
        have hkb : ((k : Int) + 1 == 10) = false := by simp; omega
        by_cases hb : (s[a + k]'hlt).toNat < 128
        · have HL : Hid (rd (s.data.toList.drop a) 0 0 = if (s[a + k]'hlt).toNat = 0 ∧ 1 < k + 1 then (3, 0, 0) else (0, n + (s[a + k]'hlt).toNat * 128 ^ k, k + 1)) := HR.out.symm.trans (rd_last s (a + k) k n hlt (by omega) hb)
          have hst := pow_step128 n k _ hn hb
          have hp1 := pow_le9 (k + 1) (by omega)
          have HG0 := gath n k (s[a + k]'hlt) hn (by rw [Nat.mod_eq_of_lt hb]; omega)
          rw [Nat.mod_eq_of_lt hb] at HG0
          have HG : Hid (bits .or .u64 (n : Int) (IntKind.u64.wrap (IntKind.u64.wrap (bits .and .u8 ((s[a + k]'hlt).toNat : Int) 127) * 2 ^ (7 * k))) = ((n + (s[a + k]'hlt).toNat * 128 ^ k : Nat) : Int)) := HG0
          have hbi : ((s[a + k]'hlt).toNat : Int) < 128 := by omega
          have HN : Hid (n + (s[a + k]'hlt).toNat * 128 ^ k < 18446744073709551616) := show _ < _ by omega
          clear hn hpk hst hp1 HG0
          go_wp2
          go_step3
          refine then_goto (jump3_2 ?_)
          exact ⟨rfl, k + 1, n + (s[a + k]'hlt).toNat * 128 ^ k, (s[a + k]'hlt).toNat, _, _, _, _, _, _, _, _, _, _, _, _, _, _, _, _, _, _, _, _, _, _, _, _, _, _, _, _, _, _, _, _, _, _, _, _, _, _, _, _, _, _, _, _, _, _, _, _, _, rfl, by omega, HG.out, rfl, by omega, by omega, by omega, HN.out, hb, HL.out⟩
        · have HL : Hid (rd (s.data.toList.drop (a + (k + 1))) (k + 1) (n + (s[a + k]'hlt).toNat % 128 * 128 ^ k) = rd (s.data.toList.drop a) 0 0) := (rd_more s (a + k) k n hlt (by omega) hb).symm.trans HR.out
          have hm : (s[a + k]'hlt).toNat % 128 < 128 := Nat.mod_lt _ (by decide)
          have hst := pow_step128 n k _ hn hm
          have hp1 := pow_le9 (k + 1) (by omega)
          have HG : Hid (bits .or .u64 (n : Int) (IntKind.u64.wrap (IntKind.u64.wrap (bits .and .u8 ((s[a + k]'hlt).toNat : Int) 127) * 2 ^ (7 * k))) = ((n + (s[a + k]'hlt).toNat % 128 * 128 ^ k : Nat) : Int)) := gath n k _ hn (by omega)
          have hbi : 128 ≤ ((s[a + k]'hlt).toNat : Int) := by omega
          have HN : Hid (n + (s[a + k]'hlt).toNat % 128 * 128 ^ k < 128 ^ (k + 1)) := hst
          clear hn hpk hst hp1 hm
          go_wp2
          go_step3
          refine then_goto (jump3_0 ?_)
          refine ⟨⟨rfl, k + 1, n + (s[a + k]'hlt).toNat % 128 * 128 ^ k, _, _, _, _, _, _, _, _, _, _, _, _, _, _, _, _, _, _, _, _, _, _, _, _, _, _, _, _, _, _, _, _, _, _, _, _, _, _, _, _, _, _, _, _, _, _, _, _, _, rfl, by omega, HG.out, by omega, by omega, HN.out, HL.out⟩, ?_⟩
          simp [intOf]
          omega
    · have HL : Hid (rd (s.data.toList.drop a) 0 0 = (4, 0, 0)) := HR.out.symm.trans (rd_short _ _ _ _ (by simp; omega))
      clear hn hpk
      go_wp2
      refine jump3_ret ?_
      go_ret3
      exact ⟨ret_val (rdVal_bad HL.out (by decide)).symm, rfl⟩

end Go.Proofs.YtbnchappillecaaDoor
