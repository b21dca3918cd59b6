/-
  plainNumber of the program, l02Num of the specification: the number that digits say.
-/
import Derived.Test.YtbpnmhebhmakdaaDoorQMath
namespace Go.Proofs.YtbpnmhebhmakdaaDoor
open Go.RowKit

/-- The first p bytes are digits, and n is what they say. -/
def DigAt (s : ByteArray) (p : Nat) (n : Int) : Prop := p ≤ s.size ∧ (∀ j (h : j < s.size), j < p → isDig (s[j]'h)) ∧ n = (val (s.data.toList.take p) : Nat)
theorem list_at (s : ByteArray) (j : Nat) (h : j < s.size) : s.data.toList[j]'(by rw [← Lib.size_eq]; exact h) = s[j]'h := by
  rw [Array.getElem_toList]; rfl
theorem DigAt.zero (s : ByteArray) : DigAt s 0 0 := ⟨Nat.zero_le _, fun j _ h => by omega, by simp [val]⟩
theorem DigAt.step {s : ByteArray} {p : Nat} {n : Int} (h : DigAt s p n) (hp : p < s.size) (h1 : 48 ≤ ((s[p]'hp).toNat : Int)) (h2 : ((s[p]'hp).toNat : Int) ≤ 57) : DigAt s (p + 1) (10 * n + (((s[p]'hp).toNat : Int) - 48)) := by
  obtain ⟨a, b, c⟩ := h
  refine ⟨by omega, fun j hj hk => ?_, ?_⟩
  · by_cases e : j = p
    · subst e; unfold isDig; omega
    · exact b j hj (by omega)
  · rw [val_take_succ _ _ (by rw [← Lib.size_eq]; exact hp), list_at s p hp]
    omega
theorem DigAt.nonneg {s : ByteArray} {p : Nat} {n : Int} (h : DigAt s p n) : 0 ≤ n := by have := h.2.2; omega
theorem DigAt.bd {s : ByteArray} {p : Nat} {n : Int} (h : DigAt s p n) (h9 : s.size ≤ 9) : n < 1000000000 := by
  obtain ⟨a, b, c⟩ := h
  have h1 : val (s.data.toList.take p) < 10 ^ (s.data.toList.take p).length := val_lt _ fun x hx => by
    obtain ⟨j, hj, rfl⟩ := List.mem_iff_getElem.1 hx
    rw [List.getElem_take]
    rw [List.length_take] at hj
    have hj2 : j < s.size := by omega
    rw [list_at s j hj2]
    exact b j hj2 (by omega)
  have h2 : (s.data.toList.take p).length ≤ 9 := by rw [List.length_take, ← Lib.size_eq]; omega
  have h3 : 10 ^ (s.data.toList.take p).length ≤ 10 ^ 9 := Nat.pow_le_pow_right (by decide) h2
  omega
theorem DigAt.all {s : ByteArray} {n : Int} (h : DigAt s s.size n) : n = (val s.data.toList : Nat) := by
  rw [h.2.2, List.take_of_length_le (by rw [← Lib.size_eq]; exact Nat.le_refl _)]
/-- The text is a number's digits. -/
def IsDec (s : ByteArray) (k : Nat) : Prop := s.data.toList = Lib.decDigits k
theorem IsDec.dig {s : ByteArray} {k : Nat} (h : IsDec s k) (j : Nat) (hj : j < s.size) : 48 ≤ ((s[j]'hj).toNat : Int) ∧ ((s[j]'hj).toNat : Int) ≤ 57 := by
  have := dec_dig k (s[j]'hj) (by rw [← list_at s j hj, ← h]; exact List.getElem_mem _)
  unfold isDig at this; omega
theorem IsDec.pos {s : ByteArray} {k : Nat} (h : IsDec s k) : 0 < s.size := by
  rw [Lib.size_eq, h]; exact List.length_pos_iff.2 (dec_ne k)
theorem IsDec.head {s : ByteArray} {k : Nat} (h : IsDec s k) (hs : 1 < s.size) (h0 : 0 < s.size) : ¬ ((s[0]'h0).toNat : Int) = 48 := by
  intro e
  have h1 := dec_head k (by rw [← h, ← Lib.size_eq]; exact hs)
  apply h1
  rw [← h, List.getElem?_eq_getElem (by rw [← Lib.size_eq]; exact h0), list_at s 0 h0]
  congr 1
  apply UInt8.toNat_inj.1
  have : (48 : UInt8).toNat = 48 := rfl
  omega
theorem IsDec.val {s : ByteArray} {k : Nat} (h : IsDec s k) : Go.Proofs.YtbpnmhebhmakdaaDoor.val s.data.toList = k := by rw [h, dec_val]
theorem IsDec.le {s : ByteArray} {k p : Nat} {n : Int} (h : IsDec s k) (hd : DigAt s p n) : n ≤ k := by
  have := val_take_le s.data.toList p
  rw [h.val] at this
  rw [hd.2.2]; omega

/-- The number of digits, no more than m. -/
def PnIs (s : ByteArray) (m c : Int) (b : Bool) : Prop := 0 ≤ c ∧ c ≤ m ∧ ∀ k : Nat, IsDec s k → (k : Int) ≤ m → c = k ∧ b = true
def PnAns (s : ByteArray) (m : Int) (w : World) (e : Ending) (w' : World) : Prop := ∃ c b, e = .returned (.tuple #[.int .i64 c, .bool b]) ∧ PnIs s m c b ∧ Below w.heap.size w w'
theorem pn_no {s : ByteArray} {m : Int} (hm : 0 ≤ m) (h : ∀ k : Nat, IsDec s k → (k : Int) ≤ m → False) : PnIs s m 0 false := ⟨Int.le_refl _, hm, fun k h1 h2 => (h k h1 h2).elim⟩
theorem pn_yes {s : ByteArray} {m n : Int} (h : DigAt s s.size n) (hm : n ≤ m) : PnIs s m n true := ⟨h.nonneg, hm, fun k h1 _ => ⟨by rw [h.all, h1.val], rfl⟩⟩

theorem decide_high_rune (s : ByteArray) (p : Nat) (hp : p < s.size) (h : 128 ≤ (s[p]'hp).toNat) : 57 < ((Utf8.decode s p).1 : Int) := by
  have := (decode_high s p hp h).1
  omega
theorem toList_ne {s : ByteArray} (h : 0 < s.size) : s.toList.isEmpty = false := by
  rw [Lib.toList_data]
  cases e : s.data.toList with
  | nil => rw [Lib.size_eq, e] at h; simp at h
  | cons a l => rfl
theorem mono_step {s : ByteArray} {p : Nat} {n m : Int} (h : DigAt s p n) (hm : m < n) (k : Nat) (hk : IsDec s k) (h2 : (k : Int) ≤ m) : False := by
  have := hk.le h
  omega

set_option maxHeartbeats 1600000 in
theorem ipnum_any (s : ByteArray) (m : Int) (w : World) (hs : s.size ≤ 8000) (hm : 0 ≤ m) (hm2 : m ≤ 1048576) :
    Calls Tryd.prog 44 #[.string s, .int .i64 m] w (PnAns s m w) := by
  by_cases h0 : s = ⟨#[]⟩
  · subst h0
    have HP : Hid (PnIs ⟨#[]⟩ m 0 false) := pn_no hm fun k h1 _ => absurd h1.pos (by decide)
    go_enter Tryd.func44, Tryd.ntmps44
    go_wp2
    exact bodyPost_ret (v := .tuple #[.int .i64 0, .bool false]) (by simp [results, Tryd.results44, go_sem]) rfl ⟨_, _, rfl, HP.out, Below.refl _ _⟩
  have h0' : 0 < s.size := by
    rcases Nat.eq_zero_or_pos s.size with h | h
    · exact absurd (bytes_ext (List.eq_nil_of_length_eq_zero (by rw [← Lib.size_eq]; exact h))) h0
    · exact h
  have hne := toList_ne h0'
  clear h0
  by_cases hA : ((s[0]'h0').toNat : Int) = 48 ∧ 1 < s.size
  · have HP : Hid (PnIs s m 0 false) := pn_no hm fun k h1 _ => absurd hA.1 (h1.head hA.2 h0')
    have hA1 : (((s[0]'h0').toNat : Int) == 48) = true := by simp [hA.1]
    have hA2 : decide (1 < (s.size : Int)) = true := by have := hA.2; simp; omega
    clear hA
    go_enter Tryd.func44, Tryd.ntmps44
    go_wp2
    exact bodyPost_ret (v := .tuple #[.int .i64 0, .bool false]) (by simp [results, Tryd.results44, go_sem]) rfl ⟨_, _, rfl, HP.out, Below.refl _ _⟩
  have hB : ((((s[0]'h0').toNat : Int) == 48) = true ∧ decide (1 < (s.size : Int)) = false) ∨ (((s[0]'h0').toNat : Int) == 48) = false := by
    by_cases h : ((s[0]'h0').toNat : Int) = 48
    · left; exact ⟨by simp [h], by simp; omega⟩
    · right; simp [h]
  clear hA
  rcases hB with ⟨hB1, hB2⟩ | hB1
  all_goals
    go_enter Tryd.func44, Tryd.ntmps44
    go_wp2
    go_loopw [6] (fun n wr => ∃ (p : Nat) (a : Int), wr = w.iter s p ∧ n = .int .i64 a ∧ DigAt s p a ∧ a ≤ m) (fun _ wr => s.size - wr.iterPos w.heap.size)
    case atStart => exact ⟨0, 0, rfl, rfl, DigAt.zero s, hm⟩
    case round =>
      obtain ⟨p, a, rfl, rfl, hd, ha⟩ := hrel
      have hd0 := hd.nonneg
      have HD : Hid (DigAt s p a) := hd
      clear hd
      by_cases hp : p < s.size
      · have hwp := w.iter_heap s p
        rcases (show (128 ≤ (s[p]'hp).toNat) ∨ ((s[p]'hp).toNat < 128 ∧ ((s[p]'hp).toNat : Int) < 48) ∨ ((s[p]'hp).toNat < 128 ∧ 57 < ((s[p]'hp).toNat : Int)) ∨ ((s[p]'hp).toNat < 128 ∧ 48 ≤ ((s[p]'hp).toNat : Int) ∧ ((s[p]'hp).toNat : Int) ≤ 57) by omega) with hx | ⟨hx, hy⟩ | ⟨hx, hy⟩ | ⟨hx, hy, hz⟩
        · have HP : Hid (PnIs s m 0 false) := pn_no hm fun k h1 _ => by have := h1.dig p hp; omega
          have hr := (decide_high_rune s p hp hx)
          have hnx : ∀ ty, (Instr.next (.pointer (some ⟨w.heap.size, 0, none⟩)) true ty).run Tryd.prog (w.iter s p) = _ := fun ty => run_next_any w s p ty hp
          generalize (Utf8.decode s p).1 = rr at hnx hr
          go_wp2
          exact bodyPost_ret (v := .tuple #[.int .i64 0, .bool false]) (by simp [results, Tryd.results44, go_sem]) rfl ⟨_, _, rfl, HP.out, (Below.refl _ _).alloc (Nat.le_refl _) _⟩
        · have HP : Hid (PnIs s m 0 false) := pn_no hm fun k h1 _ => by have := h1.dig p hp; omega
          have hnx : ∀ ty, (Instr.next (.pointer (some ⟨w.heap.size, 0, none⟩)) true ty).run Tryd.prog (w.iter s p) = _ := fun ty => run_next_ascii w s p ty hp hx
          go_wp2
          exact bodyPost_ret (v := .tuple #[.int .i64 0, .bool false]) (by simp [results, Tryd.results44, go_sem]) rfl ⟨_, _, rfl, HP.out, (Below.refl _ _).alloc (Nat.le_refl _) _⟩
        · have HP : Hid (PnIs s m 0 false) := pn_no hm fun k h1 _ => by have := h1.dig p hp; omega
          have hnx : ∀ ty, (Instr.next (.pointer (some ⟨w.heap.size, 0, none⟩)) true ty).run Tryd.prog (w.iter s p) = _ := fun ty => run_next_ascii w s p ty hp hx
          go_wp2
          exact bodyPost_ret (v := .tuple #[.int .i64 0, .bool false]) (by simp [results, Tryd.results44, go_sem]) rfl ⟨_, _, rfl, HP.out, (Below.refl _ _).alloc (Nat.le_refl _) _⟩
        · have hnx : ∀ ty, (Instr.next (.pointer (some ⟨w.heap.size, 0, none⟩)) true ty).run Tryd.prog (w.iter s p) = _ := fun ty => run_next_ascii w s p ty hp hx
          by_cases hm3 : m < 10 * a + (((s[p]'hp).toNat : Int) - 48)
          · have HP : Hid (PnIs s m 0 false) := pn_no hm (mono_step (HD.out.step hp hy hz) hm3)
            go_wp2
            exact bodyPost_ret (v := .tuple #[.int .i64 0, .bool false]) (by simp [results, Tryd.results44, go_sem]) rfl ⟨_, _, rfl, HP.out, (Below.refl _ _).alloc (Nat.le_refl _) _⟩
          · go_wp2
            go_roundw
            case rel => exact ⟨p + 1, _, rfl, rfl, HD.out.step hp hy hz, by omega⟩
            case measure => simp; omega
      · have hnx : ∀ ty, (Instr.next (.pointer (some ⟨w.heap.size, 0, none⟩)) true ty).run Tryd.prog (w.iter s p) = _ := fun ty => run_next_end w s p ty hp
        have he : p = s.size := by have := HD.out.1; omega
        subst he
        go_wp2
        exact bodyPost_ret (v := .tuple #[.int .i64 a, .bool true]) (by simp [results, Tryd.results44, go_sem]) rfl ⟨_, _, rfl, pn_yes HD.out ha, (Below.refl _ _).alloc (Nat.le_refl _) _⟩

/-- The number of at most nine digits; else less than nought. -/
def NumIs (s : ByteArray) (v : Int) : Prop := -1 ≤ v ∧ v < 1000000000 ∧ ∀ k : Nat, IsDec s k → s.size ≤ 9 → v = k
theorem num_no {s : ByteArray} (h : ∀ k : Nat, IsDec s k → s.size ≤ 9 → False) : NumIs s (-1) := ⟨Int.le_refl _, by decide, fun k h1 h2 => (h k h1 h2).elim⟩
theorem num_yes {s : ByteArray} {n : Int} (h : DigAt s s.size n) (h9 : s.size ≤ 9) : NumIs s n := ⟨by have := h.nonneg; omega, h.bd h9, fun k h1 _ => by rw [h.all, h1.val]⟩

set_option maxHeartbeats 1600000 in
theorem snum_any (s : ByteArray) (w : World) (hs : s.size ≤ 9223372036854775807) :
    Calls Tryd.prog 21 #[.string s] w fun e w' => (∃ v, e = .returned (.int .i64 v) ∧ NumIs s v) ∧ w = w' := by
  by_cases h0 : s.size < 1
  · have HP : Hid (NumIs s (-1)) := num_no fun k h1 _ => by have := h1.pos; omega
    go_enter Tryd.func21, Tryd.ntmps21
    go_wp2
    go_ret
    exact ⟨⟨_, rfl, HP.out⟩, rfl⟩
  by_cases h9 : 9 < s.size
  · have HP : Hid (NumIs s (-1)) := num_no fun k h1 _ => by omega
    go_enter Tryd.func21, Tryd.ntmps21
    go_wp2
    go_ret
    exact ⟨⟨_, rfl, HP.out⟩, rfl⟩
  have h0' : 0 < s.size := by omega
  by_cases hA : ((s[0]'h0').toNat : Int) = 48 ∧ 1 < s.size
  · have HP : Hid (NumIs s (-1)) := num_no fun k h1 _ => absurd hA.1 (h1.head hA.2 h0')
    have hA1 : (((s[0]'h0').toNat : Int) == 48) = true := by simp [hA.1]
    have hA2 : decide (1 < (s.size : Int)) = true := by have := hA.2; simp; omega
    clear hA
    go_enter Tryd.func21, Tryd.ntmps21
    go_wp2
    go_ret
    exact ⟨⟨_, rfl, HP.out⟩, rfl⟩
  have hB : (decide (1 < (s.size : Int)) = true ∧ (((s[0]'h0').toNat : Int) == 48) = false) ∨ decide (1 < (s.size : Int)) = false := by
    by_cases h : 1 < s.size
    · left; exact ⟨by simp; omega, by simp; omega⟩
    · right; simp; omega
  clear hA
  rcases hB with ⟨hB1, hB2⟩ | hB1
  all_goals
    go_enter Tryd.func21, Tryd.ntmps21
    go_wp2
    clear hB1
    go_loop [3, 4] (fun n i => ∃ (p : Nat) (a : Int), i = .int .i64 p ∧ n = .int .i64 a ∧ DigAt s p a) (fun _ i => s.size - (intOf i).toNat)
    case atStart => exact ⟨0, 0, rfl, rfl, DigAt.zero s⟩
    case round =>
      obtain ⟨p, a, rfl, rfl, hd⟩ := hrel
      have hd0 := hd.nonneg
      have hd1 := hd.bd (by omega)
      have HD : Hid (DigAt s p a) := hd
      clear hd
      by_cases hp : p < s.size
      · rcases (show (((s[p]'hp).toNat : Int) < 48) ∨ (48 ≤ ((s[p]'hp).toNat : Int) ∧ 57 < ((s[p]'hp).toNat : Int)) ∨ (48 ≤ ((s[p]'hp).toNat : Int) ∧ ((s[p]'hp).toNat : Int) ≤ 57) by omega) with hy | ⟨hx, hy⟩ | ⟨hy, hz⟩
        · have HP : Hid (NumIs s (-1)) := num_no fun k h1 _ => by have := h1.dig p hp; omega
          go_wp2
          go_ret
          exact ⟨⟨_, rfl, HP.out⟩, rfl⟩
        · have HP : Hid (NumIs s (-1)) := num_no fun k h1 _ => by have := h1.dig p hp; omega
          go_wp2
          go_ret
          exact ⟨⟨_, rfl, HP.out⟩, rfl⟩
        · go_wp2
          go_round
          case rel => exact ⟨p + 1, _, by go_num, rfl, HD.out.step hp hy hz⟩
          case measure => simp [intOf]; omega
      · have he : p = s.size := by have := HD.out.1; omega
        subst he
        have HN : Hid (NumIs s a) := num_yes HD.out (by omega)
        go_wp2
        go_ret
        exact ⟨⟨_, rfl, HN.out⟩, rfl⟩

end Go.Proofs.YtbpnmhebhmakdaaDoor
