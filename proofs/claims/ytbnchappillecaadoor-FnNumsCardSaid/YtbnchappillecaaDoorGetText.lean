/-
  What GetText answers, in the program and in the specification.
-/
import Derived.Test.YtbnchappillecaaDoorSGetNum
import Derived.Test.YtbnchappillecaaDoorCut
import Derived.Test.YtbnchappillecaaDoorEqText
namespace Go.Proofs.YtbnchappillecaaDoor
open Go.RowKit

/-- What is read as a text at a place: the text, the place behind it, a code. -/
def rt (s : ByteArray) (a : Nat) : ByteArray × Int × Int :=
  if (rd (s.data.toList.drop a) 0 0).1 = 0 then
    (if unf (rd (s.data.toList.drop a) 0 0).2.1 < 0 ∨ 8000 < unf (rd (s.data.toList.drop a) 0 0).2.1 then (⟨#[]⟩, 0, 3)
     else if (s.size : Int) - ((a + (rd (s.data.toList.drop a) 0 0).2.2 : Nat) : Int) < unf (rd (s.data.toList.drop a) 0 0).2.1 then (⟨#[]⟩, 0, 4)
     else (s.extract (a + (rd (s.data.toList.drop a) 0 0).2.2) (a + (rd (s.data.toList.drop a) 0 0).2.2 + (unf (rd (s.data.toList.drop a) 0 0).2.1).toNat), ((a + (rd (s.data.toList.drop a) 0 0).2.2 : Nat) : Int) + unf (rd (s.data.toList.drop a) 0 0).2.1, 0))
  else (⟨#[]⟩, 0, ((rd (s.data.toList.drop a) 0 0).1 : Nat))
theorem rt_bad {s : ByteArray} {a c : Nat} (hr : rd (s.data.toList.drop a) 0 0 = (c, 0, 0)) (hc : c ≠ 0) : rt s a = (⟨#[]⟩, 0, (c : Int)) := by
  unfold rt; rw [hr]; simp [hc]
theorem rt_out {s : ByteArray} {a n m : Nat} (hr : rd (s.data.toList.drop a) 0 0 = (0, n, m)) (h : unf n < 0 ∨ 8000 < unf n) : rt s a = (⟨#[]⟩, 0, 3) := by
  unfold rt; rw [hr]; simp [h]
theorem rt_short {s : ByteArray} {a n m : Nat} (hr : rd (s.data.toList.drop a) 0 0 = (0, n, m)) (h : ¬ (unf n < 0 ∨ 8000 < unf n)) (h2 : (s.size : Int) - ((a + m : Nat) : Int) < unf n) : rt s a = (⟨#[]⟩, 0, 4) := by
  unfold rt; rw [hr]; simp only [if_pos]; rw [if_neg h, if_pos h2]
theorem rt_ok {s : ByteArray} {a n m : Nat} (hr : rd (s.data.toList.drop a) 0 0 = (0, n, m)) (h : ¬ (unf n < 0 ∨ 8000 < unf n)) (h2 : ¬ (s.size : Int) - ((a + m : Nat) : Int) < unf n) :
    rt s a = (s.extract (a + m) (a + m + (unf n).toNat), ((a + m : Nat) : Int) + unf n, 0) := by
  unfold rt; rw [hr]; simp only [if_pos]; rw [if_neg h, if_neg h2]
theorem rt_err (s : ByteArray) (a : Nat) : (rt s a).2.2 ≠ 0 → (rt s a).1 = ⟨#[]⟩ ∧ (rt s a).2.1 = 0 := by
  unfold rt
  split
  · split
    · intro _; exact ⟨rfl, rfl⟩
    · split
      · intro _; exact ⟨rfl, rfl⟩
      · intro h; exact absurd rfl h
  · intro _; exact ⟨rfl, rfl⟩
/-- What GetText answers. -/
def gt (s : ByteArray) (i : Int) : ByteArray × Int × Int := if 8000 < s.size then (⟨#[]⟩, 0, 2) else if i < 0 then (⟨#[]⟩, 0, 1) else rt s i.toNat
theorem gt_long {s : ByteArray} {i : Int} (h : 8000 < s.size) : gt s i = (⟨#[]⟩, 0, 2) := by unfold gt; rw [if_pos h]
theorem gt_neg {s : ByteArray} {i : Int} (h : ¬ 8000 < s.size) (h0 : i < 0) : gt s i = (⟨#[]⟩, 0, 1) := by unfold gt; rw [if_neg h, if_pos h0]
theorem gt_at {s : ByteArray} {a : Nat} (h : ¬ 8000 < s.size) : gt s (a : Int) = rt s a := by unfold gt; rw [if_neg h, if_neg (by omega), Int.toNat_natCast]
def gtVal (t : ByteArray × Int × Int) : Value := .agg #[.string t.1, .int .i64 t.2.1, .int .i64 t.2.2]
theorem ret_gt {t : ByteArray × Int × Int} {x : ByteArray} {y z : Int} (h : t = (x, y, z)) : Ending.returned (.agg #[.string x, .int .i64 y, .int .i64 z]) = .returned (gtVal t) := by rw [h]; rfl
def rtVal (t : ByteArray × Int × Int) : Value := if t.2.2 = 0 then .tuple #[.string t.1, .int .i64 t.2.1, .nilIface] else .tuple #[.string ⟨#[]⟩, .int .i64 0, .iface 54 (.agg #[.int .i64 t.2.2])]
theorem ret_rt0 {t : ByteArray × Int × Int} {x : ByteArray} {y : Int} (h : t = (x, y, 0)) : Ending.returned (.tuple #[.string x, .int .i64 y, .nilIface]) = .returned (rtVal t) := by rw [h]; rfl
theorem ret_rtc {t : ByteArray × Int × Int} {x : ByteArray} {y c : Int} (h : t = (x, y, c)) (hc : c ≠ 0) : Ending.returned (.tuple #[.string ⟨#[]⟩, .int .i64 0, .iface 54 (.agg #[.int .i64 c])]) = .returned (rtVal t) := by
  rw [h]; unfold rtVal; rw [if_neg hc]

theorem unf_bd {n : Nat} (h : n < 18446744073709551616) : -9223372036854775808 ≤ unf n ∧ unf n ≤ 9223372036854775807 := by
  unfold unf; split <;> omega

set_option maxHeartbeats 3200000 in
theorem readText_any (s : ByteArray) (a : Nat) (w : World) (ha : a ≤ 9223372036854775807) (hs : s.size ≤ 8000) :
    Calls Tryd.prog 23 #[.string s, .int .i64 (a : Int)] w fun e w' => e = .returned (rtVal (rt s a)) ∧ Below w.heap.size w w' := by
  have hR := fun w => readNum_any s a w ha hs
  rcases rd_cases (s.data.toList.drop a) 0 0 (by omega) (by decide) with ⟨n, m, hr, hm, hn⟩ | hr | hr
  · rw [rdVal_ok hr] at hR
    have HR : Hid (∀ w, Calls Tryd.prog 17 #[.string s, .int .i64 (a : Int)] w fun e w' => e = .returned (.tuple #[.int .i64 (unf n), .int .i64 ((a + m : Nat) : Int), .nilIface]) ∧ w = w') := hR
    have HO : Hid (unf n < 0 ∨ 8000 < unf n → rt s a = (⟨#[]⟩, 0, 3)) := rt_out hr
    have HSh : Hid (¬ (unf n < 0 ∨ 8000 < unf n) → (s.size : Int) - ((a + m : Nat) : Int) < unf n → rt s a = (⟨#[]⟩, 0, 4)) := rt_short hr
    have HK : Hid (¬ (unf n < 0 ∨ 8000 < unf n) → ¬ (s.size : Int) - ((a + m : Nat) : Int) < unf n → rt s a = (s.extract (a + m) (a + m + (unf n).toNat), ((a + m : Nat) : Int) + unf n, 0)) := rt_ok hr
    have ham : a + m ≤ s.size := by
      rcases Nat.lt_or_ge a s.size with h | h
      · simp at hm
        omega
      · have h4 := rd_short s.data.toList a 0 0 (by simpa using h)
        rw [h4] at hr
        simp at hr
    obtain ⟨v0, v1⟩ := unf_bd hn
    clear hR hr hm hn
    generalize unf n = V at *
    by_cases hV : V < 0 ∨ 8000 < V
    · have HA : Hid (rt s a = (⟨#[]⟩, 0, 3)) := HO.out hV
      clear HO HSh HK
      rcases (show V < 0 ∨ (0 ≤ V ∧ 8000 < V) by omega) with h | ⟨h, h'⟩
      all_goals
        clear hV
        go_enter Tryd.func23, Tryd.ntmps23
        go_wp2_with (go_at_call 17; refine (HR.out _).mono ?_; rintro e w1 ⟨rfl, rfl⟩)
        go_ret3
        exact ⟨ret_rtc HA.out (by decide), Below.refl _ _⟩
    have hV0 : 0 ≤ V := by omega
    have hV8 : V ≤ 8000 := by omega
    by_cases hS : (s.size : Int) - ((a + m : Nat) : Int) < V
    · have HA : Hid (rt s a = (⟨#[]⟩, 0, 4)) := HSh.out hV hS
      clear HO HSh HK hV
      have hS' : (s.size : Int) - ((a : Int) + (m : Int)) < V := by omega
      clear hS
      go_enter Tryd.func23, Tryd.ntmps23
      go_wp2_with (go_at_call 17; refine (HR.out _).mono ?_; rintro e w1 ⟨rfl, rfl⟩)
      go_ret3
      exact ⟨ret_rtc HA.out (by decide), Below.refl _ _⟩
    · have HA : Hid (rt s a = (s.extract (a + m) (a + m + V.toNat), ((a + m : Nat) : Int) + V, 0)) := HK.out hV hS
      have hS' : ¬ (s.size : Int) - ((a : Int) + (m : Int)) < V := by omega
      have HC : Hid (∀ w, Calls Tryd.prog 27 #[.string s, .int .i64 ((a : Int) + (m : Int)), .int .i64 ((a : Int) + (m : Int) + V)] w fun e w' => e = .returned (.string (s.extract (a + m) (a + m + V.toNat))) ∧ Below w.heap.size w w') := fun w => cut_int s _ _ (a + m) (a + m + V.toNat) w (by omega) (by omega) (by omega) (by omega) (by omega)
      clear HO HSh HK hV hS
      generalize s.extract (a + m) (a + m + V.toNat) = p at *
      go_enter Tryd.func23, Tryd.ntmps23
      go_wp2_with (first | (go_at_call 17; refine (HR.out _).mono ?_; rintro e w1 ⟨rfl, rfl⟩) | (go_at_call 27; refine (HC.out _).mono ?_; rintro e w1 ⟨rfl, hb1⟩))
      go_ret3
      exact ⟨ret_rt0 HA.out, hb1⟩
  · rw [rdVal_bad hr (by decide)] at hR
    have HA : Hid (rt s a = (⟨#[]⟩, 0, ((3 : Nat) : Int))) := rt_bad hr (by decide)
    have HR : Hid (∀ w, Calls Tryd.prog 17 #[.string s, .int .i64 (a : Int)] w fun e w' => e = .returned (.tuple #[.int .i64 0, .int .i64 0, .iface 54 (.agg #[.int .i64 3])]) ∧ w = w') := hR
    clear hR hr
    go_enter Tryd.func23, Tryd.ntmps23
    go_wp2_with (go_at_call 17; refine (HR.out _).mono ?_; rintro e w1 ⟨rfl, rfl⟩)
    go_ret3
    exact ⟨ret_rtc HA.out (by decide), Below.refl _ _⟩
  · rw [rdVal_bad hr (by decide)] at hR
    have HA : Hid (rt s a = (⟨#[]⟩, 0, ((4 : Nat) : Int))) := rt_bad hr (by decide)
    have HR : Hid (∀ w, Calls Tryd.prog 17 #[.string s, .int .i64 (a : Int)] w fun e w' => e = .returned (.tuple #[.int .i64 0, .int .i64 0, .iface 54 (.agg #[.int .i64 4])]) ∧ w = w') := hR
    clear hR hr
    go_enter Tryd.func23, Tryd.ntmps23
    go_wp2_with (go_at_call 17; refine (HR.out _).mono ?_; rintro e w1 ⟨rfl, rfl⟩)
    go_ret3
    exact ⟨ret_rtc HA.out (by decide), Below.refl _ _⟩

set_option maxHeartbeats 1600000 in
theorem igetText_any (s : ByteArray) (i : Int) (w : World) (h1 : i ≤ 9223372036854775807) (hg : etCell w) :
    Calls Tryd.prog 11 #[.string s, .int .i64 i] w fun e w' => e = .returned (gtVal (gt s i)) ∧ Below w.heap.size w w' := by
  by_cases hl : 8000 < s.size
  · have HL : Hid (∀ w, Calls Tryd.prog 16 #[.string s] w fun e w' => e = .returned (.bool true) ∧ w = w') := fun w => long_yes s w hl
    go_enter Tryd.func11, Tryd.ntmps11
    go_wp2_with (go_at_call 16; refine (HL.out _).mono ?_; rintro e w1 ⟨rfl, rfl⟩)
    exact bodyPost_ret (v := .agg #[.string ⟨#[]⟩, .int .i64 0, .int .i64 2]) (by simp [results, Tryd.results11, go_sem]) rfl ⟨ret_gt (gt_long hl), (Below.refl _ _).alloc (Nat.le_refl _) _⟩
  have HL : Hid (∀ w, Calls Tryd.prog 16 #[.string s] w fun e w' => e = .returned (.bool false) ∧ w = w') := fun w => long_no s w hl
  by_cases h0 : i < 0
  · go_enter Tryd.func11, Tryd.ntmps11
    go_wp2_with (go_at_call 16; refine (HL.out _).mono ?_; rintro e w1 ⟨rfl, rfl⟩)
    exact bodyPost_ret (v := .agg #[.string ⟨#[]⟩, .int .i64 0, .int .i64 1]) (by simp [results, Tryd.results11, go_sem]) rfl ⟨ret_gt (gt_neg hl h0), (Below.refl _ _).alloc (Nat.le_refl _) _⟩
  obtain ⟨a, rfl⟩ := Int.eq_ofNat_of_zero_le (show 0 ≤ i by omega)
  have hR := fun w => readText_any s a w (by omega) (by omega)
  have hA := gt_at (a := a) hl
  have hE := rt_err s a
  generalize rt s a = t at *
  obtain ⟨x, y, c⟩ := t
  simp only at hE hR
  by_cases hc : c = 0
  · subst hc
    clear hE
    have HA : Hid (gt s (a : Int) = (x, y, 0)) := hA
    have HR : Hid (∀ w, Calls Tryd.prog 23 #[.string s, .int .i64 (a : Int)] w fun e w' => e = .returned (.tuple #[.string x, .int .i64 y, .nilIface]) ∧ Below w.heap.size w w') := hR
    clear hR hA hg
    go_enter Tryd.func11, Tryd.ntmps11
    go_wp2_with (first | (go_at_call 16; refine (HL.out _).mono ?_; rintro e w1 ⟨rfl, rfl⟩) | (go_at_call 23; refine (HR.out _).mono ?_; rintro e w1 ⟨rfl, hb1⟩) | (go_at_call 18; refine (fault_nil _).mono ?_; rintro e w2 ⟨rfl, hb2⟩; obtain ⟨c0, c1, c2, f0, f1, f2, hb, hz⟩ := slot3 (w := w) (x := (w.alloc (.cells #[.string ⟨#[]⟩, .int .i64 0, .int .i64 0] 31))) (w1 := w2) rfl rfl rfl rfl (hb1.trans (hb2.mono hb1.size))))
    exact bodyPost_ret (v := .agg #[.string x, .int .i64 y, .int .i64 0]) (by simp [results, Tryd.results11, go_sem, *]) rfl ⟨ret_gt HA.out, ((hb.setCell (Nat.le_refl _) _).setCell (Nat.le_refl _) _).setCell (Nat.le_refl _) _⟩
  · obtain ⟨rfl, rfl⟩ := hE hc
    have HA : Hid (gt s (a : Int) = (⟨#[]⟩, 0, c)) := hA
    unfold rtVal at hR
    simp only [if_neg hc] at hR
    have HR : Hid (∀ w, Calls Tryd.prog 23 #[.string s, .int .i64 (a : Int)] w fun e w' => e = .returned (.tuple #[.string ⟨#[]⟩, .int .i64 0, .iface 54 (.agg #[.int .i64 c])]) ∧ Below w.heap.size w w') := hR
    have HG : Hid (etCell (w.alloc (.cells #[.string ⟨#[]⟩, .int .i64 0, .int .i64 0] 31))) := hg.below ((Below.refl _ _).alloc (Nat.le_refl _) _) hg.lt
    clear hR hA hg hE
    go_enter Tryd.func11, Tryd.ntmps11
    go_wp2_with (first | (go_at_call 16; refine (HL.out _).mono ?_; rintro e w1 ⟨rfl, rfl⟩) | (go_at_call 23; refine (HR.out _).mono ?_; rintro e w1 ⟨rfl, hb1⟩; have HG1 : Hid (etCell w1) := HG.out.below hb1 HG.out.lt) | (go_at_call 18; refine (fault_hit c _ HG1.out).mono ?_; rintro e w2 ⟨rfl, hb2⟩; obtain ⟨c0, c1, c2, f0, f1, f2, hb, hz⟩ := slot3 (w := w) (x := (w.alloc (.cells #[.string ⟨#[]⟩, .int .i64 0, .int .i64 0] 31))) (w1 := w2) rfl rfl rfl rfl (hb1.trans (hb2.mono hb1.size))))
    exact bodyPost_ret (v := .agg #[.string ⟨#[]⟩, .int .i64 0, .int .i64 c]) (by simp [results, Tryd.results11, go_sem, *]) rfl ⟨ret_gt HA.out, ((hb.setCell (Nat.le_refl _) _).setCell (Nat.le_refl _) _).setCell (Nat.le_refl _) _⟩

end Go.Proofs.YtbnchappillecaaDoor
