/-
  SizeRead and CpuRead of the specification: what is read of a text.
-/
import Derived.Test.YtbpnmhebhmakdaaDoorPNum
import Derived.Test.YtbpnmhebhmakdaaDoorQText
import Derived.Test.YtbpnmhebhmakdaaDoorSlot
namespace Go.Proofs.YtbpnmhebhmakdaaDoor
open Go.RowKit

def RdAns (t : Int → ByteArray) (s : ByteArray) (w : World) (e : Ending) (w' : World) : Prop :=
  ∃ a c, e = .returned (.agg #[.int .i64 a, .int .i64 0, .int .i64 c]) ∧ RdIs t s a c ∧ Below w.heap.size w w'

theorem mtext_form {l m e : Int} {w0 w1 : ByteArray} {n : Int} {s : ByteArray} (h : mtext l m e w0 w1 n = s) (hne : ¬ s = ⟨#[]⟩) :
    l ≤ n ∧ n ≤ m ∧ ((n % e = 0 ∧ s = dec (n / e) ++ w0) ∨ (¬ n % e = 0 ∧ s = dec n ++ w1)) := by
  have hp := mtext_pos (h ▸ hne)
  refine ⟨hp.1, hp.2, ?_⟩
  by_cases h1 : n % e = 0
  · left; exact ⟨h1, by rw [← h, mtext_great hp.1 hp.2 h1]⟩
  · right; exact ⟨h1, by rw [← h, mtext_small hp.1 hp.2 h1]⟩
theorem size_app (a b : ByteArray) : (a ++ b).size = a.size + b.size := by rw [Lib.size_eq, bytes_append, List.length_append, ← Lib.size_eq, ← Lib.size_eq]
theorem dec_pos (k : Int) : 0 < (dec k).size := by rw [Lib.size_eq, dec_list]; exact List.length_pos_iff.2 (dec_ne _)
theorem dec_split {s x : ByteArray} {k : Int} (h : s = dec k ++ x) : IsDec (s.extract 0 (s.size - x.size)) k.toNat ∧ s.extract (s.size - x.size) s.size = x := by
  have hz : s.size = (dec k).size + x.size := by rw [h, size_app]
  have hd : (dec k).size = (Lib.decDigits k.toNat).length := by rw [Lib.size_eq, dec_list]
  have hx : x.size = x.data.toList.length := Lib.size_eq x
  constructor
  · unfold IsDec
    rw [Lib.extract_data, h, bytes_append, dec_list, size_app]
    simp [hd]
  · apply bytes_ext
    rw [Lib.extract_data, h, bytes_append, dec_list, size_app]
    rw [show (dec k).size + x.size - x.size = (dec k).size by omega, hd, List.drop_left, List.take_of_length_le (by omega)]
theorem dec_cut {s x : ByteArray} {k : Int} (h : s = dec k ++ x) : Lib.hasSuffix s.data.toList x.data.toList = true ∧ Lib.trimSuffix s.data.toList x.data.toList = Lib.decDigits k.toNat := by
  have h1 : Lib.hasSuffix s.data.toList x.data.toList = true := by
    unfold Lib.hasSuffix
    rw [h, bytes_append, List.isSuffixOf_iff_suffix]
    exact List.suffix_append _ _
  refine ⟨h1, ?_⟩
  unfold Lib.trimSuffix
  rw [if_pos h1, h, bytes_append, dec_list]
  simp
theorem dec_size7 {n : Int} (h : n ≤ 1048576) : (dec n).size ≤ 7 := dec_size h
theorem rd_empty {t : Int → ByteArray} {s : ByteArray} (hs : s.size ≤ 8000) (h : s = ⟨#[]⟩) : RdIs t s 0 3 := Or.inr (Or.inr ⟨hs, fun _ _ => h, rfl, rfl⟩)
theorem rd_yes {t : Int → ByteArray} {s : ByteArray} {a : Int} (hs : s.size ≤ 8000) (hne : ¬ s = ⟨#[]⟩) (h : t a = s) : RdIs t s a 0 := Or.inr (Or.inl ⟨hs, hne, h, rfl⟩)
theorem rd_no {t : Int → ByteArray} {s : ByteArray} {a : Int} (hs : s.size ≤ 8000) (hw : ∀ n, t n = s → ¬ s = ⟨#[]⟩ → a = n) (h : ¬ t a = s) : RdIs t s 0 3 :=
  Or.inr (Or.inr ⟨hs, fun n h1 => Classical.byContradiction fun h2 => h (by rw [hw n h1 h2]; exact h1), rfl, rfl⟩)
theorem ne_of_size {s : ByteArray} (h : 0 < s.size) : ¬ s = ⟨#[]⟩ := fun e => by rw [e] at h; exact absurd h (by decide)
theorem sz_size {s : ByteArray} {n : Int} (h : szText n = s) (hne : ¬ s = ⟨#[]⟩) : 2 < s.size := by
  obtain ⟨_, _, ⟨_, rfl⟩ | ⟨_, rfl⟩⟩ := mtext_form h hne
  · rw [size_app]; have := dec_pos (n / 1024); have : wTi.size = 2 := rfl; omega
  · rw [size_app]; have := dec_pos n; have : wGi.size = 2 := rfl; omega
theorem sz_want_Ti {s : ByteArray} {v : Int} (hv : NumIs (s.extract 0 (s.size - 2)) v) (hT : s.extract (s.size - 2) s.size = wTi) (n : Int) (h : szText n = s) (hne : ¬ s = ⟨#[]⟩) : 1024 * v = n := by
  obtain ⟨h1, h2, ⟨h3, h4⟩ | ⟨h3, h4⟩⟩ := mtext_form h hne
  · obtain ⟨h5, _⟩ := dec_split h4
    have h6 := hv.2.2 _ h5 (by rw [ByteArray.size_extract, h4, size_app]; have := dec_size (n := n / 1024) (by omega); have : wTi.size = 2 := rfl; omega)
    rw [h6]; omega
  · obtain ⟨_, h6⟩ := dec_split h4
    exact absurd (hT.symm.trans h6) (by decide)
theorem sz_want_no {s : ByteArray} {v : Int} (hv : NumIs (s.extract 0 (s.size - 2)) v) (hT : ¬ s.extract (s.size - 2) s.size = wTi) (n : Int) (h : szText n = s) (hne : ¬ s = ⟨#[]⟩) : v = n := by
  obtain ⟨h1, h2, ⟨h3, h4⟩ | ⟨h3, h4⟩⟩ := mtext_form h hne
  · exact absurd (dec_split h4).2 hT
  · obtain ⟨h5, _⟩ := dec_split h4
    have h6 := hv.2.2 _ h5 (by rw [ByteArray.size_extract, h4, size_app]; have := dec_size (n := n) (by omega); have : wGi.size = 2 := rfl; omega)
    rw [h6]; omega
theorem cp_want_m {s : ByteArray} {v : Int} (hv : NumIs (s.extract 0 (s.size - 1)) v) (hT : s.extract (s.size - 1) s.size = wM) (n : Int) (h : cpText n = s) (hne : ¬ s = ⟨#[]⟩) : v = n := by
  obtain ⟨h1, h2, ⟨h3, h4⟩ | ⟨h3, h4⟩⟩ := mtext_form h hne
  · exfalso
    rw [no_app] at h4
    have h5 : (109 : UInt8) ∈ s.data.toList := by
      have h6 : (109 : UInt8) ∈ (s.extract (s.size - 1) s.size).data.toList := by rw [hT]; decide
      rw [Lib.extract_data] at h6
      exact List.mem_of_mem_drop (List.mem_of_mem_take h6)
    rw [h4, dec_list] at h5
    have := dec_dig _ _ h5
    exact absurd this (by unfold isDig; decide)
  · obtain ⟨h5, _⟩ := dec_split h4
    have h6 := hv.2.2 _ h5 (by rw [ByteArray.size_extract, h4, size_app]; have := dec_size (n := n) (by omega); have : wM.size = 1 := rfl; omega)
    rw [h6]; omega
theorem cp_want_no {s : ByteArray} {v : Int} (hv : NumIs s v) (hT : ¬ (1 < s.size ∧ s.extract (s.size - 1) s.size = wM)) (n : Int) (h : cpText n = s) (hne : ¬ s = ⟨#[]⟩) : 1000 * v = n := by
  obtain ⟨h1, h2, ⟨h3, h4⟩ | ⟨h3, h4⟩⟩ := mtext_form h hne
  · rw [no_app] at h4
    have h5 : IsDec s (n / 1000).toNat := by unfold IsDec; rw [h4, dec_list]
    have h6 := hv.2.2 _ h5 (by rw [h4]; have := dec_size (n := n / 1000) (by omega); omega)
    rw [h6]; omega
  · exfalso
    apply hT
    refine ⟨?_, (dec_split h4).2⟩
    rw [h4, size_app]; have := dec_pos n; have : wM.size = 1 := rfl; omega

theorem beq_yes {a b : ByteArray} (h : a = b) : (a.toList == b.toList) = true := by rw [h]; simp
theorem beq_no {a b : ByteArray} (h : ¬ a = b) : (a.toList == b.toList) = false := by
  rw [Lib.toList_data, Lib.toList_data]
  simp only [beq_eq_false_iff_ne, ne_eq]
  exact fun e => h (bytes_ext e)
theorem bTi_yes {a : ByteArray} (h : a = wTi) : (a.toList == [84, 105]) = true := by rw [h, Lib.toList_data]; decide
theorem bTi_no {a : ByteArray} (h : ¬ a = wTi) : (a.toList == [84, 105]) = false := by
  rw [Lib.toList_data]
  simp only [beq_eq_false_iff_ne, ne_eq]
  exact fun e => h (bytes_ext e)
theorem emp_yes {a : ByteArray} (h : a = ⟨#[]⟩) : a.toList.isEmpty = true := by rw [h, Lib.toList_data]; rfl

theorem last_m {s : ByteArray} (h : s.size - 1 < s.size) : s.extract (s.size - 1) s.size = wM ↔ ((s[s.size - 1]'h).toNat : Int) = 109 := by
  have hl : s.data.toList.length = s.size := (Lib.size_eq s).symm
  have h1 : (s.extract (s.size - 1) s.size).data.toList = [s[s.size - 1]'h] := by
    rw [Lib.extract_data, List.drop_eq_getElem_cons (by omega), list_at s _ h, show s.size - (s.size - 1) = 1 by omega]
    simp
  constructor
  · intro e
    rw [e] at h1
    simp only [wM, List.cons.injEq, and_true] at h1
    rw [← h1]; rfl
  · intro e
    apply bytes_ext
    rw [h1]
    have : s[s.size - 1]'h = 109 := UInt8.toNat_inj.1 (by have : (109 : UInt8).toNat = 109 := rfl; omega)
    rw [this]; rfl

set_option maxHeartbeats 1600000 in
theorem scpuread_any (s : ByteArray) (w : World) (hs : s.size ≤ 9223372036854775807) :
    Calls Tryd.prog 10 #[.string s] w (RdAns cpText s w) := by
  by_cases hl : 8000 < s.size
  · have HP : Hid (RdIs cpText s 0 2) := Or.inl ⟨hl, rfl, rfl⟩
    go_enter Tryd.func10, Tryd.ntmps10
    go_wp2
    exact bodyPost_ret (v := .agg #[.int .i64 0, .int .i64 0, .int .i64 2]) (by simp [results, Tryd.results10, go_sem]) rfl ⟨_, _, rfl, HP.out, (Below.refl _ _).alloc (Nat.le_refl _) _⟩
  by_cases h0 : s = ⟨#[]⟩
  · have HP : Hid (RdIs cpText s 0 3) := rd_empty (by omega) h0
    have he := emp_yes h0
    have h2 : s.size = 0 := by rw [h0]; rfl
    clear h0
    go_enter Tryd.func10, Tryd.ntmps10
    go_wp2_with fail
    refine (snum_any _ _ (by omega)).mono ?_
    rintro e w1 ⟨⟨v, rfl, hv⟩, rfl⟩
    clear hv
    go_wp2_with fail
    exact bodyPost_ret (v := .agg #[.int .i64 0, .int .i64 0, .int .i64 3]) (by simp [results, Tryd.results10, go_sem]) rfl ⟨_, _, rfl, HP.out, (Below.refl _ _).alloc (Nat.le_refl _) _⟩
  have h0' : 0 < s.size := by
    rcases Nat.eq_zero_or_pos s.size with h | h
    · exact absurd (bytes_ext (List.eq_nil_of_length_eq_zero (by rw [← Lib.size_eq]; exact h))) h0
    · exact h
  have he := toList_ne h0'
  clear h0
  have hlt : s.size - 1 < s.size := by omega
  by_cases hT : 1 < s.size ∧ s.extract (s.size - 1) s.size = wM
  · obtain ⟨h1, hT⟩ := hT
    have HT : Hid (s.extract (s.size - 1) s.size = wM) := hT
    have hTb : (((s[s.size - 1]'hlt).toNat : Int) == 109) = true := by simp [(last_m hlt).1 hT]
    clear hT
    go_enter Tryd.func10, Tryd.ntmps10
    go_wp2_with fail
    refine (snum_any _ _ (by omega)).mono ?_
    rintro e w1 ⟨⟨v0, rfl, hv0⟩, rfl⟩
    have hv01 := hv0.1
    have hv02 := hv0.2.1
    clear hv0
    go_wp2_with fail
    refine (snum_any _ _ (by rw [ByteArray.size_extract]; omega)).mono ?_
    rintro e w1 ⟨⟨v, rfl, hv⟩, rfl⟩
    have HV : Hid (∀ n, cpText n = s → ¬ s = ⟨#[]⟩ → v = n) := cp_want_m hv HT.out
    have hv1 := hv.1
    have hv2 := hv.2.1
    clear hv
    go_wp2_with fail
    refine (scputext_any _ _).mono ?_
    rintro e w2 ⟨rfl, hb2⟩
    obtain ⟨c0, c1, c2, f0, f1, f2, hb, hz⟩ := slot3 (w := w) (w1 := w2) rfl rfl rfl rfl hb2
    by_cases hq : cpText (v) = s
    · have HP : Hid (RdIs cpText s (v) 0) := rd_yes (by omega) (ne_of_size h0') hq
      have hq1 := beq_yes hq
      clear hq
      go_wp2_with fail
      exact bodyPost_ret (v := .agg #[.int .i64 (v), .int .i64 0, .int .i64 0]) (by simp [results, Tryd.results10, go_sem, *]) rfl ⟨_, _, rfl, HP.out, ((hb.setCell (Nat.le_refl _) _).setCell (Nat.le_refl _) _).setCell (Nat.le_refl _) _⟩
    · have HP : Hid (RdIs cpText s 0 3) := rd_no (by omega) HV.out hq
      have hq1 := beq_no hq
      clear hq
      go_wp2_with fail
      exact bodyPost_ret (v := .agg #[.int .i64 0, .int .i64 0, .int .i64 3]) (by simp [results, Tryd.results10, go_sem, *]) rfl ⟨_, _, rfl, HP.out, ((hb.setCell (Nat.le_refl _) _).setCell (Nat.le_refl _) _).setCell (Nat.le_refl _) _⟩
  · have HT : Hid (¬ (1 < s.size ∧ s.extract (s.size - 1) s.size = wM)) := hT
    have hB : (decide (1 < (s.size : Int)) = true ∧ (((s[s.size - 1]'hlt).toNat : Int) == 109) = false) ∨ decide (1 < (s.size : Int)) = false := by
      by_cases h : 1 < s.size
      · left; exact ⟨by simp; omega, by simp; exact fun e => hT ⟨h, (last_m hlt).2 e⟩⟩
      · right; simp; omega
    clear hT
    rcases hB with ⟨hB1, hB2⟩ | hB1
    all_goals
      go_enter Tryd.func10, Tryd.ntmps10
      go_wp2_with fail
      refine (snum_any _ _ (by omega)).mono ?_
      rintro e w1 ⟨⟨v, rfl, hv⟩, rfl⟩
      have HV : Hid (∀ n, cpText n = s → ¬ s = ⟨#[]⟩ → 1000 * v = n) := cp_want_no hv HT.out
      have hv1 := hv.1
      have hv2 := hv.2.1
      clear hv
      go_wp2_with fail
      refine (scputext_any _ _).mono ?_
      rintro e w2 ⟨rfl, hb2⟩
      obtain ⟨c0, c1, c2, f0, f1, f2, hb, hz⟩ := slot3 (w := w) (w1 := w2) rfl rfl rfl rfl hb2
      by_cases hq : cpText (1000 * v) = s
      · have HP : Hid (RdIs cpText s (1000 * v) 0) := rd_yes (by omega) (ne_of_size h0') hq
        have hq1 := beq_yes hq
        clear hq
        go_wp2_with fail
        exact bodyPost_ret (v := .agg #[.int .i64 (1000 * v), .int .i64 0, .int .i64 0]) (by simp [results, Tryd.results10, go_sem, *]) rfl ⟨_, _, rfl, HP.out, ((hb.setCell (Nat.le_refl _) _).setCell (Nat.le_refl _) _).setCell (Nat.le_refl _) _⟩
      · have HP : Hid (RdIs cpText s 0 3) := rd_no (by omega) HV.out hq
        have hq1 := beq_no hq
        clear hq
        go_wp2_with fail
        exact bodyPost_ret (v := .agg #[.int .i64 0, .int .i64 0, .int .i64 3]) (by simp [results, Tryd.results10, go_sem, *]) rfl ⟨_, _, rfl, HP.out, ((hb.setCell (Nat.le_refl _) _).setCell (Nat.le_refl _) _).setCell (Nat.le_refl _) _⟩

end Go.Proofs.YtbpnmhebhmakdaaDoor
