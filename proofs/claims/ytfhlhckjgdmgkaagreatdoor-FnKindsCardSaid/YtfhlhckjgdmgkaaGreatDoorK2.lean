import Derived.Test.YtfhlhckjgdmgkaaGreatDoorK1
import Derived.Test.YtfhlhckjgdmgkaaGreatDoorRows
import Derived.WalkKit
import Derived.WalkSpells
import Derived.Deep.RegionHeld
import Derived.Laws.AppendOwn
import Derived.Laws.AppendOwnNone
import Derived.OwnWalk
import Derived.Outline
import Derived.Deep.RegionWith
import Derived.Deep.AppendLies
/-
  SizeRead and CpuRead of the specification: what is read of a text.
-/
namespace Go.Proofs.YtfhlhckjgdmgkaaGreatDoor
open Go.RowKit

def RdAns (t : Int → ByteArray) (s : ByteArray) (w : World) (e : Ending) (w' : World) : Prop :=
  ∃ a c, e = .returned (.agg #[.int .i64 a, .int .i64 0, .int .i64 c]) ∧ RdIs t s a c ∧ Below w.heap.size w w'

theorem mtext_form {l m e : Int} {w0 w1 : ByteArray} {n : Int} {s : ByteArray} (h : mtext l m e w0 w1 n = s) (hne : ¬ s = ⟨#[]⟩) :
    l ≤ n ∧ n ≤ m ∧ ((n % e = 0 ∧ s = dec (n / e) ++ w0) ∨ (¬ n % e = 0 ∧ s = dec n ++ w1)) := by
  have hp := mtext_pos (h ▸ hne)
  refine ⟨hp.1, hp.2, ?_⟩
  by_cases h1 : n % e = 0
  · left; exact ⟨h1, by rw [← h, mtext_great hp.1 hp.2 h1]⟩
  · right; exact ⟨h1, by rw [← h, mtext_small hp.1 hp.2 h1]⟩
theorem size_app (a b : ByteArray) : (a ++ b).size = a.size + b.size := by rw [Lib.size_eq, bytes_append, List.length_append, ← Lib.size_eq, ← Lib.size_eq]
theorem dec_pos (k : Int) : 0 < (dec k).size := by rw [Lib.size_eq, dec_list]; exact List.length_pos_iff.2 (dec_ne _)
theorem dec_split {s x : ByteArray} {k : Int} (h : s = dec k ++ x) : IsDec (s.extract 0 (s.size - x.size)) k.toNat ∧ s.extract (s.size - x.size) s.size = x := by
  have hz : s.size = (dec k).size + x.size := by rw [h, size_app]
  have hd : (dec k).size = (Lib.decDigits k.toNat).length := by rw [Lib.size_eq, dec_list]
  have hx : x.size = x.data.toList.length := Lib.size_eq x
  constructor
  · unfold IsDec
    rw [Lib.extract_data, h, bytes_append, dec_list, size_app]
    simp [hd]
  · apply bytes_ext
    rw [Lib.extract_data, h, bytes_append, dec_list, size_app]
    rw [show (dec k).size + x.size - x.size = (dec k).size by omega, hd, List.drop_left, List.take_of_length_le (by omega)]
theorem dec_cut {s x : ByteArray} {k : Int} (h : s = dec k ++ x) : Lib.hasSuffix s.data.toList x.data.toList = true ∧ Lib.trimSuffix s.data.toList x.data.toList = Lib.decDigits k.toNat := by
  have h1 : Lib.hasSuffix s.data.toList x.data.toList = true := by
    unfold Lib.hasSuffix
    rw [h, bytes_append, List.isSuffixOf_iff_suffix]
    exact List.suffix_append _ _
  refine ⟨h1, ?_⟩
  unfold Lib.trimSuffix
  rw [if_pos h1, h, bytes_append, dec_list]
  simp
theorem rd_empty {t : Int → ByteArray} {s : ByteArray} (hs : s.size ≤ 8000) (h : s = ⟨#[]⟩) : RdIs t s 0 3 := Or.inr (Or.inr ⟨hs, fun _ _ => h, rfl, rfl⟩)
theorem rd_yes {t : Int → ByteArray} {s : ByteArray} {a : Int} (hs : s.size ≤ 8000) (hne : ¬ s = ⟨#[]⟩) (h : t a = s) : RdIs t s a 0 := Or.inr (Or.inl ⟨hs, hne, h, rfl⟩)
theorem rd_no {t : Int → ByteArray} {s : ByteArray} {a : Int} (hs : s.size ≤ 8000) (hw : ∀ n, t n = s → ¬ s = ⟨#[]⟩ → a = n) (h : ¬ t a = s) : RdIs t s 0 3 :=
  Or.inr (Or.inr ⟨hs, fun n h1 => Classical.byContradiction fun h2 => h (by rw [hw n h1 h2]; exact h1), rfl, rfl⟩)
theorem ne_of_size {s : ByteArray} (h : 0 < s.size) : ¬ s = ⟨#[]⟩ := fun e => by rw [e] at h; exact absurd h (by decide)
theorem sz_size {s : ByteArray} {n : Int} (h : szText n = s) (hne : ¬ s = ⟨#[]⟩) : 2 < s.size := by
  obtain ⟨_, _, ⟨_, rfl⟩ | ⟨_, rfl⟩⟩ := mtext_form h hne
  · rw [size_app]; have := dec_pos (n / 1024); have : wTi.size = 2 := rfl; omega
  · rw [size_app]; have := dec_pos n; have : wGi.size = 2 := rfl; omega
theorem sz_want_Ti {s : ByteArray} {v : Int} (hv : NumIs (s.extract 0 (s.size - 2)) v) (hT : s.extract (s.size - 2) s.size = wTi) (n : Int) (h : szText n = s) (hne : ¬ s = ⟨#[]⟩) : 1024 * v = n := by
  obtain ⟨h1, h2, ⟨h3, h4⟩ | ⟨h3, h4⟩⟩ := mtext_form h hne
  · obtain ⟨h5, _⟩ := dec_split h4
    have h6 := hv.2.2 _ h5 (by rw [ByteArray.size_extract, h4, size_app]; have := dec_size (n := n / 1024) (by omega); have : wTi.size = 2 := rfl; omega)
    rw [h6]; omega
  · obtain ⟨_, h6⟩ := dec_split h4
    exact absurd (hT.symm.trans h6) (by decide)
theorem sz_want_no {s : ByteArray} {v : Int} (hv : NumIs (s.extract 0 (s.size - 2)) v) (hT : ¬ s.extract (s.size - 2) s.size = wTi) (n : Int) (h : szText n = s) (hne : ¬ s = ⟨#[]⟩) : v = n := by
  obtain ⟨h1, h2, ⟨h3, h4⟩ | ⟨h3, h4⟩⟩ := mtext_form h hne
  · exact absurd (dec_split h4).2 hT
  · obtain ⟨h5, _⟩ := dec_split h4
    have h6 := hv.2.2 _ h5 (by rw [ByteArray.size_extract, h4, size_app]; have := dec_size (n := n) (by omega); have : wGi.size = 2 := rfl; omega)
    rw [h6]; omega
theorem cp_want_m {s : ByteArray} {v : Int} (hv : NumIs (s.extract 0 (s.size - 1)) v) (hT : s.extract (s.size - 1) s.size = wM) (n : Int) (h : cpText n = s) (hne : ¬ s = ⟨#[]⟩) : v = n := by
  obtain ⟨h1, h2, ⟨h3, h4⟩ | ⟨h3, h4⟩⟩ := mtext_form h hne
  · exfalso
    rw [no_app] at h4
    have h5 : (109 : UInt8) ∈ s.data.toList := by
      have h6 : (109 : UInt8) ∈ (s.extract (s.size - 1) s.size).data.toList := by rw [hT]; decide
      rw [Lib.extract_data] at h6
      exact List.mem_of_mem_drop (List.mem_of_mem_take h6)
    rw [h4, dec_list] at h5
    have := dec_dig _ _ h5
    exact absurd this (by unfold isDig; decide)
  · obtain ⟨h5, _⟩ := dec_split h4
    have h6 := hv.2.2 _ h5 (by rw [ByteArray.size_extract, h4, size_app]; have := dec_size (n := n) (by omega); have : wM.size = 1 := rfl; omega)
    rw [h6]; omega
theorem cp_want_no {s : ByteArray} {v : Int} (hv : NumIs s v) (hT : ¬ (1 < s.size ∧ s.extract (s.size - 1) s.size = wM)) (n : Int) (h : cpText n = s) (hne : ¬ s = ⟨#[]⟩) : 1000 * v = n := by
  obtain ⟨h1, h2, ⟨h3, h4⟩ | ⟨h3, h4⟩⟩ := mtext_form h hne
  · rw [no_app] at h4
    have h5 : IsDec s (n / 1000).toNat := by unfold IsDec; rw [h4, dec_list]
    have h6 := hv.2.2 _ h5 (by rw [h4]; have := dec_size (n := n / 1000) (by omega); omega)
    rw [h6]; omega
  · exfalso
    apply hT
    refine ⟨?_, (dec_split h4).2⟩
    rw [h4, size_app]; have := dec_pos n; have : wM.size = 1 := rfl; omega

theorem beq_yes {a b : ByteArray} (h : a = b) : (a.toList == b.toList) = true := by rw [h]; simp
theorem beq_no {a b : ByteArray} (h : ¬ a = b) : (a.toList == b.toList) = false := by
  rw [Lib.toList_data, Lib.toList_data]
  simp only [beq_eq_false_iff_ne, ne_eq]
  exact fun e => h (bytes_ext e)
theorem bTi_yes {a : ByteArray} (h : a = wTi) : (a.toList == [84, 105]) = true := by rw [h, Lib.toList_data]; decide
theorem bTi_no {a : ByteArray} (h : ¬ a = wTi) : (a.toList == [84, 105]) = false := by
  rw [Lib.toList_data]
  simp only [beq_eq_false_iff_ne, ne_eq]
  exact fun e => h (bytes_ext e)
theorem emp_yes {a : ByteArray} (h : a = ⟨#[]⟩) : a.toList.isEmpty = true := by rw [h, Lib.toList_data]; rfl

set_option maxHeartbeats 1600000 in
theorem ssizeread_any (s : ByteArray) (w : World) (hs : s.size ≤ 9223372036854775807) :
    Calls Tryz.prog 56 #[.string s] w (RdAns szText s w) := by
  by_cases hl : 8000 < s.size
  · have HP : Hid (RdIs szText s 0 2) := Or.inl ⟨hl, rfl, rfl⟩
    go_enter Tryz.func56, Tryz.ntmps56
    go_wp2
    exact bodyPost_ret (v := .agg #[.int .i64 0, .int .i64 0, .int .i64 2]) (by simp [results, Tryz.results56, go_sem]) rfl ⟨_, _, rfl, HP.out, (Below.refl _ _).alloc (Nat.le_refl _) _⟩
  by_cases h0 : s = ⟨#[]⟩
  · have HP : Hid (RdIs szText s 0 3) := rd_empty (by omega) h0
    have he := emp_yes h0
    have h2 : s.size = 0 := by rw [h0]; rfl
    clear h0
    go_enter Tryz.func56, Tryz.ntmps56
    go_wp2
    exact bodyPost_ret (v := .agg #[.int .i64 0, .int .i64 0, .int .i64 3]) (by simp [results, Tryz.results56, go_sem]) rfl ⟨_, _, rfl, HP.out, (Below.refl _ _).alloc (Nat.le_refl _) _⟩
  have h0' : 0 < s.size := by
    rcases Nat.eq_zero_or_pos s.size with h | h
    · exact absurd (bytes_ext (List.eq_nil_of_length_eq_zero (by rw [← Lib.size_eq]; exact h))) h0
    · exact h
  have he := toList_ne h0'
  by_cases h2 : 2 < s.size
  · by_cases hT : s.extract (s.size - 2) s.size = wTi
    · have HT : Hid (s.extract (s.size - 2) s.size = wTi) := hT
      have hTb := bTi_yes hT
      clear hT
      clear h0
      go_enter Tryz.func56, Tryz.ntmps56
      go_wp2_with fail
      refine (snum_any _ _ (by rw [ByteArray.size_extract]; omega)).mono ?_
      rintro e w1 ⟨⟨v, rfl, hv⟩, rfl⟩
      have HV : Hid (∀ n, szText n = s → ¬ s = ⟨#[]⟩ → 1024 * v = n) := sz_want_Ti hv HT.out
      have hv1 := hv.1
      have hv2 := hv.2.1
      clear hv
      go_wp2_with fail
      refine (ssizetext_any _ _).mono ?_
      rintro e w2 ⟨rfl, hb2⟩
      obtain ⟨c0, c1, c2, f0, f1, f2, hb, hz⟩ := slot3 (w := w) (w1 := w2) rfl rfl rfl rfl hb2
      by_cases hq : szText (1024 * v) = s
      · have HP : Hid (RdIs szText s (1024 * v) 0) := rd_yes (by omega) (ne_of_size h0') hq
        have hq1 := beq_yes hq
        clear hq
        go_wp2_with fail
        exact bodyPost_ret (v := .agg #[.int .i64 (1024 * v), .int .i64 0, .int .i64 0]) (by simp [results, Tryz.results56, go_sem, *]) rfl ⟨_, _, rfl, HP.out, ((hb.setCell (Nat.le_refl _) _).setCell (Nat.le_refl _) _).setCell (Nat.le_refl _) _⟩
      · have HP : Hid (RdIs szText s 0 3) := rd_no (by omega) HV.out hq
        have hq1 := beq_no hq
        clear hq
        go_wp2_with fail
        exact bodyPost_ret (v := .agg #[.int .i64 0, .int .i64 0, .int .i64 3]) (by simp [results, Tryz.results56, go_sem, *]) rfl ⟨_, _, rfl, HP.out, ((hb.setCell (Nat.le_refl _) _).setCell (Nat.le_refl _) _).setCell (Nat.le_refl _) _⟩
    · have HT : Hid (¬ s.extract (s.size - 2) s.size = wTi) := hT
      have hTb := bTi_no hT
      clear hT
      clear h0
      go_enter Tryz.func56, Tryz.ntmps56
      go_wp2_with fail
      refine (snum_any _ _ (by rw [ByteArray.size_extract]; omega)).mono ?_
      rintro e w1 ⟨⟨v, rfl, hv⟩, rfl⟩
      have HV : Hid (∀ n, szText n = s → ¬ s = ⟨#[]⟩ → v = n) := sz_want_no hv HT.out
      have hv1 := hv.1
      have hv2 := hv.2.1
      clear hv
      go_wp2_with fail
      refine (ssizetext_any _ _).mono ?_
      rintro e w2 ⟨rfl, hb2⟩
      obtain ⟨c0, c1, c2, f0, f1, f2, hb, hz⟩ := slot3 (w := w) (w1 := w2) rfl rfl rfl rfl hb2
      by_cases hq : szText (v) = s
      · have HP : Hid (RdIs szText s (v) 0) := rd_yes (by omega) (ne_of_size h0') hq
        have hq1 := beq_yes hq
        clear hq
        go_wp2_with fail
        exact bodyPost_ret (v := .agg #[.int .i64 (v), .int .i64 0, .int .i64 0]) (by simp [results, Tryz.results56, go_sem, *]) rfl ⟨_, _, rfl, HP.out, ((hb.setCell (Nat.le_refl _) _).setCell (Nat.le_refl _) _).setCell (Nat.le_refl _) _⟩
      · have HP : Hid (RdIs szText s 0 3) := rd_no (by omega) HV.out hq
        have hq1 := beq_no hq
        clear hq
        go_wp2_with fail
        exact bodyPost_ret (v := .agg #[.int .i64 0, .int .i64 0, .int .i64 3]) (by simp [results, Tryz.results56, go_sem, *]) rfl ⟨_, _, rfl, HP.out, ((hb.setCell (Nat.le_refl _) _).setCell (Nat.le_refl _) _).setCell (Nat.le_refl _) _⟩
  · have HP : Hid (RdIs szText s 0 3) := Or.inr (Or.inr ⟨by omega, fun n h => Classical.byContradiction fun h1 => by have := sz_size h h1; omega, rfl, rfl⟩)
    have hq1 : ((szText (-1)).toList == s.toList) = false := beq_no (fun e => h0 (by rw [← e]; rfl))
    clear h0
    go_enter Tryz.func56, Tryz.ntmps56
    go_wp2_with fail
    refine (ssizetext_any _ _).mono ?_
    rintro e w2 ⟨rfl, hb2⟩
    obtain ⟨c0, c1, c2, f0, f1, f2, hb, hz⟩ := slot3 (w := w) (w1 := w2) rfl rfl rfl rfl hb2
    go_wp2_with fail
    exact bodyPost_ret (v := .agg #[.int .i64 0, .int .i64 0, .int .i64 3]) (by simp [results, Tryz.results56, go_sem, *]) rfl ⟨_, _, rfl, HP.out, ((hb.setCell (Nat.le_refl _) _).setCell (Nat.le_refl _) _).setCell (Nat.le_refl _) _⟩

theorem last_m {s : ByteArray} (h : s.size - 1 < s.size) : s.extract (s.size - 1) s.size = wM ↔ ((s[s.size - 1]'h).toNat : Int) = 109 := by
  have hl : s.data.toList.length = s.size := (Lib.size_eq s).symm
  have h1 : (s.extract (s.size - 1) s.size).data.toList = [s[s.size - 1]'h] := by
    rw [Lib.extract_data, List.drop_eq_getElem_cons (by omega), list_at s _ h, show s.size - (s.size - 1) = 1 by omega]
    simp
  constructor
  · intro e
    rw [e] at h1
    simp only [wM, List.cons.injEq, and_true] at h1
    rw [← h1]; rfl
  · intro e
    apply bytes_ext
    rw [h1]
    have : s[s.size - 1]'h = 109 := UInt8.toNat_inj.1 (by have : (109 : UInt8).toNat = 109 := rfl; omega)
    rw [this]; rfl

set_option maxHeartbeats 1600000 in
theorem scpuread_any (s : ByteArray) (w : World) (hs : s.size ≤ 9223372036854775807) :
    Calls Tryz.prog 57 #[.string s] w (RdAns cpText s w) := by
  by_cases hl : 8000 < s.size
  · have HP : Hid (RdIs cpText s 0 2) := Or.inl ⟨hl, rfl, rfl⟩
    go_enter Tryz.func57, Tryz.ntmps57
    go_wp2
    exact bodyPost_ret (v := .agg #[.int .i64 0, .int .i64 0, .int .i64 2]) (by simp [results, Tryz.results57, go_sem]) rfl ⟨_, _, rfl, HP.out, (Below.refl _ _).alloc (Nat.le_refl _) _⟩
  by_cases h0 : s = ⟨#[]⟩
  · have HP : Hid (RdIs cpText s 0 3) := rd_empty (by omega) h0
    have he := emp_yes h0
    have h2 : s.size = 0 := by rw [h0]; rfl
    clear h0
    go_enter Tryz.func57, Tryz.ntmps57
    go_wp2_with fail
    refine (snum_any _ _ (by omega)).mono ?_
    rintro e w1 ⟨⟨v, rfl, hv⟩, rfl⟩
    clear hv
    go_wp2_with fail
    exact bodyPost_ret (v := .agg #[.int .i64 0, .int .i64 0, .int .i64 3]) (by simp [results, Tryz.results57, go_sem]) rfl ⟨_, _, rfl, HP.out, (Below.refl _ _).alloc (Nat.le_refl _) _⟩
  have h0' : 0 < s.size := by
    rcases Nat.eq_zero_or_pos s.size with h | h
    · exact absurd (bytes_ext (List.eq_nil_of_length_eq_zero (by rw [← Lib.size_eq]; exact h))) h0
    · exact h
  have he := toList_ne h0'
  clear h0
  have hlt : s.size - 1 < s.size := by omega
  by_cases hT : 1 < s.size ∧ s.extract (s.size - 1) s.size = wM
  · obtain ⟨h1, hT⟩ := hT
    have HT : Hid (s.extract (s.size - 1) s.size = wM) := hT
    have hTb : (((s[s.size - 1]'hlt).toNat : Int) == 109) = true := by simp [(last_m hlt).1 hT]
    clear hT
    go_enter Tryz.func57, Tryz.ntmps57
    go_wp2_with fail
    refine (snum_any _ _ (by omega)).mono ?_
    rintro e w1 ⟨⟨v0, rfl, hv0⟩, rfl⟩
    have hv01 := hv0.1
    have hv02 := hv0.2.1
    clear hv0
    go_wp2_with fail
    refine (snum_any _ _ (by rw [ByteArray.size_extract]; omega)).mono ?_
    rintro e w1 ⟨⟨v, rfl, hv⟩, rfl⟩
    have HV : Hid (∀ n, cpText n = s → ¬ s = ⟨#[]⟩ → v = n) := cp_want_m hv HT.out
    have hv1 := hv.1
    have hv2 := hv.2.1
    clear hv
    go_wp2_with fail
    refine (scputext_any _ _).mono ?_
    rintro e w2 ⟨rfl, hb2⟩
    obtain ⟨c0, c1, c2, f0, f1, f2, hb, hz⟩ := slot3 (w := w) (w1 := w2) rfl rfl rfl rfl hb2
    by_cases hq : cpText (v) = s
    · have HP : Hid (RdIs cpText s (v) 0) := rd_yes (by omega) (ne_of_size h0') hq
      have hq1 := beq_yes hq
      clear hq
      go_wp2_with fail
      exact bodyPost_ret (v := .agg #[.int .i64 (v), .int .i64 0, .int .i64 0]) (by simp [results, Tryz.results57, go_sem, *]) rfl ⟨_, _, rfl, HP.out, ((hb.setCell (Nat.le_refl _) _).setCell (Nat.le_refl _) _).setCell (Nat.le_refl _) _⟩
    · have HP : Hid (RdIs cpText s 0 3) := rd_no (by omega) HV.out hq
      have hq1 := beq_no hq
      clear hq
      go_wp2_with fail
      exact bodyPost_ret (v := .agg #[.int .i64 0, .int .i64 0, .int .i64 3]) (by simp [results, Tryz.results57, go_sem, *]) rfl ⟨_, _, rfl, HP.out, ((hb.setCell (Nat.le_refl _) _).setCell (Nat.le_refl _) _).setCell (Nat.le_refl _) _⟩
  · have HT : Hid (¬ (1 < s.size ∧ s.extract (s.size - 1) s.size = wM)) := hT
    have hB : (decide (1 < (s.size : Int)) = true ∧ (((s[s.size - 1]'hlt).toNat : Int) == 109) = false) ∨ decide (1 < (s.size : Int)) = false := by
      by_cases h : 1 < s.size
      · left; exact ⟨by simp; omega, by simp; exact fun e => hT ⟨h, (last_m hlt).2 e⟩⟩
      · right; simp; omega
    clear hT
    rcases hB with ⟨hB1, hB2⟩ | hB1
    all_goals
      go_enter Tryz.func57, Tryz.ntmps57
      go_wp2_with fail
      refine (snum_any _ _ (by omega)).mono ?_
      rintro e w1 ⟨⟨v, rfl, hv⟩, rfl⟩
      have HV : Hid (∀ n, cpText n = s → ¬ s = ⟨#[]⟩ → 1000 * v = n) := cp_want_no hv HT.out
      have hv1 := hv.1
      have hv2 := hv.2.1
      clear hv
      go_wp2_with fail
      refine (scputext_any _ _).mono ?_
      rintro e w2 ⟨rfl, hb2⟩
      obtain ⟨c0, c1, c2, f0, f1, f2, hb, hz⟩ := slot3 (w := w) (w1 := w2) rfl rfl rfl rfl hb2
      by_cases hq : cpText (1000 * v) = s
      · have HP : Hid (RdIs cpText s (1000 * v) 0) := rd_yes (by omega) (ne_of_size h0') hq
        have hq1 := beq_yes hq
        clear hq
        go_wp2_with fail
        exact bodyPost_ret (v := .agg #[.int .i64 (1000 * v), .int .i64 0, .int .i64 0]) (by simp [results, Tryz.results57, go_sem, *]) rfl ⟨_, _, rfl, HP.out, ((hb.setCell (Nat.le_refl _) _).setCell (Nat.le_refl _) _).setCell (Nat.le_refl _) _⟩
      · have HP : Hid (RdIs cpText s 0 3) := rd_no (by omega) HV.out hq
        have hq1 := beq_no hq
        clear hq
        go_wp2_with fail
        exact bodyPost_ret (v := .agg #[.int .i64 0, .int .i64 0, .int .i64 3]) (by simp [results, Tryz.results57, go_sem, *]) rfl ⟨_, _, rfl, HP.out, ((hb.setCell (Nat.le_refl _) _).setCell (Nat.le_refl _) _).setCell (Nat.le_refl _) _⟩

set_option maxHeartbeats 400000 in
theorem long_any (s : ByteArray) (w : World) :
    Calls Tryz.prog 42 #[.string s] w fun e w' => e = .returned (.bool (decide (8000 < s.size))) ∧ w = w' := by
  go_enter Tryz.func42, Tryz.ntmps42
  go_wp2
  go_ret
  exact ⟨by simp; omega, rfl⟩
theorem long_yes (s : ByteArray) (w : World) (h : 8000 < s.size) :
    Calls Tryz.prog 42 #[.string s] w fun e w' => e = .returned (.bool true) ∧ w = w' := by
  have := long_any s w; rw [decide_eq_true h] at this; exact this
theorem long_no (s : ByteArray) (w : World) (h : ¬ 8000 < s.size) :
    Calls Tryz.prog 42 #[.string s] w fun e w' => e = .returned (.bool false) ∧ w = w' := by
  have := long_any s w; rw [decide_eq_false h] at this; exact this

structure MRd (vs : Array Value) (w wr : World) : Prop where
  hm : wr.heap[w.heap.size]? = some (.cells vs 89 (0, 0))
  hr : wr.heap[w.heap.size + 1]? = some (.cells #[.int .i64 0, .int .i64 0, .int .i64 0] 69 (0, 0))
  hb : Below w.heap.size w wr
  hsz : w.heap.size + 2 ≤ wr.heap.size
theorem MRd.below {vs : Array Value} {w wr wx : World} (h : MRd vs w wr) (hb : Below wr.heap.size wr wx) : MRd vs w wx := by
  have h1 := h.hsz
  have h2 := hb.size
  exact ⟨by rw [hb.block _ (by omega)]; exact h.hm, by rw [hb.block _ (by omega)]; exact h.hr, h.hb.trans (hb.mono (by omega)), by omega⟩
theorem MRd.start (vs : Array Value) (w : World) : MRd vs w ((w.alloc (.cells vs 89)).alloc (.cells #[.int .i64 0, .int .i64 0, .int .i64 0] 69)) := by
  refine ⟨?_, ?_, ((Below.refl _ _).alloc (Nat.le_refl _) _).alloc (by simp) _, by simp⟩
  · rw [Below.heap_alloc _ _ _ (by simp)]
    show (w.heap.push _)[w.heap.size]? = _
    simp
  · show ((w.heap.push _).push _)[w.heap.size + 1]? = _
    rw [Array.getElem?_push, if_pos (by simp)]
theorem rx_no0 {l m e : Int} {w0 w1 s : ByteArray} {c : Int} {b : Bool} (hl : 0 ≤ l) (he : 0 < e) (hp : PnIs ⟨(Lib.trimSuffix s.data.toList w0.data.toList).toArray⟩ (m / e) c b) (hq : ¬ (b = true ∧ mtext l m e w0 w1 (c * e) = s)) (n : Int) (h : mtext l m e w0 w1 n = s) (hne : ¬ s = ⟨#[]⟩) : ¬ n % e = 0 := by
  intro hz
  obtain ⟨h1, h2, ⟨_, h4⟩ | ⟨h3, _⟩⟩ := mtext_form h hne
  · have h5 : IsDec ⟨(Lib.trimSuffix s.data.toList w0.data.toList).toArray⟩ (n / e).toNat := (dec_cut h4).2
    have h0 : 0 ≤ n / e := Int.ediv_nonneg (by omega) (by omega)
    obtain ⟨h6, h7⟩ := hp.2.2 _ h5 (by rw [Int.toNat_of_nonneg h0]; exact Int.ediv_le_ediv he h2)
    rw [Int.toNat_of_nonneg h0] at h6
    apply hq
    refine ⟨h7, ?_⟩
    rw [h6, Int.ediv_mul_cancel (Int.dvd_of_emod_eq_zero hz)]
    exact h
  · exact h3 hz
theorem rx_no1 {l m e : Int} {w0 w1 s : ByteArray} {c : Int} {b : Bool} (hl : 0 ≤ l) (hp : PnIs ⟨(Lib.trimSuffix s.data.toList w1.data.toList).toArray⟩ m c b) (hq : ¬ (b = true ∧ mtext l m e w0 w1 c = s)) (hx : ∀ n, mtext l m e w0 w1 n = s → ¬ s = ⟨#[]⟩ → ¬ n % e = 0) (n : Int) (h : mtext l m e w0 w1 n = s) : s = ⟨#[]⟩ := by
  apply Classical.byContradiction
  intro hne
  obtain ⟨h1, h2, ⟨h3, _⟩ | ⟨_, h4⟩⟩ := mtext_form h hne
  · exact hx n h hne h3
  · have h5 : IsDec ⟨(Lib.trimSuffix s.data.toList w1.data.toList).toArray⟩ n.toNat := (dec_cut h4).2
    obtain ⟨h6, h7⟩ := hp.2.2 _ h5 (by omega)
    rw [Int.toNat_of_nonneg (by omega)] at h6
    exact hq ⟨h7, by rw [h6]; exact h⟩
theorem rx_miss0 {l m e : Int} {w0 w1 s : ByteArray} (hf : Lib.hasSuffix s.data.toList w0.data.toList = false) (n : Int) (h : mtext l m e w0 w1 n = s) (hne : ¬ s = ⟨#[]⟩) : ¬ n % e = 0 := by
  intro hz
  obtain ⟨_, _, ⟨_, h4⟩ | ⟨h3, _⟩⟩ := mtext_form h hne
  · rw [(dec_cut h4).1] at hf; cases hf
  · exact h3 hz
theorem rx_miss1 {l m e : Int} {w0 w1 s : ByteArray} (hf : Lib.hasSuffix s.data.toList w1.data.toList = false) (hx : ∀ n, mtext l m e w0 w1 n = s → ¬ s = ⟨#[]⟩ → ¬ n % e = 0) (n : Int) (h : mtext l m e w0 w1 n = s) : s = ⟨#[]⟩ := by
  apply Classical.byContradiction
  intro hne
  obtain ⟨_, _, ⟨h3, _⟩ | ⟨_, h4⟩⟩ := mtext_form h hne
  · exact hx n h hne h3
  · rw [(dec_cut h4).1] at hf; cases hf
theorem suf_ne {s x : ByteArray} (h : Lib.hasSuffix s.data.toList x.data.toList = true) (hx : 0 < x.size) : ¬ s = ⟨#[]⟩ := by
  intro e
  have := List.IsSuffix.length_le (List.isSuffixOf_iff_suffix.1 h)
  rw [← Lib.size_eq, ← Lib.size_eq, e] at this
  have : (⟨#[]⟩ : ByteArray).size = 0 := rfl
  omega
theorem cp_ne {n : Int} {s : ByteArray} (h0 : 0 ≤ n) (h1 : n ≤ 1000000) (h : cpText n = s) : ¬ s = ⟨#[]⟩ := by
  intro e
  rw [e] at h
  unfold cpText at h
  have h3 := congrArg ByteArray.size h
  by_cases hz : n % 1000 = 0
  · rw [← mtext_great h0 h1 hz, size_app] at h3; have := dec_pos (n / 1000); have : (⟨#[]⟩ : ByteArray).size = 0 := rfl; omega
  · rw [← mtext_small h0 h1 hz, size_app] at h3; have := dec_pos n; have : (⟨#[]⟩ : ByteArray).size = 0 := rfl; omega
theorem trim_size {s x : ByteArray} (h : s.size ≤ 8000) : (⟨(Lib.trimSuffix s.data.toList x.data.toList).toArray⟩ : ByteArray).size ≤ 8000 := by
  rw [Lib.size_eq]
  have h1 : (Lib.trimSuffix s.data.toList x.data.toList).length ≤ s.data.toList.length := by
    unfold Lib.trimSuffix
    split
    · rw [List.length_take]; omega
    · exact Nat.le_refl _
  rw [← Lib.size_eq] at h1
  show (Lib.trimSuffix s.data.toList x.data.toList).length ≤ 8000
  omega
theorem cell_of {w : World} {b : Nat} {vs : Array Value} {T : TypeId} (h : w.heap[b]? = some (.cells vs T (0, 0))) (i : Nat) : w.cell? ⟨b, i, none⟩ = vs[i]? := by simp [World.cell?, h]
theorem frozen_of {w : World} {b : Nat} {vs : Array Value} {T : TypeId} (h : w.heap[b]? = some (.cells vs T (0, 0))) (i : Nat) : w.frozen? ⟨b, i, none⟩ = false := by simp [World.frozen?, h]

set_option maxHeartbeats 3200000 in
theorem isizeread_any (s : ByteArray) (w : World) (hs : s.size ≤ 9223372036854775807) (ht : ptab w) :
    Calls Tryz.prog 80 #[.agg #[.int .i64 1, .int .i64 1048576, .string wTi, .int .i64 1024, .string wGi, .int .i64 1], .string s] w (RdAns szText s w) := by
  by_cases hl : 8000 < s.size
  · have HP : Hid (RdIs szText s 0 2) := Or.inl ⟨hl, rfl, rfl⟩
    clear ht
    go_enter Tryz.func80, Tryz.ntmps80
    go_wp2_with fail
    refine (long_yes s _ hl).mono ?_
    rintro e w1 ⟨rfl, rfl⟩
    go_wp2_with fail
    exact bodyPost_ret (v := .agg #[.int .i64 0, .int .i64 0, .int .i64 2]) (by simp [results, Tryz.results80, go_sem]) rfl ⟨_, _, rfl, HP.out, ((Below.refl _ _).alloc (Nat.le_refl _) _).alloc (by simp) _⟩
  have HT : Hid (ptab w) := ht
  clear ht
  go_enter Tryz.func80, Tryz.ntmps80
  go_wp2_with fail
  refine (long_no s _ hl).mono ?_
  rintro e w1 ⟨rfl, rfl⟩
  go_wp2_with fail
  go_loopw [16] (fun v wr => ∃ k : Nat, (k = 0 ∨ k = 1 ∨ k = 2) ∧ v = .int .i64 k ∧ (1 ≤ k → ∀ n, szText n = s → ¬ s = ⟨#[]⟩ → ¬ n % 1024 = 0) ∧ (2 ≤ k → ∀ n, szText n = s → s = ⟨#[]⟩) ∧ MRd #[.int .i64 1, .int .i64 1048576, .string wTi, .int .i64 1024, .string wGi, .int .i64 1] w wr) (fun v _ => 2 - (intOf v).toNat)
  case atStart => exact ⟨0, Or.inl rfl, rfl, (fun h => by omega), (fun h => by omega), MRd.start _ _⟩
  case round =>
    obtain ⟨k, hk, rfl, hx0, hx1, hM⟩ := hrel
    have HM : Hid (MRd #[.int .i64 1, .int .i64 1048576, .string wTi, .int .i64 1024, .string wGi, .int .i64 1] w wr) := hM
    have hix0 := isize_ix0 wr
    have hix1 := isize_ix1 wr
    have hsz := hM.hsz
    rcases hk with rfl | rfl | rfl
    · clear hx0 hx1
      have hm1 : ∀ o, (wr.alloc o).cell? ⟨w.heap.size, 1, none⟩ = some (.int .i64 1048576) := fun o => (((Below.refl wr.heap.size wr).alloc (Nat.le_refl _) o).cell (by show w.heap.size < wr.heap.size; omega)).trans (cell_of hM.hm 1)
      clear hM
      cases hf : Lib.hasSuffix s.data.toList (wTi).data.toList
      · have HX : Hid (∀ n, szText n = s → ¬ s = ⟨#[]⟩ → ¬ n % 1024 = 0) := rx_miss0 hf
        go_wp2_with fail
        refine (cutsuf_any s wTi _ hs).mono ?_
        rw [hf]
        rintro e w1 ⟨rfl, rfl⟩
        go_wp2_with fail
        go_roundw
        case rel => exact ⟨1, Or.inr (Or.inl rfl), by go_num, (fun _ => HX.out), (fun h => by omega), HM.out.below ((Below.refl _ _).alloc (Nat.le_refl _) _)⟩
        case measure => simp [intOf]
      · have HF : Hid (Lib.hasSuffix s.data.toList (wTi).data.toList = true) := hf
        go_wp2_with fail
        refine (cutsuf_any s wTi _ hs).mono ?_
        rw [hf]
        rintro e w1 ⟨rfl, rfl⟩
        go_wp2_with fail
        refine (ipnum_any _ 1024 _ (trim_size (by omega)) (by decide) (by decide)).mono ?_
        rintro e w1 ⟨c, b, rfl, hp, hb1⟩
        obtain ⟨hk1, hk2, hk3⟩ := slotN hb1
        clear hb1
        have hM1 := HM.out.below hk2
        have HM1 : Hid (MRd #[.int .i64 1, .int .i64 1048576, .string wTi, .int .i64 1024, .string wGi, .int .i64 1] w w1) := hM1
        have he1 : w1.cell? ⟨wr.heap.size, 1, none⟩ = some (.int .i64 1024) := cell_of hk1 1
        have hc0 := hp.1
        have hc1 := hp.2.1
        cases b
        · have HX : Hid (∀ n, szText n = s → ¬ s = ⟨#[]⟩ → ¬ n % 1024 = 0) := rx_no0 (by decide) (by decide) hp (fun h => by cases h.1)
          clear hp hk1
          go_wp2_with fail
          go_roundw
          case rel => exact ⟨1, Or.inr (Or.inl rfl), by go_num, (fun _ => HX.out), (fun h => by omega), HM1.out⟩
          case measure => simp [intOf]
        · have g0 : w1.cell? ⟨w.heap.size, 0, none⟩ = some (.int .i64 1) := cell_of hM1.hm 0
          have g1 : w1.cell? ⟨w.heap.size, 1, none⟩ = some (.int .i64 1048576) := cell_of hM1.hm 1
          have g2 : w1.cell? ⟨w.heap.size, 2, none⟩ = some (.string wTi) := cell_of hM1.hm 2
          have g3 : w1.cell? ⟨w.heap.size, 3, none⟩ = some (.int .i64 1024) := cell_of hM1.hm 3
          have g4 : w1.cell? ⟨w.heap.size, 4, none⟩ = some (.string wGi) := cell_of hM1.hm 4
          have g5 : w1.cell? ⟨w.heap.size, 5, none⟩ = some (.int .i64 1) := cell_of hM1.hm 5
          have HK : Hid (w1.heap[wr.heap.size]? = some (.cells #[.string wTi, .int .i64 1024] 86 (0, 0))) := hk1
          clear hM1 hk1
          go_wp2_with fail
          refine (isizetext_any _ _ (HT.out.below HM1.out.hb)).mono ?_
          rintro e w2 ⟨rfl, hb2⟩
          have hM2 := HM1.out.below hb2
          have HM2 : Hid (MRd #[.int .i64 1, .int .i64 1048576, .string wTi, .int .i64 1024, .string wGi, .int .i64 1] w w2) := hM2
          have he2 : w2.cell? ⟨wr.heap.size, 1, none⟩ = some (.int .i64 1024) := by
            rw [hb2.cell (p := ⟨wr.heap.size, 1, none⟩) (by exact hk3)]
            exact cell_of HK.out 1
          have r0 : w2.cell? ⟨w.heap.size + 1, 0, none⟩ = some (.int .i64 0) := cell_of hM2.hr 0
          have r1 : w2.cell? ⟨w.heap.size + 1, 1, none⟩ = some (.int .i64 0) := cell_of hM2.hr 1
          have r2 : w2.cell? ⟨w.heap.size + 1, 2, none⟩ = some (.int .i64 0) := cell_of hM2.hr 2
          have q0 : w2.frozen? ⟨w.heap.size + 1, 0, none⟩ = false := frozen_of hM2.hr 0
          have q1 : w2.frozen? ⟨w.heap.size + 1, 1, none⟩ = false := frozen_of hM2.hr 1
          have q2 : w2.frozen? ⟨w.heap.size + 1, 2, none⟩ = false := frozen_of hM2.hr 2
          clear hM2 hb2
          by_cases hq : szText (c * 1024) = s
          · have HP : Hid (RdIs szText s (c * 1024) 0) := rd_yes (by omega) (suf_ne HF.out (by decide)) hq
            have hq1 : ((mtext 1 1048576 1024 wTi wGi (c * 1024)).toList == s.toList) = true := beq_yes hq
            clear hq hp
            go_wp2_with fail
            exact bodyPost_ret (v := .agg #[.int .i64 (c * 1024), .int .i64 0, .int .i64 0]) (by simp [results, Tryz.results80, go_sem, *]) rfl ⟨_, _, rfl, HP.out, ((HM2.out.hb.setCell (Nat.le_succ _) _).setCell (Nat.le_succ _) _).setCell (Nat.le_succ _) _⟩
          · have HX : Hid (∀ n, szText n = s → ¬ s = ⟨#[]⟩ → ¬ n % 1024 = 0) := rx_no0 (by decide) (by decide) hp (fun h => hq h.2)
            have hq1 : ((mtext 1 1048576 1024 wTi wGi (c * 1024)).toList == s.toList) = false := beq_no hq
            clear hq hp
            go_wp2_with fail
            go_roundw
            case rel => exact ⟨1, Or.inr (Or.inl rfl), by go_num, (fun _ => HX.out), (fun h => by omega), HM2.out⟩
            case measure => simp [intOf]
    · have HX0 : Hid (∀ n, szText n = s → ¬ s = ⟨#[]⟩ → ¬ n % 1024 = 0) := hx0 (Nat.le_refl _)
      clear hx0 hx1
      have hm1 : ∀ o, (wr.alloc o).cell? ⟨w.heap.size, 1, none⟩ = some (.int .i64 1048576) := fun o => (((Below.refl wr.heap.size wr).alloc (Nat.le_refl _) o).cell (by show w.heap.size < wr.heap.size; omega)).trans (cell_of hM.hm 1)
      clear hM
      cases hf : Lib.hasSuffix s.data.toList (wGi).data.toList
      · have HX : Hid (∀ n, szText n = s → s = ⟨#[]⟩) := rx_miss1 hf HX0.out
        go_wp2_with fail
        refine (cutsuf_any s wGi _ hs).mono ?_
        rw [hf]
        rintro e w1 ⟨rfl, rfl⟩
        go_wp2_with fail
        go_roundw
        case rel => exact ⟨2, Or.inr (Or.inr rfl), by go_num, (fun _ => HX0.out), (fun _ => HX.out), HM.out.below ((Below.refl _ _).alloc (Nat.le_refl _) _)⟩
        case measure => simp [intOf]
      · have HF : Hid (Lib.hasSuffix s.data.toList (wGi).data.toList = true) := hf
        go_wp2_with fail
        refine (cutsuf_any s wGi _ hs).mono ?_
        rw [hf]
        rintro e w1 ⟨rfl, rfl⟩
        go_wp2_with fail
        refine (ipnum_any _ 1048576 _ (trim_size (by omega)) (by decide) (by decide)).mono ?_
        rintro e w1 ⟨c, b, rfl, hp, hb1⟩
        obtain ⟨hk1, hk2, hk3⟩ := slotN hb1
        clear hb1
        have hM1 := HM.out.below hk2
        have HM1 : Hid (MRd #[.int .i64 1, .int .i64 1048576, .string wTi, .int .i64 1024, .string wGi, .int .i64 1] w w1) := hM1
        have he1 : w1.cell? ⟨wr.heap.size, 1, none⟩ = some (.int .i64 1) := cell_of hk1 1
        have hc0 := hp.1
        have hc1 := hp.2.1
        cases b
        · have HX : Hid (∀ n, szText n = s → s = ⟨#[]⟩) := rx_no1 (by decide) hp (fun h => by cases h.1) HX0.out
          clear hp hk1
          go_wp2_with fail
          go_roundw
          case rel => exact ⟨2, Or.inr (Or.inr rfl), by go_num, (fun _ => HX0.out), (fun _ => HX.out), HM1.out⟩
          case measure => simp [intOf]
        · have g0 : w1.cell? ⟨w.heap.size, 0, none⟩ = some (.int .i64 1) := cell_of hM1.hm 0
          have g1 : w1.cell? ⟨w.heap.size, 1, none⟩ = some (.int .i64 1048576) := cell_of hM1.hm 1
          have g2 : w1.cell? ⟨w.heap.size, 2, none⟩ = some (.string wTi) := cell_of hM1.hm 2
          have g3 : w1.cell? ⟨w.heap.size, 3, none⟩ = some (.int .i64 1024) := cell_of hM1.hm 3
          have g4 : w1.cell? ⟨w.heap.size, 4, none⟩ = some (.string wGi) := cell_of hM1.hm 4
          have g5 : w1.cell? ⟨w.heap.size, 5, none⟩ = some (.int .i64 1) := cell_of hM1.hm 5
          have HK : Hid (w1.heap[wr.heap.size]? = some (.cells #[.string wGi, .int .i64 1] 86 (0, 0))) := hk1
          clear hM1 hk1
          go_wp2_with fail
          refine (isizetext_any _ _ (HT.out.below HM1.out.hb)).mono ?_
          rintro e w2 ⟨rfl, hb2⟩
          have hM2 := HM1.out.below hb2
          have HM2 : Hid (MRd #[.int .i64 1, .int .i64 1048576, .string wTi, .int .i64 1024, .string wGi, .int .i64 1] w w2) := hM2
          have he2 : w2.cell? ⟨wr.heap.size, 1, none⟩ = some (.int .i64 1) := by
            rw [hb2.cell (p := ⟨wr.heap.size, 1, none⟩) (by exact hk3)]
            exact cell_of HK.out 1
          have r0 : w2.cell? ⟨w.heap.size + 1, 0, none⟩ = some (.int .i64 0) := cell_of hM2.hr 0
          have r1 : w2.cell? ⟨w.heap.size + 1, 1, none⟩ = some (.int .i64 0) := cell_of hM2.hr 1
          have r2 : w2.cell? ⟨w.heap.size + 1, 2, none⟩ = some (.int .i64 0) := cell_of hM2.hr 2
          have q0 : w2.frozen? ⟨w.heap.size + 1, 0, none⟩ = false := frozen_of hM2.hr 0
          have q1 : w2.frozen? ⟨w.heap.size + 1, 1, none⟩ = false := frozen_of hM2.hr 1
          have q2 : w2.frozen? ⟨w.heap.size + 1, 2, none⟩ = false := frozen_of hM2.hr 2
          clear hM2 hb2
          by_cases hq : szText (c) = s
          · have HP : Hid (RdIs szText s (c) 0) := rd_yes (by omega) (suf_ne HF.out (by decide)) hq
            have hq1 : ((mtext 1 1048576 1024 wTi wGi (c)).toList == s.toList) = true := beq_yes hq
            clear hq hp
            go_wp2_with fail
            exact bodyPost_ret (v := .agg #[.int .i64 (c), .int .i64 0, .int .i64 0]) (by simp [results, Tryz.results80, go_sem, *]) rfl ⟨_, _, rfl, HP.out, ((HM2.out.hb.setCell (Nat.le_succ _) _).setCell (Nat.le_succ _) _).setCell (Nat.le_succ _) _⟩
          · have HX : Hid (∀ n, szText n = s → s = ⟨#[]⟩) := rx_no1 (by decide) hp (fun h => hq h.2) HX0.out
            have hq1 : ((mtext 1 1048576 1024 wTi wGi (c)).toList == s.toList) = false := beq_no hq
            clear hq hp
            go_wp2_with fail
            go_roundw
            case rel => exact ⟨2, Or.inr (Or.inr rfl), by go_num, (fun _ => HX0.out), (fun _ => HX.out), HM2.out⟩
            case measure => simp [intOf]
    · have HP : Hid (RdIs szText s 0 3) := Or.inr (Or.inr ⟨by omega, hx1 (Nat.le_refl _), rfl, rfl⟩)
      clear hx0 hx1
      have r0 : wr.cell? ⟨w.heap.size + 1, 0, none⟩ = some (.int .i64 0) := cell_of hM.hr 0
      have r1 : wr.cell? ⟨w.heap.size + 1, 1, none⟩ = some (.int .i64 0) := cell_of hM.hr 1
      have r2 : wr.cell? ⟨w.heap.size + 1, 2, none⟩ = some (.int .i64 0) := cell_of hM.hr 2
      have q0 : wr.frozen? ⟨w.heap.size + 1, 0, none⟩ = false := frozen_of hM.hr 0
      have q1 : wr.frozen? ⟨w.heap.size + 1, 1, none⟩ = false := frozen_of hM.hr 1
      have q2 : wr.frozen? ⟨w.heap.size + 1, 2, none⟩ = false := frozen_of hM.hr 2
      clear hM
      go_wp2_with fail
      exact bodyPost_ret (v := .agg #[.int .i64 0, .int .i64 0, .int .i64 3]) (by simp [results, Tryz.results80, go_sem, *]) rfl ⟨_, _, rfl, HP.out, ((HM.out.hb.setCell (Nat.le_succ _) _).setCell (Nat.le_succ _) _).setCell (Nat.le_succ _) _⟩

set_option maxHeartbeats 3200000 in
theorem icpuread_any (s : ByteArray) (w : World) (hs : s.size ≤ 9223372036854775807) (ht : ptab w) :
    Calls Tryz.prog 80 #[.agg #[.int .i64 0, .int .i64 1000000, .string wNo, .int .i64 1000, .string wM, .int .i64 1], .string s] w (RdAns cpText s w) := by
  by_cases hl : 8000 < s.size
  · have HP : Hid (RdIs cpText s 0 2) := Or.inl ⟨hl, rfl, rfl⟩
    clear ht
    go_enter Tryz.func80, Tryz.ntmps80
    go_wp2_with fail
    refine (long_yes s _ hl).mono ?_
    rintro e w1 ⟨rfl, rfl⟩
    go_wp2_with fail
    exact bodyPost_ret (v := .agg #[.int .i64 0, .int .i64 0, .int .i64 2]) (by simp [results, Tryz.results80, go_sem]) rfl ⟨_, _, rfl, HP.out, ((Below.refl _ _).alloc (Nat.le_refl _) _).alloc (by simp) _⟩
  have HT : Hid (ptab w) := ht
  clear ht
  go_enter Tryz.func80, Tryz.ntmps80
  go_wp2_with fail
  refine (long_no s _ hl).mono ?_
  rintro e w1 ⟨rfl, rfl⟩
  go_wp2_with fail
  go_loopw [16] (fun v wr => ∃ k : Nat, (k = 0 ∨ k = 1 ∨ k = 2) ∧ v = .int .i64 k ∧ (1 ≤ k → ∀ n, cpText n = s → ¬ s = ⟨#[]⟩ → ¬ n % 1000 = 0) ∧ (2 ≤ k → ∀ n, cpText n = s → s = ⟨#[]⟩) ∧ MRd #[.int .i64 0, .int .i64 1000000, .string wNo, .int .i64 1000, .string wM, .int .i64 1] w wr) (fun v _ => 2 - (intOf v).toNat)
  case atStart => exact ⟨0, Or.inl rfl, rfl, (fun h => by omega), (fun h => by omega), MRd.start _ _⟩
  case round =>
    obtain ⟨k, hk, rfl, hx0, hx1, hM⟩ := hrel
    have HM : Hid (MRd #[.int .i64 0, .int .i64 1000000, .string wNo, .int .i64 1000, .string wM, .int .i64 1] w wr) := hM
    have hix0 := icpu_ix0 wr
    have hix1 := icpu_ix1 wr
    have hsz := hM.hsz
    rcases hk with rfl | rfl | rfl
    · clear hx0 hx1
      have hm1 : ∀ o, (wr.alloc o).cell? ⟨w.heap.size, 1, none⟩ = some (.int .i64 1000000) := fun o => (((Below.refl wr.heap.size wr).alloc (Nat.le_refl _) o).cell (by show w.heap.size < wr.heap.size; omega)).trans (cell_of hM.hm 1)
      clear hM
      cases hf : Lib.hasSuffix s.data.toList (wNo).data.toList
      · have HX : Hid (∀ n, cpText n = s → ¬ s = ⟨#[]⟩ → ¬ n % 1000 = 0) := rx_miss0 hf
        go_wp2_with fail
        refine (cutsuf_any s wNo _ hs).mono ?_
        rw [hf]
        rintro e w1 ⟨rfl, rfl⟩
        go_wp2_with fail
        go_roundw
        case rel => exact ⟨1, Or.inr (Or.inl rfl), by go_num, (fun _ => HX.out), (fun h => by omega), HM.out.below ((Below.refl _ _).alloc (Nat.le_refl _) _)⟩
        case measure => simp [intOf]
      · have HF : Hid (Lib.hasSuffix s.data.toList (wNo).data.toList = true) := hf
        go_wp2_with fail
        refine (cutsuf_any s wNo _ hs).mono ?_
        rw [hf]
        rintro e w1 ⟨rfl, rfl⟩
        go_wp2_with fail
        refine (ipnum_any _ 1000 _ (trim_size (by omega)) (by decide) (by decide)).mono ?_
        rintro e w1 ⟨c, b, rfl, hp, hb1⟩
        obtain ⟨hk1, hk2, hk3⟩ := slotN hb1
        clear hb1
        have hM1 := HM.out.below hk2
        have HM1 : Hid (MRd #[.int .i64 0, .int .i64 1000000, .string wNo, .int .i64 1000, .string wM, .int .i64 1] w w1) := hM1
        have he1 : w1.cell? ⟨wr.heap.size, 1, none⟩ = some (.int .i64 1000) := cell_of hk1 1
        have hc0 := hp.1
        have hc1 := hp.2.1
        cases b
        · have HX : Hid (∀ n, cpText n = s → ¬ s = ⟨#[]⟩ → ¬ n % 1000 = 0) := rx_no0 (by decide) (by decide) hp (fun h => by cases h.1)
          clear hp hk1
          go_wp2_with fail
          go_roundw
          case rel => exact ⟨1, Or.inr (Or.inl rfl), by go_num, (fun _ => HX.out), (fun h => by omega), HM1.out⟩
          case measure => simp [intOf]
        · have g0 : w1.cell? ⟨w.heap.size, 0, none⟩ = some (.int .i64 0) := cell_of hM1.hm 0
          have g1 : w1.cell? ⟨w.heap.size, 1, none⟩ = some (.int .i64 1000000) := cell_of hM1.hm 1
          have g2 : w1.cell? ⟨w.heap.size, 2, none⟩ = some (.string wNo) := cell_of hM1.hm 2
          have g3 : w1.cell? ⟨w.heap.size, 3, none⟩ = some (.int .i64 1000) := cell_of hM1.hm 3
          have g4 : w1.cell? ⟨w.heap.size, 4, none⟩ = some (.string wM) := cell_of hM1.hm 4
          have g5 : w1.cell? ⟨w.heap.size, 5, none⟩ = some (.int .i64 1) := cell_of hM1.hm 5
          have HK : Hid (w1.heap[wr.heap.size]? = some (.cells #[.string wNo, .int .i64 1000] 86 (0, 0))) := hk1
          clear hM1 hk1
          go_wp2_with fail
          refine (icputext_any _ _ (HT.out.below HM1.out.hb)).mono ?_
          rintro e w2 ⟨rfl, hb2⟩
          have hM2 := HM1.out.below hb2
          have HM2 : Hid (MRd #[.int .i64 0, .int .i64 1000000, .string wNo, .int .i64 1000, .string wM, .int .i64 1] w w2) := hM2
          have he2 : w2.cell? ⟨wr.heap.size, 1, none⟩ = some (.int .i64 1000) := by
            rw [hb2.cell (p := ⟨wr.heap.size, 1, none⟩) (by exact hk3)]
            exact cell_of HK.out 1
          have r0 : w2.cell? ⟨w.heap.size + 1, 0, none⟩ = some (.int .i64 0) := cell_of hM2.hr 0
          have r1 : w2.cell? ⟨w.heap.size + 1, 1, none⟩ = some (.int .i64 0) := cell_of hM2.hr 1
          have r2 : w2.cell? ⟨w.heap.size + 1, 2, none⟩ = some (.int .i64 0) := cell_of hM2.hr 2
          have q0 : w2.frozen? ⟨w.heap.size + 1, 0, none⟩ = false := frozen_of hM2.hr 0
          have q1 : w2.frozen? ⟨w.heap.size + 1, 1, none⟩ = false := frozen_of hM2.hr 1
          have q2 : w2.frozen? ⟨w.heap.size + 1, 2, none⟩ = false := frozen_of hM2.hr 2
          clear hM2 hb2
          by_cases hq : cpText (c * 1000) = s
          · have HP : Hid (RdIs cpText s (c * 1000) 0) := rd_yes (by omega) (cp_ne (by omega) (by omega) hq) hq
            have hq1 : ((mtext 0 1000000 1000 wNo wM (c * 1000)).toList == s.toList) = true := beq_yes hq
            clear hq hp
            go_wp2_with fail
            exact bodyPost_ret (v := .agg #[.int .i64 (c * 1000), .int .i64 0, .int .i64 0]) (by simp [results, Tryz.results80, go_sem, *]) rfl ⟨_, _, rfl, HP.out, ((HM2.out.hb.setCell (Nat.le_succ _) _).setCell (Nat.le_succ _) _).setCell (Nat.le_succ _) _⟩
          · have HX : Hid (∀ n, cpText n = s → ¬ s = ⟨#[]⟩ → ¬ n % 1000 = 0) := rx_no0 (by decide) (by decide) hp (fun h => hq h.2)
            have hq1 : ((mtext 0 1000000 1000 wNo wM (c * 1000)).toList == s.toList) = false := beq_no hq
            clear hq hp
            go_wp2_with fail
            go_roundw
            case rel => exact ⟨1, Or.inr (Or.inl rfl), by go_num, (fun _ => HX.out), (fun h => by omega), HM2.out⟩
            case measure => simp [intOf]
    · have HX0 : Hid (∀ n, cpText n = s → ¬ s = ⟨#[]⟩ → ¬ n % 1000 = 0) := hx0 (Nat.le_refl _)
      clear hx0 hx1
      have hm1 : ∀ o, (wr.alloc o).cell? ⟨w.heap.size, 1, none⟩ = some (.int .i64 1000000) := fun o => (((Below.refl wr.heap.size wr).alloc (Nat.le_refl _) o).cell (by show w.heap.size < wr.heap.size; omega)).trans (cell_of hM.hm 1)
      clear hM
      cases hf : Lib.hasSuffix s.data.toList (wM).data.toList
      · have HX : Hid (∀ n, cpText n = s → s = ⟨#[]⟩) := rx_miss1 hf HX0.out
        go_wp2_with fail
        refine (cutsuf_any s wM _ hs).mono ?_
        rw [hf]
        rintro e w1 ⟨rfl, rfl⟩
        go_wp2_with fail
        go_roundw
        case rel => exact ⟨2, Or.inr (Or.inr rfl), by go_num, (fun _ => HX0.out), (fun _ => HX.out), HM.out.below ((Below.refl _ _).alloc (Nat.le_refl _) _)⟩
        case measure => simp [intOf]
      · have HF : Hid (Lib.hasSuffix s.data.toList (wM).data.toList = true) := hf
        go_wp2_with fail
        refine (cutsuf_any s wM _ hs).mono ?_
        rw [hf]
        rintro e w1 ⟨rfl, rfl⟩
        go_wp2_with fail
        refine (ipnum_any _ 1000000 _ (trim_size (by omega)) (by decide) (by decide)).mono ?_
        rintro e w1 ⟨c, b, rfl, hp, hb1⟩
        obtain ⟨hk1, hk2, hk3⟩ := slotN hb1
        clear hb1
        have hM1 := HM.out.below hk2
        have HM1 : Hid (MRd #[.int .i64 0, .int .i64 1000000, .string wNo, .int .i64 1000, .string wM, .int .i64 1] w w1) := hM1
        have he1 : w1.cell? ⟨wr.heap.size, 1, none⟩ = some (.int .i64 1) := cell_of hk1 1
        have hc0 := hp.1
        have hc1 := hp.2.1
        cases b
        · have HX : Hid (∀ n, cpText n = s → s = ⟨#[]⟩) := rx_no1 (by decide) hp (fun h => by cases h.1) HX0.out
          clear hp hk1
          go_wp2_with fail
          go_roundw
          case rel => exact ⟨2, Or.inr (Or.inr rfl), by go_num, (fun _ => HX0.out), (fun _ => HX.out), HM1.out⟩
          case measure => simp [intOf]
        · have g0 : w1.cell? ⟨w.heap.size, 0, none⟩ = some (.int .i64 0) := cell_of hM1.hm 0
          have g1 : w1.cell? ⟨w.heap.size, 1, none⟩ = some (.int .i64 1000000) := cell_of hM1.hm 1
          have g2 : w1.cell? ⟨w.heap.size, 2, none⟩ = some (.string wNo) := cell_of hM1.hm 2
          have g3 : w1.cell? ⟨w.heap.size, 3, none⟩ = some (.int .i64 1000) := cell_of hM1.hm 3
          have g4 : w1.cell? ⟨w.heap.size, 4, none⟩ = some (.string wM) := cell_of hM1.hm 4
          have g5 : w1.cell? ⟨w.heap.size, 5, none⟩ = some (.int .i64 1) := cell_of hM1.hm 5
          have HK : Hid (w1.heap[wr.heap.size]? = some (.cells #[.string wM, .int .i64 1] 86 (0, 0))) := hk1
          clear hM1 hk1
          go_wp2_with fail
          refine (icputext_any _ _ (HT.out.below HM1.out.hb)).mono ?_
          rintro e w2 ⟨rfl, hb2⟩
          have hM2 := HM1.out.below hb2
          have HM2 : Hid (MRd #[.int .i64 0, .int .i64 1000000, .string wNo, .int .i64 1000, .string wM, .int .i64 1] w w2) := hM2
          have he2 : w2.cell? ⟨wr.heap.size, 1, none⟩ = some (.int .i64 1) := by
            rw [hb2.cell (p := ⟨wr.heap.size, 1, none⟩) (by exact hk3)]
            exact cell_of HK.out 1
          have r0 : w2.cell? ⟨w.heap.size + 1, 0, none⟩ = some (.int .i64 0) := cell_of hM2.hr 0
          have r1 : w2.cell? ⟨w.heap.size + 1, 1, none⟩ = some (.int .i64 0) := cell_of hM2.hr 1
          have r2 : w2.cell? ⟨w.heap.size + 1, 2, none⟩ = some (.int .i64 0) := cell_of hM2.hr 2
          have q0 : w2.frozen? ⟨w.heap.size + 1, 0, none⟩ = false := frozen_of hM2.hr 0
          have q1 : w2.frozen? ⟨w.heap.size + 1, 1, none⟩ = false := frozen_of hM2.hr 1
          have q2 : w2.frozen? ⟨w.heap.size + 1, 2, none⟩ = false := frozen_of hM2.hr 2
          clear hM2 hb2
          by_cases hq : cpText (c) = s
          · have HP : Hid (RdIs cpText s (c) 0) := rd_yes (by omega) (suf_ne HF.out (by decide)) hq
            have hq1 : ((mtext 0 1000000 1000 wNo wM (c)).toList == s.toList) = true := beq_yes hq
            clear hq hp
            go_wp2_with fail
            exact bodyPost_ret (v := .agg #[.int .i64 (c), .int .i64 0, .int .i64 0]) (by simp [results, Tryz.results80, go_sem, *]) rfl ⟨_, _, rfl, HP.out, ((HM2.out.hb.setCell (Nat.le_succ _) _).setCell (Nat.le_succ _) _).setCell (Nat.le_succ _) _⟩
          · have HX : Hid (∀ n, cpText n = s → s = ⟨#[]⟩) := rx_no1 (by decide) hp (fun h => hq h.2) HX0.out
            have hq1 : ((mtext 0 1000000 1000 wNo wM (c)).toList == s.toList) = false := beq_no hq
            clear hq hp
            go_wp2_with fail
            go_roundw
            case rel => exact ⟨2, Or.inr (Or.inr rfl), by go_num, (fun _ => HX0.out), (fun _ => HX.out), HM2.out⟩
            case measure => simp [intOf]
    · have HP : Hid (RdIs cpText s 0 3) := Or.inr (Or.inr ⟨by omega, hx1 (Nat.le_refl _), rfl, rfl⟩)
      clear hx0 hx1
      have r0 : wr.cell? ⟨w.heap.size + 1, 0, none⟩ = some (.int .i64 0) := cell_of hM.hr 0
      have r1 : wr.cell? ⟨w.heap.size + 1, 1, none⟩ = some (.int .i64 0) := cell_of hM.hr 1
      have r2 : wr.cell? ⟨w.heap.size + 1, 2, none⟩ = some (.int .i64 0) := cell_of hM.hr 2
      have q0 : wr.frozen? ⟨w.heap.size + 1, 0, none⟩ = false := frozen_of hM.hr 0
      have q1 : wr.frozen? ⟨w.heap.size + 1, 1, none⟩ = false := frozen_of hM.hr 1
      have q2 : wr.frozen? ⟨w.heap.size + 1, 2, none⟩ = false := frozen_of hM.hr 2
      clear hM
      go_wp2_with fail
      exact bodyPost_ret (v := .agg #[.int .i64 0, .int .i64 0, .int .i64 3]) (by simp [results, Tryz.results80, go_sem, *]) rfl ⟨_, _, rfl, HP.out, ((HM.out.hb.setCell (Nat.le_succ _) _).setCell (Nat.le_succ _) _).setCell (Nat.le_succ _) _⟩

set_option maxHeartbeats 400000 in
theorem iSizeRead_any (s : ByteArray) (w : World) (hs : s.size ≤ 9223372036854775807) (ht : ptab w) :
    Calls Tryz.prog 44 #[.string s] w (RdAns szText s w) := by
  have HT : Hid (ptab w) := ht
  clear ht
  go_enter Tryz.func44, Tryz.ntmps44
  go_wp2_with fail
  refine (isize_meas _).mono ?_
  rintro e w1 ⟨rfl, hb1⟩
  go_wp2_with fail
  refine (isizeread_any s _ hs (HT.out.below (((Below.refl _ _).alloc (Nat.le_refl _) _).trans (hb1.mono (by simp))))).mono ?_
  rintro e w2 ⟨a, c, rfl, hr, hb2⟩
  have HR : Hid (RdIs szText s a c) := hr
  obtain ⟨c0, c1, c2, f0, f1, f2, hb, hz⟩ := slot3 (w := w) (w1 := w2) rfl rfl rfl rfl (hb1.trans (hb2.mono hb1.size))
  clear hr hb1 hb2
  go_wp2_with fail
  exact bodyPost_ret (v := .agg #[.int .i64 a, .int .i64 0, .int .i64 c]) (by simp [results, Tryz.results44, go_sem, *]) rfl ⟨_, _, rfl, HR.out, ((hb.setCell (Nat.le_refl _) _).setCell (Nat.le_refl _) _).setCell (Nat.le_refl _) _⟩

set_option maxHeartbeats 400000 in
theorem iCpuRead_any (s : ByteArray) (w : World) (hs : s.size ≤ 9223372036854775807) (ht : ptab w) :
    Calls Tryz.prog 45 #[.string s] w (RdAns cpText s w) := by
  have HT : Hid (ptab w) := ht
  clear ht
  go_enter Tryz.func45, Tryz.ntmps45
  go_wp2_with fail
  refine (icpu_meas _).mono ?_
  rintro e w1 ⟨rfl, hb1⟩
  go_wp2_with fail
  refine (icpuread_any s _ hs (HT.out.below (((Below.refl _ _).alloc (Nat.le_refl _) _).trans (hb1.mono (by simp))))).mono ?_
  rintro e w2 ⟨a, c, rfl, hr, hb2⟩
  have HR : Hid (RdIs cpText s a c) := hr
  obtain ⟨c0, c1, c2, f0, f1, f2, hb, hz⟩ := slot3 (w := w) (w1 := w2) rfl rfl rfl rfl (hb1.trans (hb2.mono hb1.size))
  clear hr hb1 hb2
  go_wp2_with fail
  exact bodyPost_ret (v := .agg #[.int .i64 a, .int .i64 0, .int .i64 c]) (by simp [results, Tryz.results45, go_sem, *]) rfl ⟨_, _, rfl, HR.out, ((hb.setCell (Nat.le_refl _) _).setCell (Nat.le_refl _) _).setCell (Nat.le_refl _) _⟩

open Classical in
noncomputable def szN (s : ByteArray) : Int := if h : ∃ a c, RdIs szText s a c then h.choose else 0
theorem szN_is {s : ByteArray} {a c : Int} (h : RdIs szText s a c) : a = szN s := by
  have hx : ∃ a c, RdIs szText s a c := ⟨a, c, h⟩
  unfold szN
  rw [dif_pos hx]
  obtain ⟨c', h'⟩ := hx.choose_spec
  exact (RdIs.same sz_inj h h').1
def claimOutV (n : ByteArray) (z : Int) (k : ByteArray) (x : Bool) (v : ByteArray) (c : Int) : Value := .agg #[.string n, .int .i64 z, .string k, .bool x, .string v, .int .i64 c]
def claimBad (c : Int) : Value := claimOutV ⟨#[]⟩ 0 ⟨#[]⟩ false ⟨#[]⟩ c
open Classical in
noncomputable def claimFive (s n u k y : ByteArray) : Value :=
  if claimX n (szN u) k (decide (y = wSingle)) ⟨#[]⟩ = s then claimOutV n (szN u) k (decide (y = wSingle)) ⟨#[]⟩ 0 else claimBad 3
noncomputable def claimR (s : ByteArray) : Value :=
  if 8000 < s.size then claimBad 2 else
  match wordsB s with
  | [_, n, u, k, y] => claimFive s n u k y
  | _ => claimBad 3
theorem claimR_long {s : ByteArray} (h : 8000 < s.size) : claimBad 2 = claimR s := by unfold claimR; rw [if_pos h]
theorem claimR_five {s a n u k y : ByteArray} (h : ¬ 8000 < s.size) (hw : wordsB s = [a, n, u, k, y]) : claimFive s n u k y = claimR s := by unfold claimR; rw [if_neg h, hw]
theorem claimR_not {s : ByteArray} (h : ¬ 8000 < s.size) (hw : ¬ (wordsB s).length = 5) : claimBad 3 = claimR s := by
  unfold claimR
  rw [if_neg h]
  split
  · rename_i e; rw [e] at hw; exact absurd rfl hw
  · rfl
theorem five_of {l : List ByteArray} (h : l.length = 5) : ∃ a b c d e, l = [a, b, c, d, e] := by
  match l, h with
  | [a, b, c, d, e], _ => exact ⟨a, b, c, d, e, rfl⟩
theorem single_dec (y : ByteArray) : (y.toList == [115, 105, 110, 103, 108, 101]) = decide (y = wSingle) := by
  by_cases h : y = wSingle
  · rw [h]; simp; rw [Lib.toList_data]; rfl
  · have := tl_no h
    rw [decide_eq_false h]
    rw [Lib.toList_data] at this ⊢
    rw [Lib.toList_data] at this
    exact this

theorem keep_cell {w w' : World} {b o : Nat} {v : Value} (hb : Below w.heap.size w w') (h : w.cell? ⟨b, o, none⟩ = some v) : w'.cell? ⟨b, o, none⟩ = some v := by
  rcases Nat.lt_or_ge b w.heap.size with h1 | h1
  · rw [cell_below hb h1]; exact h
  · simp [World.cell?, Array.getElem?_eq_none h1] at h
theorem lt_keep {w w' : World} (hb : Below w.heap.size w w') {b o : Nat} {v : Value} (h : w.cell? ⟨b, o, none⟩ = some v) : b < w'.heap.size := by
  rcases Nat.lt_or_ge b w.heap.size with h1 | h1
  · exact Nat.lt_of_lt_of_le h1 hb.size
  · simp [World.cell?, Array.getElem?_eq_none h1] at h
theorem keep_laid {w w' : World} {vs : Array Value} {T : TypeId} {j : Nat} {v : Value} (hb : Below (w.alloc (.cells vs T)).drew.heap.size (w.alloc (.cells vs T)).drew w') (h : vs[j]? = some v) : w'.cell? ⟨w.heap.size, j, none⟩ = some v ∧ w'.frozen? ⟨w.heap.size, j, none⟩ = false := by
  have e : w'.heap[w.heap.size]? = some (.cells vs T (0, 0)) := (hb.block w.heap.size (by simp)).trans Array.getElem?_push_size
  exact ⟨by rw [cellK e, h], by simp [World.frozen?, e]⟩

theorem numN (a b c : Int) (w : World) : (Instr.field 69 (.agg #[.int .i64 a, .int .i64 b, .int .i64 c]) 0).run Tryz.prog w = .ok (.int .i64 a) w := by kernel_rfl

theorem set5K {w1 V : World} {b : Nat} {u0 u1 u2 u3 u4 v0 v1 v2 v3 v4 : Value} {T : TypeId} (h : w1.heap[b]? = some (.cells #[u0, u1, u2, u3, u4] T (0, 0)))
    (hV : V = ((((w1.setCell ⟨b, 0, none⟩ v0).setCell ⟨b, 1, none⟩ v1).setCell ⟨b, 2, none⟩ v2).setCell ⟨b, 3, none⟩ v3).setCell ⟨b, 4, none⟩ v4) : V.heap[b]? = some (.cells #[v0, v1, v2, v3, v4] T (0, 0)) := by
  rw [hV]
  exact block_set (block_set (block_set (block_set (block_set h v0) v1) v2) v3) v4
theorem set_below5 {w w1 V : World} {B b : Nat} {v0 v1 v2 v3 v4 : Value} (hB : B ≤ b) (h : Below B w w1)
    (hV : V = ((((w1.setCell ⟨b, 0, none⟩ v0).setCell ⟨b, 1, none⟩ v1).setCell ⟨b, 2, none⟩ v2).setCell ⟨b, 3, none⟩ v3).setCell ⟨b, 4, none⟩ v4) : Below B w V := by
  rw [hV]
  exact ((((h.setCell (p := ⟨b, 0, none⟩) hB v0).setCell (p := ⟨b, 1, none⟩) hB v1).setCell (p := ⟨b, 2, none⟩) hB v2).setCell (p := ⟨b, 3, none⟩) hB v3).setCell (p := ⟨b, 4, none⟩) hB v4
theorem set_keeps5 {w1 V : World} {b k : Nat} {v0 v1 v2 v3 v4 : Value} {o : Option Obj} (hk : k ≠ b) (h : w1.heap[k]? = o)
    (hV : V = ((((w1.setCell ⟨b, 0, none⟩ v0).setCell ⟨b, 1, none⟩ v1).setCell ⟨b, 2, none⟩ v2).setCell ⟨b, 3, none⟩ v3).setCell ⟨b, 4, none⟩ v4) : V.heap[k]? = o := by
  rw [hV, Below.heap_setCell _ _ _ _ hk, Below.heap_setCell _ _ _ _ hk, Below.heap_setCell _ _ _ _ hk, Below.heap_setCell _ _ _ _ hk, Below.heap_setCell _ _ _ _ hk]
  exact h
theorem set_below6 {w w1 : World} {B b : Nat} {v0 v1 v2 v3 v4 v5 : Value} (hB : B ≤ b) (h : Below B w w1) :
    Below B w ((((((w1.setCell ⟨b, 0, none⟩ v0).setCell ⟨b, 1, none⟩ v1).setCell ⟨b, 2, none⟩ v2).setCell ⟨b, 3, none⟩ v3).setCell ⟨b, 4, none⟩ v4).setCell ⟨b, 5, none⟩ v5) :=
  (((((h.setCell (p := ⟨b, 0, none⟩) hB v0).setCell (p := ⟨b, 1, none⟩) hB v1).setCell (p := ⟨b, 2, none⟩) hB v2).setCell (p := ⟨b, 3, none⟩) hB v3).setCell (p := ⟨b, 4, none⟩) hB v4).setCell (p := ⟨b, 5, none⟩) hB v5
theorem frzK {w : World} {b : Nat} {vs : Array Value} {T : TypeId} (h : w.heap[b]? = some (.cells vs T (0, 0))) (i : Nat) : w.frozen? ⟨b, i, none⟩ = false := by simp [World.frozen?, h]
theorem ltK {w : World} {b : Nat} {o : Obj} (h : w.heap[b]? = some o) : b < w.heap.size := by
  rcases Nat.lt_or_ge b w.heap.size with h1 | h1
  · exact h1
  · rw [Array.getElem?_eq_none h1] at h; cases h
theorem drewK {B : Nat} {x w1 : World} (h : Below x.drew.heap.size x.drew w1) (hB : B ≤ x.heap.size) : Below B x w1 := ⟨h.os, h.tape, h.output, h.size, fun k hk => h.block k (Nat.lt_of_lt_of_le hk hB)⟩

set_option maxRecDepth 100000 in
set_option maxHeartbeats 6400000 in
theorem sclaimRead_any (s : ByteArray) (w : World) (hs : s.size ≤ 1048576) :
    Calls Tryz.prog 17 #[.string s] w fun e w' => e = .returned (claimR s) ∧ Below w.heap.size w w' := by
  by_cases h8 : 8000 < s.size
  · go_enter Tryz.func17, Tryz.ntmps17
    go_wp2
    exact bodyPost_ret (v := claimBad 2) (by simp [results, Tryz.results17, go_sem, claimBad, claimOutV]) rfl ⟨by rw [claimR_long h8], below1 _ _⟩
  have hs8 : s.size ≤ 8000 := by omega
  go_enter Tryz.func17, Tryz.ntmps17
  go_wp2_with fail
  refine (ssplit_any s _ hs8).mono ?_
  rintro e w1 ⟨g, m, cp, rfl, hrow, hg, hb⟩
  have hgw : w.heap.size < g := by simp at hg; omega
  obtain ⟨gr, hb1, -⟩ := slotK hb
  have HB := hidK hb1
  have HG := hidK gr
  clear hb hb1 hg
  by_cases hm : m = 5
  · subst hm
    clear gr
    obtain ⟨a0, a1, a2, a3, a4, hw⟩ := five_of hrow.1
    rw [hw] at hrow
    obtain ⟨-, h5c, -, hsz, hc⟩ := hrow
    rcases hc with h | ⟨b, o, e, hgl, hc⟩
    · cases h
    cases e
    have c1 : w1.cell? ⟨g, 1, none⟩ = some (.string a1) := by simpa using hc 1 a1 rfl
    have c2 : w1.cell? ⟨g, 2, none⟩ = some (.string a2) := by simpa using hc 2 a2 rfl
    have c3 : w1.cell? ⟨g, 3, none⟩ = some (.string a3) := by simpa using hc 3 a3 rfl
    have c4 : w1.cell? ⟨g, 4, none⟩ = some (.string a4) := by simpa using hc 4 a4 rfl
    have z2 := hsz 2 a2 rfl
    have HL := hidK hgl
    have HF := hidK hw
    have HZ := hidK hsz
    have h5 : (5 : Nat) ≤ cp := h5c
    obtain ⟨xb, hxb⟩ : ∃ xb, xb = decide (a4 = wSingle) := ⟨_, rfl⟩
    have hsd : (a4.toList == [115, 105, 110, 103, 108, 101]) = xb := (single_dec a4).trans hxb.symm
    have HX := hidK hxb
    clear hxb
    clear hc hw hsz hgl h5c
    have hN := numN
    have hg1 : ¬ g = w1.heap.size := Nat.ne_of_lt HL.out
    have hg0 : ¬ w1.heap.size = g := fun h => hg1 h.symm
    go_wp2_with fail
    go_region_held (fun w' => w'.cell? ⟨g, 1, none⟩ = some (.string a1) ∧ w'.cell? ⟨g, 2, none⟩ = some (.string a2) ∧ w'.cell? ⟨g, 3, none⟩ = some (.string a3) ∧ w'.cell? ⟨g, 4, none⟩ = some (.string a4)) (go_keep)
      (first
        | (go_at_call 56; refine (ssizeread_any a2 _ z2).mono ?_; rintro e w2 ⟨q, qc, rfl, hq, hb2⟩; obtain rfl := szN_is hq; have y1 : w2.cell? ⟨g, 1, none⟩ = some (.string a1) := keep_cell hb2 (by go_keep); have y2 : w2.cell? ⟨g, 2, none⟩ = some (.string a2) := keep_cell hb2 (by go_keep); have y3 : w2.cell? ⟨g, 3, none⟩ = some (.string a3) := keep_cell hb2 (by go_keep); have y4 : w2.cell? ⟨g, 4, none⟩ = some (.string a4) := keep_cell hb2 (by go_keep); have hg2 : ¬ g = w2.heap.size := Nat.ne_of_lt (lt_keep (o := 1) (v := .string a1) hb2 (by go_keep)); have hg3 : ¬ w2.heap.size = g := fun h => hg2 h.symm; try (obtain ⟨m0, f0⟩ := keep_laid (j := 0) hb2 rfl; obtain ⟨m1, f1⟩ := keep_laid (j := 1) hb2 rfl; obtain ⟨m2, f2⟩ := keep_laid (j := 2) hb2 rfl; obtain ⟨m3, f3⟩ := keep_laid (j := 3) hb2 rfl; obtain ⟨m4, f4⟩ := keep_laid (j := 4) hb2 rfl)))
    · -- the call first, then the block
      have HB2 := hidK (HB.out.trans (drewK hb2 HB.out.size))
      have gs2 := (hb2.block w.heap.size (ltK HG.out)).trans HG.out
      obtain ⟨V, hV⟩ : ∃ V, V = w2.alloc (.cells #[.string a1, .int .i64 (szN a2), .string a3, .bool xb, .string ⟨#[]⟩] 24) := ⟨_, rfl⟩
      obtain ⟨bc, hbc⟩ : ∃ bc, bc = w2.heap.size := ⟨_, rfl⟩
      rw [← hV, ← hbc]
      have gc : V.heap[bc]? = some (.cells #[.string a1, .int .i64 (szN a2), .string a3, .bool xb, .string ⟨#[]⟩] 24 (0, 0)) := by rw [hV, hbc]; exact Array.getElem?_push_size
      have gv : V.heap[w.heap.size]? = some (.cells #[.string ⟨#[]⟩, .int .i64 0, .string ⟨#[]⟩, .bool false, .string ⟨#[]⟩, .int .i64 0] 34 (0, 0)) := by rw [hV, Below.heap_alloc _ _ _ (ltK gs2)]; exact gs2
      have HV := hidK (show Below w.heap.size w V by rw [hV]; exact HB2.out.trans ((below1 _ _).mono HB2.out.size))
      have hbw : ¬ bc = w.heap.size := by rw [hbc]; exact Nat.ne_of_gt (ltK gs2)
      have hbw' : ¬ w.heap.size = bc := fun h => hbw h.symm
      rename_i hHeld
      clear hHeld hV hbc gs2 hb2 c1 c2 c3 c4 y1 y2 y3 y4 hg0 hg1 hg2 hg3 hN hsd hgw HL HB HB2 HG
      have e0 : V.cell? ⟨bc, 0, none⟩ = some (.string a1) := cellK gc 0
      have e1 : V.cell? ⟨bc, 1, none⟩ = some (.int .i64 (szN a2)) := cellK gc 1
      have e2 : V.cell? ⟨bc, 2, none⟩ = some (.string a3) := cellK gc 2
      have e3 : V.cell? ⟨bc, 3, none⟩ = some (.bool xb) := cellK gc 3
      have e4 : V.cell? ⟨bc, 4, none⟩ = some (.string ⟨#[]⟩) := cellK gc 4
      have HZ1 := hidK (HZ.out 1 a1 rfl)
      have HZ3 := hidK (HZ.out 3 a3 rfl)
      go_wp2_with fail
      refine (sclaimText_any a1 (szN a2) a3 xb ⟨#[]⟩ _ HZ1.out HZ3.out (by decide)).mono ?_
      rintro e w3 ⟨rfl, hb3⟩
      have gc3 := (hb3.block bc (ltK gc)).trans gc
      have gr3 := (hb3.block w.heap.size (ltK gv)).trans gv
      have k0 : w3.cell? ⟨bc, 0, none⟩ = some (.string a1) := cellK gc3 0
      have k1 : w3.cell? ⟨bc, 1, none⟩ = some (.int .i64 (szN a2)) := cellK gc3 1
      have k2 : w3.cell? ⟨bc, 2, none⟩ = some (.string a3) := cellK gc3 2
      have k3 : w3.cell? ⟨bc, 3, none⟩ = some (.bool xb) := cellK gc3 3
      have k4 : w3.cell? ⟨bc, 4, none⟩ = some (.string ⟨#[]⟩) := cellK gc3 4
      have r0 : w3.cell? ⟨w.heap.size, 0, none⟩ = some (.string ⟨#[]⟩) := cellK gr3 0
      have q0 : w3.frozen? ⟨w.heap.size, 0, none⟩ = false := frzK gr3 0
      have r1 : w3.cell? ⟨w.heap.size, 1, none⟩ = some (.int .i64 0) := cellK gr3 1
      have q1 : w3.frozen? ⟨w.heap.size, 1, none⟩ = false := frzK gr3 1
      have r2 : w3.cell? ⟨w.heap.size, 2, none⟩ = some (.string ⟨#[]⟩) := cellK gr3 2
      have q2 : w3.frozen? ⟨w.heap.size, 2, none⟩ = false := frzK gr3 2
      have r3 : w3.cell? ⟨w.heap.size, 3, none⟩ = some (.bool false) := cellK gr3 3
      have q3 : w3.frozen? ⟨w.heap.size, 3, none⟩ = false := frzK gr3 3
      have r4 : w3.cell? ⟨w.heap.size, 4, none⟩ = some (.string ⟨#[]⟩) := cellK gr3 4
      have q4 : w3.frozen? ⟨w.heap.size, 4, none⟩ = false := frzK gr3 4
      have r5 : w3.cell? ⟨w.heap.size, 5, none⟩ = some (.int .i64 0) := cellK gr3 5
      have q5 : w3.frozen? ⟨w.heap.size, 5, none⟩ = false := frzK gr3 5
      have HB3 := upB HV hb3
      clear hb3 gc gv gc3 gr3 e0 e1 e2 e3 e4
      by_cases hT : claimX a1 (szN a2) a3 xb ⟨#[]⟩ = s
      · have hq : ((claimX a1 (szN a2) a3 xb ⟨#[]⟩).toList == s.toList) = true := by rw [hT]; simp
        go_wp2_with fail
        refine bodyPost_ret (v := claimOutV a1 (szN a2) a3 xb ⟨#[]⟩ 0) (by simp [results, Tryz.results17, go_sem, claimOutV, *]) rfl ⟨?_, set_below6 (Nat.le_refl _) HB3.out⟩
        rw [← claimR_five h8 HF.out]
        unfold claimFive
        rw [← HX.out, if_pos hT]
      · have hq : ((claimX a1 (szN a2) a3 xb ⟨#[]⟩).toList == s.toList) = false := tl_no hT
        go_wp2_with fail
        refine bodyPost_ret (v := claimBad 3) (by simp [results, Tryz.results17, go_sem, claimBad, claimOutV, *]) rfl ⟨?_, set_below6 (Nat.le_refl _) HB3.out⟩
        rw [← claimR_five h8 HF.out]
        unfold claimFive
        rw [← HX.out, if_neg hT]
    · -- the block first, then the call
      have HB2 := hidK (HB.out.trans ((below1 _ _).mono HB.out.size |>.trans (drewK hb2 (Nat.le_trans HB.out.size (by simp)))))
      have gs2 : w2.heap[w.heap.size]? = _ := (hb2.block w.heap.size (Nat.lt_of_lt_of_le (ltK HG.out) (by simp))).trans ((Below.heap_alloc _ _ _ (ltK HG.out)).trans HG.out)
      have gx2 : w2.heap[w1.heap.size]? = some (.cells #[.string ⟨#[]⟩, .int .i64 0, .string ⟨#[]⟩, .bool false, .string ⟨#[]⟩] 24 (0, 0)) := (hb2.block w1.heap.size (by simp)).trans Array.getElem?_push_size
      obtain ⟨V, hV⟩ : ∃ V, V = ((((w2.setCell ⟨w1.heap.size, 0, none⟩ (.string a1)).setCell ⟨w1.heap.size, 1, none⟩ (.int .i64 (szN a2))).setCell ⟨w1.heap.size, 2, none⟩ (.string a3)).setCell ⟨w1.heap.size, 3, none⟩ (.bool xb)).setCell ⟨w1.heap.size, 4, none⟩ (.string ⟨#[]⟩) := ⟨_, rfl⟩
      obtain ⟨bc, hbc⟩ : ∃ bc, bc = w1.heap.size := ⟨_, rfl⟩
      have hwlt := ltK HG.out
      rw [← hV, ← hbc]
      rw [← hbc] at hV gx2 hwlt
      have gc : V.heap[bc]? = some (.cells #[.string a1, .int .i64 (szN a2), .string a3, .bool xb, .string ⟨#[]⟩] 24 (0, 0)) := set5K gx2 hV
      have gv : V.heap[w.heap.size]? = some (.cells #[.string ⟨#[]⟩, .int .i64 0, .string ⟨#[]⟩, .bool false, .string ⟨#[]⟩, .int .i64 0] 34 (0, 0)) := set_keeps5 (Nat.ne_of_lt hwlt) gs2 hV
      have HV := hidK (show Below w.heap.size w V from set_below5 (Nat.le_of_lt hwlt) HB2.out hV)
      have hbw : ¬ bc = w.heap.size := Nat.ne_of_gt hwlt
      have hbw' : ¬ w.heap.size = bc := fun h => hbw h.symm
      rename_i hHeld
      clear hHeld hV hbc gs2 gx2 hwlt hb2 c1 c2 c3 c4 y1 y2 y3 y4 hg0 hg1 hg2 hg3 hN hsd hgw m0 f0 m1 f1 m2 f2 m3 f3 m4 f4 HL HB HB2 HG
      have e0 : V.cell? ⟨bc, 0, none⟩ = some (.string a1) := cellK gc 0
      have e1 : V.cell? ⟨bc, 1, none⟩ = some (.int .i64 (szN a2)) := cellK gc 1
      have e2 : V.cell? ⟨bc, 2, none⟩ = some (.string a3) := cellK gc 2
      have e3 : V.cell? ⟨bc, 3, none⟩ = some (.bool xb) := cellK gc 3
      have e4 : V.cell? ⟨bc, 4, none⟩ = some (.string ⟨#[]⟩) := cellK gc 4
      have HZ1 := hidK (HZ.out 1 a1 rfl)
      have HZ3 := hidK (HZ.out 3 a3 rfl)
      go_wp2_with fail
      refine (sclaimText_any a1 (szN a2) a3 xb ⟨#[]⟩ _ HZ1.out HZ3.out (by decide)).mono ?_
      rintro e w3 ⟨rfl, hb3⟩
      have gc3 := (hb3.block bc (ltK gc)).trans gc
      have gr3 := (hb3.block w.heap.size (ltK gv)).trans gv
      have k0 : w3.cell? ⟨bc, 0, none⟩ = some (.string a1) := cellK gc3 0
      have k1 : w3.cell? ⟨bc, 1, none⟩ = some (.int .i64 (szN a2)) := cellK gc3 1
      have k2 : w3.cell? ⟨bc, 2, none⟩ = some (.string a3) := cellK gc3 2
      have k3 : w3.cell? ⟨bc, 3, none⟩ = some (.bool xb) := cellK gc3 3
      have k4 : w3.cell? ⟨bc, 4, none⟩ = some (.string ⟨#[]⟩) := cellK gc3 4
      have r0 : w3.cell? ⟨w.heap.size, 0, none⟩ = some (.string ⟨#[]⟩) := cellK gr3 0
      have q0 : w3.frozen? ⟨w.heap.size, 0, none⟩ = false := frzK gr3 0
      have r1 : w3.cell? ⟨w.heap.size, 1, none⟩ = some (.int .i64 0) := cellK gr3 1
      have q1 : w3.frozen? ⟨w.heap.size, 1, none⟩ = false := frzK gr3 1
      have r2 : w3.cell? ⟨w.heap.size, 2, none⟩ = some (.string ⟨#[]⟩) := cellK gr3 2
      have q2 : w3.frozen? ⟨w.heap.size, 2, none⟩ = false := frzK gr3 2
      have r3 : w3.cell? ⟨w.heap.size, 3, none⟩ = some (.bool false) := cellK gr3 3
      have q3 : w3.frozen? ⟨w.heap.size, 3, none⟩ = false := frzK gr3 3
      have r4 : w3.cell? ⟨w.heap.size, 4, none⟩ = some (.string ⟨#[]⟩) := cellK gr3 4
      have q4 : w3.frozen? ⟨w.heap.size, 4, none⟩ = false := frzK gr3 4
      have r5 : w3.cell? ⟨w.heap.size, 5, none⟩ = some (.int .i64 0) := cellK gr3 5
      have q5 : w3.frozen? ⟨w.heap.size, 5, none⟩ = false := frzK gr3 5
      have HB3 := upB HV hb3
      clear hb3 gc gv gc3 gr3 e0 e1 e2 e3 e4
      by_cases hT : claimX a1 (szN a2) a3 xb ⟨#[]⟩ = s
      · have hq : ((claimX a1 (szN a2) a3 xb ⟨#[]⟩).toList == s.toList) = true := by rw [hT]; simp
        go_wp2_with fail
        refine bodyPost_ret (v := claimOutV a1 (szN a2) a3 xb ⟨#[]⟩ 0) (by simp [results, Tryz.results17, go_sem, claimOutV, *]) rfl ⟨?_, set_below6 (Nat.le_refl _) HB3.out⟩
        rw [← claimR_five h8 HF.out]
        unfold claimFive
        rw [← HX.out, if_pos hT]
      · have hq : ((claimX a1 (szN a2) a3 xb ⟨#[]⟩).toList == s.toList) = false := tl_no hT
        go_wp2_with fail
        refine bodyPost_ret (v := claimBad 3) (by simp [results, Tryz.results17, go_sem, claimBad, claimOutV, *]) rfl ⟨?_, set_below6 (Nat.le_refl _) HB3.out⟩
        rw [← claimR_five h8 HF.out]
        unfold claimFive
        rw [← HX.out, if_neg hT]
  · have hm' : ¬ (m : Int) = 5 := by omega
    have hn5 : ¬ (wordsB s).length = 5 := by rw [hrow.1]; exact hm
    have hmb : ((m : Int) == 5) = false := by simp; omega
    have HN := hidK hn5
    have r0 : w1.cell? ⟨w.heap.size, 0, none⟩ = some (.string ⟨#[]⟩) := cellK gr 0
    have q0 : w1.frozen? ⟨w.heap.size, 0, none⟩ = false := frzK gr 0
    have r1 : w1.cell? ⟨w.heap.size, 1, none⟩ = some (.int .i64 0) := cellK gr 1
    have q1 : w1.frozen? ⟨w.heap.size, 1, none⟩ = false := frzK gr 1
    have r2 : w1.cell? ⟨w.heap.size, 2, none⟩ = some (.string ⟨#[]⟩) := cellK gr 2
    have q2 : w1.frozen? ⟨w.heap.size, 2, none⟩ = false := frzK gr 2
    have r3 : w1.cell? ⟨w.heap.size, 3, none⟩ = some (.bool false) := cellK gr 3
    have q3 : w1.frozen? ⟨w.heap.size, 3, none⟩ = false := frzK gr 3
    have r4 : w1.cell? ⟨w.heap.size, 4, none⟩ = some (.string ⟨#[]⟩) := cellK gr 4
    have q4 : w1.frozen? ⟨w.heap.size, 4, none⟩ = false := frzK gr 4
    have r5 : w1.cell? ⟨w.heap.size, 5, none⟩ = some (.int .i64 0) := cellK gr 5
    have q5 : w1.frozen? ⟨w.heap.size, 5, none⟩ = false := frzK gr 5
    clear gr hrow hn5
    go_wp2_with fail
    exact bodyPost_ret (v := claimBad 3) (by simp [results, Tryz.results17, go_sem, claimBad, claimOutV, *]) rfl ⟨by rw [← claimR_not h8 HN.out], set_below6 (Nat.le_refl _) HB.out⟩

set_option maxHeartbeats 400000 in
theorem tooLong_any (s : ByteArray) (w : World) (hs : s.size ≤ 9223372036854775807) :
    Calls Tryz.prog 42 #[.string s] w (BoolAns (8000 < s.size) w) := by
  go_enter Tryz.func42, Tryz.ntmps42
  go_wp2
  go_ret
  exact ⟨_, rfl, by simp; omega, rfl⟩

set_option maxRecDepth 100000 in
set_option maxHeartbeats 6400000 in
theorem iclaimRead_any (s : ByteArray) (w : World) (hs : s.size ≤ 1048576) (ht : ptab w) (hmx : mxl w) :
    Calls Tryz.prog 10 #[.string s] w fun e w' => e = .returned (claimR s) ∧ Below w.heap.size w w' := by
  have HT := hidK ht
  have HM := hidK hmx
  clear ht hmx
  by_cases h8 : 8000 < s.size
  · go_enter Tryz.func10, Tryz.ntmps10
    go_wp2_with fail
    refine (tooLong_any s _ (by omega)).mono ?_
    rintro e w1 ⟨r, rfl, hr, rfl⟩
    obtain rfl : r = true := hr.2 h8
    clear hr
    go_wp2_with fail
    exact bodyPost_ret (v := claimBad 2) (by simp [results, Tryz.results10, go_sem, claimBad, claimOutV]) rfl ⟨by rw [claimR_long h8], below1 _ _⟩
  have hs8 : s.size ≤ 8000 := by omega
  go_enter Tryz.func10, Tryz.ntmps10
  go_wp2_with (go_at_call 42; refine (tooLong_any s _ (by omega)).mono ?_; rintro e w1 ⟨r, rfl, hr, rfl⟩; obtain rfl : r = false := Bool.eq_false_iff.2 (fun h => h8 (hr.1 h)); clear hr)
  refine (unworded_any s _ hs8 (HM.out.below (below1 _ _))).mono ?_
  rintro e w1 ⟨g, m, cp, rfl, hrow, hg, hb⟩
  have hgw : w.heap.size < g := by simp at hg; omega
  obtain ⟨gr, hb1, -⟩ := slotK hb
  have HB := hidK hb1
  have HG := hidK gr
  clear hb hb1 hg
  by_cases hm : m = 5
  · subst hm
    clear gr
    obtain ⟨a0, a1, a2, a3, a4, hw⟩ := five_of hrow.1
    rw [hw] at hrow
    obtain ⟨-, h5c, -, hsz, hc⟩ := hrow
    rcases hc with h | ⟨b, o, e, hgl, hc⟩
    · cases h
    cases e
    have c1 : w1.cell? ⟨g, 1, none⟩ = some (.string a1) := by simpa using hc 1 a1 rfl
    have c2 : w1.cell? ⟨g, 2, none⟩ = some (.string a2) := by simpa using hc 2 a2 rfl
    have c3 : w1.cell? ⟨g, 3, none⟩ = some (.string a3) := by simpa using hc 3 a3 rfl
    have c4 : w1.cell? ⟨g, 4, none⟩ = some (.string a4) := by simpa using hc 4 a4 rfl
    have z2 := hsz 2 a2 rfl
    have HL := hidK hgl
    have HF := hidK hw
    have HZ := hidK hsz
    have h5 : (5 : Nat) ≤ cp := h5c
    obtain ⟨xb, hxb⟩ : ∃ xb, xb = decide (a4 = wSingle) := ⟨_, rfl⟩
    have hsd : (a4.toList == [115, 105, 110, 103, 108, 101]) = xb := (single_dec a4).trans hxb.symm
    have HX := hidK hxb
    clear hxb
    clear hc hw hsz hgl h5c
    have hN := numN
    have hg1 : ¬ g = w1.heap.size := Nat.ne_of_lt HL.out
    have hg0 : ¬ w1.heap.size = g := fun h => hg1 h.symm
    have HPA := hidK (fun x (hx : Below w1.heap.size w1 x) => HT.out.below (HB.out.trans (hx.mono HB.out.size)))
    go_wp2_with fail
    go_region_held (fun w' => w'.cell? ⟨g, 1, none⟩ = some (.string a1) ∧ w'.cell? ⟨g, 2, none⟩ = some (.string a2) ∧ w'.cell? ⟨g, 3, none⟩ = some (.string a3) ∧ w'.cell? ⟨g, 4, none⟩ = some (.string a4)) (go_keep)
      (first
        | (go_at_call 44; refine (iSizeRead_any a2 _ z2 (HPA.out _ (by first | exact (Below.refl _ _).drew | exact ((below1 _ _).drew)))).mono ?_; rintro e w2 ⟨q, qc, rfl, hq, hb2⟩; obtain rfl := szN_is hq; have y1 : w2.cell? ⟨g, 1, none⟩ = some (.string a1) := keep_cell hb2 (by go_keep); have y2 : w2.cell? ⟨g, 2, none⟩ = some (.string a2) := keep_cell hb2 (by go_keep); have y3 : w2.cell? ⟨g, 3, none⟩ = some (.string a3) := keep_cell hb2 (by go_keep); have y4 : w2.cell? ⟨g, 4, none⟩ = some (.string a4) := keep_cell hb2 (by go_keep); have hg2 : ¬ g = w2.heap.size := Nat.ne_of_lt (lt_keep (o := 1) (v := .string a1) hb2 (by go_keep)); have hg3 : ¬ w2.heap.size = g := fun h => hg2 h.symm; try (obtain ⟨m0, f0⟩ := keep_laid (j := 0) hb2 rfl; obtain ⟨m1, f1⟩ := keep_laid (j := 1) hb2 rfl; obtain ⟨m2, f2⟩ := keep_laid (j := 2) hb2 rfl; obtain ⟨m3, f3⟩ := keep_laid (j := 3) hb2 rfl; obtain ⟨m4, f4⟩ := keep_laid (j := 4) hb2 rfl)))
    · -- the call first, then the block
      have HB2 := hidK (HB.out.trans (drewK hb2 HB.out.size))
      have gs2 := (hb2.block w.heap.size (ltK HG.out)).trans HG.out
      obtain ⟨V, hV⟩ : ∃ V, V = w2.alloc (.cells #[.string a1, .int .i64 (szN a2), .string a3, .bool xb, .string ⟨#[]⟩] 24) := ⟨_, rfl⟩
      obtain ⟨bc, hbc⟩ : ∃ bc, bc = w2.heap.size := ⟨_, rfl⟩
      rw [← hV, ← hbc]
      have gc : V.heap[bc]? = some (.cells #[.string a1, .int .i64 (szN a2), .string a3, .bool xb, .string ⟨#[]⟩] 24 (0, 0)) := by rw [hV, hbc]; exact Array.getElem?_push_size
      have gv : V.heap[w.heap.size]? = some (.cells #[.string ⟨#[]⟩, .int .i64 0, .string ⟨#[]⟩, .bool false, .string ⟨#[]⟩, .int .i64 0] 34 (0, 0)) := by rw [hV, Below.heap_alloc _ _ _ (ltK gs2)]; exact gs2
      have HV := hidK (show Below w.heap.size w V by rw [hV]; exact HB2.out.trans ((below1 _ _).mono HB2.out.size))
      have hbw : ¬ bc = w.heap.size := by rw [hbc]; exact Nat.ne_of_gt (ltK gs2)
      have hbw' : ¬ w.heap.size = bc := fun h => hbw h.symm
      rename_i hHeld
      clear hHeld hV hbc gs2 hb2 c1 c2 c3 c4 y1 y2 y3 y4 hg0 hg1 hg2 hg3 hN hsd hgw HL HB HB2 HG
      have e0 : V.cell? ⟨bc, 0, none⟩ = some (.string a1) := cellK gc 0
      have e1 : V.cell? ⟨bc, 1, none⟩ = some (.int .i64 (szN a2)) := cellK gc 1
      have e2 : V.cell? ⟨bc, 2, none⟩ = some (.string a3) := cellK gc 2
      have e3 : V.cell? ⟨bc, 3, none⟩ = some (.bool xb) := cellK gc 3
      have e4 : V.cell? ⟨bc, 4, none⟩ = some (.string ⟨#[]⟩) := cellK gc 4
      have HZ1 := hidK (HZ.out 1 a1 rfl)
      have HZ3 := hidK (HZ.out 3 a3 rfl)
      go_wp2_with fail
      refine (iclaimText_any a1 (szN a2) a3 xb ⟨#[]⟩ _ HZ1.out HZ3.out (by decide) (HT.out.below HV.out)).mono ?_
      rintro e w3 ⟨rfl, hb3⟩
      have gc3 := (hb3.block bc (ltK gc)).trans gc
      have gr3 := (hb3.block w.heap.size (ltK gv)).trans gv
      have k0 : w3.cell? ⟨bc, 0, none⟩ = some (.string a1) := cellK gc3 0
      have k1 : w3.cell? ⟨bc, 1, none⟩ = some (.int .i64 (szN a2)) := cellK gc3 1
      have k2 : w3.cell? ⟨bc, 2, none⟩ = some (.string a3) := cellK gc3 2
      have k3 : w3.cell? ⟨bc, 3, none⟩ = some (.bool xb) := cellK gc3 3
      have k4 : w3.cell? ⟨bc, 4, none⟩ = some (.string ⟨#[]⟩) := cellK gc3 4
      have r0 : w3.cell? ⟨w.heap.size, 0, none⟩ = some (.string ⟨#[]⟩) := cellK gr3 0
      have q0 : w3.frozen? ⟨w.heap.size, 0, none⟩ = false := frzK gr3 0
      have r1 : w3.cell? ⟨w.heap.size, 1, none⟩ = some (.int .i64 0) := cellK gr3 1
      have q1 : w3.frozen? ⟨w.heap.size, 1, none⟩ = false := frzK gr3 1
      have r2 : w3.cell? ⟨w.heap.size, 2, none⟩ = some (.string ⟨#[]⟩) := cellK gr3 2
      have q2 : w3.frozen? ⟨w.heap.size, 2, none⟩ = false := frzK gr3 2
      have r3 : w3.cell? ⟨w.heap.size, 3, none⟩ = some (.bool false) := cellK gr3 3
      have q3 : w3.frozen? ⟨w.heap.size, 3, none⟩ = false := frzK gr3 3
      have r4 : w3.cell? ⟨w.heap.size, 4, none⟩ = some (.string ⟨#[]⟩) := cellK gr3 4
      have q4 : w3.frozen? ⟨w.heap.size, 4, none⟩ = false := frzK gr3 4
      have r5 : w3.cell? ⟨w.heap.size, 5, none⟩ = some (.int .i64 0) := cellK gr3 5
      have q5 : w3.frozen? ⟨w.heap.size, 5, none⟩ = false := frzK gr3 5
      have HB3 := upB HV hb3
      clear hb3 gc gv gc3 gr3 e0 e1 e2 e3 e4
      by_cases hT : claimX a1 (szN a2) a3 xb ⟨#[]⟩ = s
      · have hq : ((claimX a1 (szN a2) a3 xb ⟨#[]⟩).toList == s.toList) = true := by rw [hT]; simp
        go_wp2_with fail
        refine bodyPost_ret (v := claimOutV a1 (szN a2) a3 xb ⟨#[]⟩ 0) (by simp [results, Tryz.results10, go_sem, claimOutV, *]) rfl ⟨?_, set_below6 (Nat.le_refl _) HB3.out⟩
        rw [← claimR_five h8 HF.out]
        unfold claimFive
        rw [← HX.out, if_pos hT]
      · have hq : ((claimX a1 (szN a2) a3 xb ⟨#[]⟩).toList == s.toList) = false := tl_no hT
        go_wp2_with fail
        refine bodyPost_ret (v := claimBad 3) (by simp [results, Tryz.results10, go_sem, claimBad, claimOutV, *]) rfl ⟨?_, set_below6 (Nat.le_refl _) HB3.out⟩
        rw [← claimR_five h8 HF.out]
        unfold claimFive
        rw [← HX.out, if_neg hT]
    · -- the block first, then the call
      have HB2 := hidK (HB.out.trans ((below1 _ _).mono HB.out.size |>.trans (drewK hb2 (Nat.le_trans HB.out.size (by simp)))))
      have gs2 : w2.heap[w.heap.size]? = _ := (hb2.block w.heap.size (Nat.lt_of_lt_of_le (ltK HG.out) (by simp))).trans ((Below.heap_alloc _ _ _ (ltK HG.out)).trans HG.out)
      have gx2 : w2.heap[w1.heap.size]? = some (.cells #[.string ⟨#[]⟩, .int .i64 0, .string ⟨#[]⟩, .bool false, .string ⟨#[]⟩] 24 (0, 0)) := (hb2.block w1.heap.size (by simp)).trans Array.getElem?_push_size
      obtain ⟨V, hV⟩ : ∃ V, V = ((((w2.setCell ⟨w1.heap.size, 0, none⟩ (.string a1)).setCell ⟨w1.heap.size, 1, none⟩ (.int .i64 (szN a2))).setCell ⟨w1.heap.size, 2, none⟩ (.string a3)).setCell ⟨w1.heap.size, 3, none⟩ (.bool xb)).setCell ⟨w1.heap.size, 4, none⟩ (.string ⟨#[]⟩) := ⟨_, rfl⟩
      obtain ⟨bc, hbc⟩ : ∃ bc, bc = w1.heap.size := ⟨_, rfl⟩
      have hwlt := ltK HG.out
      rw [← hV, ← hbc]
      rw [← hbc] at hV gx2 hwlt
      have gc : V.heap[bc]? = some (.cells #[.string a1, .int .i64 (szN a2), .string a3, .bool xb, .string ⟨#[]⟩] 24 (0, 0)) := set5K gx2 hV
      have gv : V.heap[w.heap.size]? = some (.cells #[.string ⟨#[]⟩, .int .i64 0, .string ⟨#[]⟩, .bool false, .string ⟨#[]⟩, .int .i64 0] 34 (0, 0)) := set_keeps5 (Nat.ne_of_lt hwlt) gs2 hV
      have HV := hidK (show Below w.heap.size w V from set_below5 (Nat.le_of_lt hwlt) HB2.out hV)
      have hbw : ¬ bc = w.heap.size := Nat.ne_of_gt hwlt
      have hbw' : ¬ w.heap.size = bc := fun h => hbw h.symm
      rename_i hHeld
      clear hHeld hV hbc gs2 gx2 hwlt hb2 c1 c2 c3 c4 y1 y2 y3 y4 hg0 hg1 hg2 hg3 hN hsd hgw m0 f0 m1 f1 m2 f2 m3 f3 m4 f4 HL HB HB2 HG
      have e0 : V.cell? ⟨bc, 0, none⟩ = some (.string a1) := cellK gc 0
      have e1 : V.cell? ⟨bc, 1, none⟩ = some (.int .i64 (szN a2)) := cellK gc 1
      have e2 : V.cell? ⟨bc, 2, none⟩ = some (.string a3) := cellK gc 2
      have e3 : V.cell? ⟨bc, 3, none⟩ = some (.bool xb) := cellK gc 3
      have e4 : V.cell? ⟨bc, 4, none⟩ = some (.string ⟨#[]⟩) := cellK gc 4
      have HZ1 := hidK (HZ.out 1 a1 rfl)
      have HZ3 := hidK (HZ.out 3 a3 rfl)
      go_wp2_with fail
      refine (iclaimText_any a1 (szN a2) a3 xb ⟨#[]⟩ _ HZ1.out HZ3.out (by decide) (HT.out.below HV.out)).mono ?_
      rintro e w3 ⟨rfl, hb3⟩
      have gc3 := (hb3.block bc (ltK gc)).trans gc
      have gr3 := (hb3.block w.heap.size (ltK gv)).trans gv
      have k0 : w3.cell? ⟨bc, 0, none⟩ = some (.string a1) := cellK gc3 0
      have k1 : w3.cell? ⟨bc, 1, none⟩ = some (.int .i64 (szN a2)) := cellK gc3 1
      have k2 : w3.cell? ⟨bc, 2, none⟩ = some (.string a3) := cellK gc3 2
      have k3 : w3.cell? ⟨bc, 3, none⟩ = some (.bool xb) := cellK gc3 3
      have k4 : w3.cell? ⟨bc, 4, none⟩ = some (.string ⟨#[]⟩) := cellK gc3 4
      have r0 : w3.cell? ⟨w.heap.size, 0, none⟩ = some (.string ⟨#[]⟩) := cellK gr3 0
      have q0 : w3.frozen? ⟨w.heap.size, 0, none⟩ = false := frzK gr3 0
      have r1 : w3.cell? ⟨w.heap.size, 1, none⟩ = some (.int .i64 0) := cellK gr3 1
      have q1 : w3.frozen? ⟨w.heap.size, 1, none⟩ = false := frzK gr3 1
      have r2 : w3.cell? ⟨w.heap.size, 2, none⟩ = some (.string ⟨#[]⟩) := cellK gr3 2
      have q2 : w3.frozen? ⟨w.heap.size, 2, none⟩ = false := frzK gr3 2
      have r3 : w3.cell? ⟨w.heap.size, 3, none⟩ = some (.bool false) := cellK gr3 3
      have q3 : w3.frozen? ⟨w.heap.size, 3, none⟩ = false := frzK gr3 3
      have r4 : w3.cell? ⟨w.heap.size, 4, none⟩ = some (.string ⟨#[]⟩) := cellK gr3 4
      have q4 : w3.frozen? ⟨w.heap.size, 4, none⟩ = false := frzK gr3 4
      have r5 : w3.cell? ⟨w.heap.size, 5, none⟩ = some (.int .i64 0) := cellK gr3 5
      have q5 : w3.frozen? ⟨w.heap.size, 5, none⟩ = false := frzK gr3 5
      have HB3 := upB HV hb3
      clear hb3 gc gv gc3 gr3 e0 e1 e2 e3 e4
      by_cases hT : claimX a1 (szN a2) a3 xb ⟨#[]⟩ = s
      · have hq : ((claimX a1 (szN a2) a3 xb ⟨#[]⟩).toList == s.toList) = true := by rw [hT]; simp
        go_wp2_with fail
        refine bodyPost_ret (v := claimOutV a1 (szN a2) a3 xb ⟨#[]⟩ 0) (by simp [results, Tryz.results10, go_sem, claimOutV, *]) rfl ⟨?_, set_below6 (Nat.le_refl _) HB3.out⟩
        rw [← claimR_five h8 HF.out]
        unfold claimFive
        rw [← HX.out, if_pos hT]
      · have hq : ((claimX a1 (szN a2) a3 xb ⟨#[]⟩).toList == s.toList) = false := tl_no hT
        go_wp2_with fail
        refine bodyPost_ret (v := claimBad 3) (by simp [results, Tryz.results10, go_sem, claimBad, claimOutV, *]) rfl ⟨?_, set_below6 (Nat.le_refl _) HB3.out⟩
        rw [← claimR_five h8 HF.out]
        unfold claimFive
        rw [← HX.out, if_neg hT]
  · have hm' : ¬ (m : Int) = 5 := by omega
    have hn5 : ¬ (wordsB s).length = 5 := by rw [hrow.1]; exact hm
    have hmb : ((m : Int) == 5) = false := by simp; omega
    have HN := hidK hn5
    have r0 : w1.cell? ⟨w.heap.size, 0, none⟩ = some (.string ⟨#[]⟩) := cellK gr 0
    have q0 : w1.frozen? ⟨w.heap.size, 0, none⟩ = false := frzK gr 0
    have r1 : w1.cell? ⟨w.heap.size, 1, none⟩ = some (.int .i64 0) := cellK gr 1
    have q1 : w1.frozen? ⟨w.heap.size, 1, none⟩ = false := frzK gr 1
    have r2 : w1.cell? ⟨w.heap.size, 2, none⟩ = some (.string ⟨#[]⟩) := cellK gr 2
    have q2 : w1.frozen? ⟨w.heap.size, 2, none⟩ = false := frzK gr 2
    have r3 : w1.cell? ⟨w.heap.size, 3, none⟩ = some (.bool false) := cellK gr 3
    have q3 : w1.frozen? ⟨w.heap.size, 3, none⟩ = false := frzK gr 3
    have r4 : w1.cell? ⟨w.heap.size, 4, none⟩ = some (.string ⟨#[]⟩) := cellK gr 4
    have q4 : w1.frozen? ⟨w.heap.size, 4, none⟩ = false := frzK gr 4
    have r5 : w1.cell? ⟨w.heap.size, 5, none⟩ = some (.int .i64 0) := cellK gr 5
    have q5 : w1.frozen? ⟨w.heap.size, 5, none⟩ = false := frzK gr 5
    clear gr hrow hn5
    go_wp2_with fail
    exact bodyPost_ret (v := claimBad 3) (by simp [results, Tryz.results10, go_sem, claimBad, claimOutV, *]) rfl ⟨by rw [← claimR_not h8 HN.out], set_below6 (Nat.le_refl _) HB.out⟩

def wPod : ByteArray := ⟨#[112, 111, 100]⟩
def wDash : ByteArray := ⟨#[45]⟩
open Classical in
noncomputable def zoneT (z : ByteArray) : ByteArray := if z = ⟨#[]⟩ then wDash else z
noncomputable def podHead (n : ByteArray) (c : Int) (z : ByteArray) : List ByteArray := [wPod, n, cpText c, zoneT z]
noncomputable def podT (n : ByteArray) (c : Int) (z : ByteArray) (zs : List ByteArray) : ByteArray := wordsOf (podHead n c z ++ zs)
open Classical in
noncomputable def podX (n : ByteArray) (c : Int) (z : ByteArray) (zs : List ByteArray) (d : ByteArray) (p : Int) : ByteArray := if PodOk n c z zs d p ∧ p = 0 then podT n c z zs else ⟨#[]⟩
theorem podX_no {n : ByteArray} {c : Int} {z : ByteArray} {zs : List ByteArray} {d : ByteArray} {p : Int} (h : ¬ (PodOk n c z zs d p ∧ p = 0)) : (⟨#[]⟩ : ByteArray) = podX n c z zs d p := by unfold podX; rw [if_neg h]
theorem podX_yes {n : ByteArray} {c : Int} {z : ByteArray} {zs : List ByteArray} {d : ByteArray} (h : PodOk n c z zs d 0) : podT n c z zs = podX n c z zs d 0 := by unfold podX; rw [if_pos ⟨h, rfl⟩]
theorem zoneT_no : zoneT ⟨#[]⟩ = wDash := by unfold zoneT; rw [if_pos rfl]
theorem zoneT_yes {z : ByteArray} (h : ¬ z = ⟨#[]⟩) : zoneT z = z := by unfold zoneT; rw [if_neg h]
theorem pwords_data (xs : List ByteArray) : (wordsOf xs).data.toList = Lib.join (xs.map (·.data.toList)) [32] := rfl
theorem words_snoc (x : ByteArray) (xs : List ByteArray) (y : ByteArray) : wordsOf (x :: (xs ++ [y])) = wordsOf (x :: xs) ++ ⟨#[32]⟩ ++ y := by
  apply bytes_ext
  rw [pwords_data, bytes_append, bytes_append, pwords_data, List.map_cons, List.map_cons, Lib.join_cons, Lib.join_cons]
  simp [Lib.joinTail]
theorem pod_start_no (n : ByteArray) (c : Int) : (⟨#[112, 111, 100, 32]⟩ : ByteArray) ++ n ++ ⟨#[32]⟩ ++ cpText c ++ ⟨#[32]⟩ ++ ⟨#[45]⟩ = wordsOf (podHead n c ⟨#[]⟩) := by
  apply bytes_ext
  rw [pwords_data, podHead, zoneT_no]
  simp [Lib.join, List.intercalate, List.intersperse, wPod, wDash]
theorem pod_start_yes (n : ByteArray) (c : Int) {z : ByteArray} (h : ¬ z = ⟨#[]⟩) : (⟨#[112, 111, 100, 32]⟩ : ByteArray) ++ n ++ ⟨#[32]⟩ ++ cpText c ++ ⟨#[32]⟩ ++ z = wordsOf (podHead n c z) := by
  apply bytes_ext
  rw [pwords_data, podHead, zoneT_yes h]
  simp [Lib.join, List.intercalate, List.intersperse, wPod]
theorem pod_step {n : ByteArray} {c : Int} {z : ByteArray} {zs : List ByteArray} {k : Nat} {x : ByteArray} (hx : zs[k]? = some x) : wordsOf (podHead n c z ++ zs.take k) ++ ⟨#[32]⟩ ++ x = wordsOf (podHead n c z ++ zs.take (k + 1)) := by
  rw [List.take_add_one, hx]
  have e : podHead n c z ++ (zs.take k ++ (some x).toList) = wPod :: (([n, cpText c, zoneT z] ++ zs.take k) ++ [x]) := by simp [podHead]
  rw [e, words_snoc]
  simp [podHead]
theorem size_appP (a b : ByteArray) : (a ++ b).size = a.size + b.size := by rw [Lib.size_eq, bytes_append, List.length_append, ← Lib.size_eq, ← Lib.size_eq]
theorem cpText_size (c : Int) : (cpText c).size ≤ 9 := by
  unfold cpText mtext
  split
  · exact Nat.zero_le _
  · split
    · have := dec_size (n := c / 1000) (by omega)
      rw [size_appP]
      have e : wNo.size = 0 := rfl
      omega
    · have := dec_size (n := c) (by omega)
      rw [size_appP]
      have e : wM.size = 1 := rfl
      omega
theorem below_drewP {B : Nat} {x w1 : World} (h : Below x.drew.heap.size x.drew w1) (hB : B ≤ x.heap.size) : Below B x w1 := ⟨h.os, h.tape, h.output, h.size, fun k hk => h.block k (Nat.lt_of_lt_of_le hk hB)⟩
theorem lt_of_someP {w : World} {b : Nat} {o : Obj} (h : w.heap[b]? = some o) : b < w.heap.size := by
  rcases Nat.lt_or_ge b w.heap.size with h1 | h1
  · exact h1
  · rw [Array.getElem?_eq_none h1] at h; cases h

theorem lens_le {xs : List (List UInt8)} (h : ∀ x ∈ xs, x.length ≤ 20) : Lib.lens xs ≤ 20 * xs.length := by
  induction xs with
  | nil => simp [Lib.lens]
  | cons a l ih =>
    have h1 := h a (by simp)
    have h2 := ih fun x hx => h x (by simp [hx])
    simp only [Lib.lens, List.map_cons, List.sum_cons, List.length_cons] at h2 ⊢
    omega
theorem zoneT_size {z : ByteArray} (h : ZoneOk z) : (zoneT z).size ≤ 20 := by
  by_cases hz : z = ⟨#[]⟩
  · subst hz; rw [zoneT_no]; decide
  · rw [zoneT_yes hz]
    rcases h with h | h
    · exact absurd h hz
    · exact h.2.1
theorem pod_len {n : ByteArray} {c : Int} {z : ByteArray} {zs : List ByteArray} {d : ByteArray} {p : Int} (h : PodOk n c z zs d p) : (Lib.join ((podHead n c z ++ zs).map (·.data.toList)) [32]).length ≤ 1000 := by
  have hn := h.1.2.1
  have hc := cpText_size c
  have hz := zoneT_size h.2.2.1
  have hl := h.2.2.2.1.1
  have hs : ∀ x ∈ zs.map (·.data.toList), x.length ≤ 20 := by
    intro x hx
    obtain ⟨y, hy, rfl⟩ := List.mem_map.1 hx
    obtain ⟨i, hi, rfl⟩ := List.getElem_of_mem hy
    have := (h.2.2.2.1.2 i _ (List.getElem?_eq_getElem hi)).1.2.1
    rw [Lib.size_eq] at this
    exact this
  have hL := lens_le hs
  rw [Lib.size_eq] at hn hc hz
  have e : (podHead n c z ++ zs).map (·.data.toList) = wPod.data.toList :: (n.data.toList :: (cpText c).data.toList :: (zoneT z).data.toList :: zs.map (·.data.toList)) := by simp [podHead]
  rw [e, Lib.join_cons, List.length_append, Lib.joinTail_length]
  simp only [Lib.lens, List.map_cons, List.sum_cons, List.length_cons, List.length_map] at hL ⊢
  have hw : wPod.data.toList.length = 3 := rfl
  simp only [List.length_nil]
  omega
theorem infoStrP : (Tryz.prog.info? 9).map (fun i => (i.zero, i.size, i.bytes)) = some (some (.string ⟨#[]⟩), 1, 16) := by kernel_rfl
theorem own_cells {w : World} {base n : Nat} {e : TypeId} {v : Value} {xs : List ByteArray} (h : w.ownsRow base e 1 v n (xs.map Value.string)) (h0 : 0 < n) :
    ∃ g cap, v = .slice (some ⟨g, 0, none⟩) n cap ∧ n ≤ cap ∧ cap ≤ 9223372036854775807 ∧ g < w.heap.size ∧ xs.length = n ∧ ∀ (j : Nat) x, xs[j]? = some x → w.cell? ⟨g, 0 + j, none⟩ = some (.string x) := by
  obtain ⟨hl, h⟩ := h
  rcases h with ⟨_, h1⟩ | ⟨g, cap, cur, rfl, _, hg, hnc, hcm, hsz, htk⟩
  · omega
  · refine ⟨g, cap, rfl, hnc, by unfold maxLen at hcm; omega, lt_of_someP hg, by simpa using hl, fun j x hx => ?_⟩
    rw [Nat.zero_add, cellK hg]
    have hj : j < n := by
      have := (List.getElem?_eq_some_iff.1 hx).1
      simp at hl; omega
    have e1 : (cur.toList.take (n * 1))[j]? = some (.string x) := by rw [htk]; simp [hx]
    rw [List.getElem?_take, if_pos (by omega)] at e1
    simpa using e1

set_option maxHeartbeats 400000 in
theorem zoneText_any (z : ByteArray) (w : World) :
    Calls Tryz.prog 38 #[.string z] w fun e w' => e = .returned (.string (zoneT z)) ∧ w = w' := by
  by_cases h : z = ⟨#[]⟩
  · subst h
    go_enter Tryz.func38, Tryz.ntmps38
    go_wp2
    go_ret
    exact ⟨ret_str zoneT_no.symm, rfl⟩
  · have hq := isE_no h
    go_enter Tryz.func38, Tryz.ntmps38
    go_wp2
    go_ret
    exact ⟨ret_str (zoneT_yes h).symm, rfl⟩

set_option maxHeartbeats 3200000 in
theorem ipodText_any (n : ByteArray) (c : Int) (z : ByteArray) (a : Option Addr) (len cap : Nat) (zs : List ByteArray) (d : ByteArray) (p : Int) (w : World) (hn : n.size ≤ 9223372036854775807) (hz : z.size ≤ 9223372036854775807) (hd : d.size ≤ 9223372036854775807) (hr : TxRow w a len cap zs) (hnil : a = none → cap = 0) (ht : ptab w) :
    Calls Tryz.prog 7 #[.agg #[.string n, .int .i64 c, .string z, .slice a len cap, .string d, .int .i64 p]] w fun e w' => e = .returned (.string (podX n c z zs d p)) ∧ Below w.heap.size w w' := by
  have HT := hidK ht
  have HR : Hid (TxRow w a len cap zs) := hr
  clear ht hr
  go_enter Tryz.func7, Tryz.ntmps7
  go_wp2_with fail
  refine (ipod_any n c z a len cap zs d p _ hn hz hd (HR.out.below (below1 _ _))).mono ?_
  rintro e w1 ⟨r, rfl, hr, hb⟩
  obtain ⟨g, hb1, -⟩ := slotK hb
  have HB := hidK hb1
  have HG := hidK g
  have HL := hidK (lt_of_someP g)
  have c0 : w1.cell? ⟨w.heap.size, 0, none⟩ = some (.string n) := cellK g 0
  have c1 : w1.cell? ⟨w.heap.size, 1, none⟩ = some (.int .i64 c) := cellK g 1
  have c2 : w1.cell? ⟨w.heap.size, 2, none⟩ = some (.string z) := cellK g 2
  have c3 : w1.cell? ⟨w.heap.size, 3, none⟩ = some (.slice a len cap) := cellK g 3
  have c5 : w1.cell? ⟨w.heap.size, 5, none⟩ = some (.int .i64 p) := cellK g 5
  clear hb hb1 g
  by_cases hq : r = true
  case neg =>
    have HN := hidK (fun h => hq (hr.2 h))
    have hrf : r = false := by simpa using hq
    clear hr
    go_wp2_with fail
    go_ret
    exact ⟨ret_str (podX_no fun h => HN.out h.1), HB.out⟩
  have h0 := hidK (hr.1 hq)
  subst hq
  clear hr
  by_cases hp : p = 0
  case neg =>
    have hpq : (p == 0) = false := by simp [hp]
    have HN := hidK hp
    clear hp
    go_wp2_with fail
    go_ret
    exact ⟨ret_str (podX_no fun h => HN.out h.2), HB.out⟩
  subst hp
  go_wp2_with fail
  have HP := hidK (HT.out.below HB.out.drew)
  go_region_held (fun w' => w'.cell? ⟨w.heap.size, 0, none⟩ = some (.string n) ∧ w'.cell? ⟨w.heap.size, 1, none⟩ = some (.int .i64 c) ∧ w'.cell? ⟨w.heap.size, 2, none⟩ = some (.string z) ∧ w'.cell? ⟨w.heap.size, 3, none⟩ = some (.slice a len cap)) (go_keep)
    (first
      | (go_at_call 37; refine (icpuText_any c _ HP.out).mono ?_; rintro e w2 ⟨rfl, hb2⟩; have y0 : w2.cell? ⟨w.heap.size, 0, none⟩ = some (.string n) := (cell_below hb2 HL.out).trans c0; have y1 : w2.cell? ⟨w.heap.size, 1, none⟩ = some (.int .i64 c) := (cell_below hb2 HL.out).trans c1; have y2 : w2.cell? ⟨w.heap.size, 2, none⟩ = some (.string z) := (cell_below hb2 HL.out).trans c2; have y3 : w2.cell? ⟨w.heap.size, 3, none⟩ = some (.slice a len cap) := (cell_below hb2 HL.out).trans c3)
      | (go_at_call 38; refine (zoneText_any z _).mono ?_; rintro e w3 ⟨rfl, rfl⟩))
  have h20 : (Lib.join ((podHead n c z ++ zs).map (·.data.toList)) [32]).length ≤ 140737488355328 := Nat.le_trans (pod_len h0.out) (by decide)
  have HJ := hidK h20
  have hlen3 : len ≤ 3 := by have := h0.out.2.2.2.1.1; have := HR.out.1; omega
  have HY := hidK (show w2.cell? ⟨w.heap.size, 3, none⟩ = some (.slice a len cap) from y3)
  have HB2 := hidK (HB.out.trans (below_drewP hb2 HB.out.size))
  have HL2 := hidK (Nat.lt_of_lt_of_le HL.out hb2.size)
  clear h20 y0 y1 y2 y3 c0 c1 c2 c3 c5 hb2 HP HT HG HL HB
  obtain ⟨V, hV⟩ : ∃ V, V = w2.alloc (.cells #[.string ⟨#[112, 111, 100]⟩, .string n, .string (cpText c), .string (zoneT z)] 9) := ⟨_, rfl⟩
  have d3 : V.cell? ⟨w.heap.size, 3, none⟩ = some (.slice a len cap) := by rw [hV]; exact (cell_below (below1 _ _) HL2.out).trans HY.out
  have hown : V.ownsRow w2.heap.size 9 1 (.slice (some ⟨w2.heap.size, 0, none⟩) 4 4) 4 ((podHead n c z).map Value.string) := by
    refine ⟨rfl, .inr ⟨w2.heap.size, 4, #[.string ⟨#[112, 111, 100]⟩, .string n, .string (cpText c), .string (zoneT z)], rfl, Nat.le_refl _, ?_, Nat.le_refl _, by unfold maxLen; omega, rfl, rfl⟩⟩
    rw [hV]
    exact Array.getElem?_push_size
  have HV := hidK (show Below w.heap.size w V by rw [hV]; exact HB2.out.trans ((below1 _ _).mono HB2.out.size))
  have HVs := hidK (show w2.heap.size ≤ V.heap.size by rw [hV]; simp)
  have HS2 := hidK HB2.out.size
  rename_i hHeld
  clear hHeld
  rw [← hV]
  clear hV HY HL2 HB2
  obtain ⟨i0, hi, hz0, hz1, hz2⟩ := info_parts infoStrP
  obtain ⟨htl, htc, htm, -, hta⟩ := HR.out.below HV.out
  cases a with
  | none =>
    obtain rfl := hnil rfl
    obtain rfl : len = 0 := by omega
    obtain rfl : zs = [] := List.eq_nil_of_length_eq_zero htl
    go_wp2_with (first | (at_builtin; refine wpList_append_own_none rfl _ _ 26 rfl w2.heap.size 9 i0 1 Tryz.underlying26 hi _ 4 _ rfl hown rfl ?_))
    refine (worded_any w2.heap.size 0 4 (podHead n c z ++ []) 4 _ ?_ ?_ (by simp [podHead]) (by decide) (by decide) HJ.out).mono ?_
    · obtain ⟨g, cp, e, -, -, -, -, hc⟩ := own_cells hown (by decide)
      cases e
      simpa using hc
    · obtain ⟨g, cp, e, -, -, hg, -, -⟩ := own_cells hown (by decide)
      cases e
      exact hg
    rintro e w4 ⟨rfl, hb4⟩
    go_wp2_with fail
    go_ret
    exact ⟨ret_str (podX_yes h0.out), HV.out.trans (hb4.mono HV.out.size)⟩
  | some ad =>
    have HN : Hid (∀ j u, (zs.map Value.string)[j]? = some u → V.cell? (ad.add j) = some u) := by
      intro j u hu
      rw [List.getElem?_map] at hu
      obtain ⟨x, hx, rfl⟩ := Option.map_eq_some_iff.1 hu
      rcases hta with h | ⟨b, o, e, _, hc⟩
      · subst h; simp at hx
      · cases e
        rw [Addr.add_lit]
        exact hc j x hx
    go_wp2_with (first | (at_builtin; refine wpList_append_own _ rfl _ _ 26 rfl w2.heap.size 9 i0 (.string ⟨#[]⟩) 1 16 Tryz.underlying26 hi hz0 hz1 hz2 rfl (by decide) _ 4 _ rfl hown ad len cap (zs.map Value.string) rfl ?c1 HN.out ?c3 ?c4 ?c5 HVs.out ?_))
    case c1 => simpa using htl
    case c3 => intro u hu; obtain ⟨x, _, rfl⟩ := List.mem_map.1 hu; rfl
    case c4 => unfold maxLen; omega
    case c5 => omega
    rintro v' w3 hown3 hgrow -
    rw [← List.map_append] at hown3
    obtain ⟨g, cp, rfl, hgc, -, hg, hgl, hcells⟩ := own_cells hown3 (by omega)
    have HB3 := hidK (HV.out.grown hgrow HV.out.size (fun k hk => by cases hk; exact HS2.out))
    have HW := hidK (worded_any g 0 cp (podHead n c z ++ zs) (4 + len) w3 hcells hg hgl (by omega) hgc HJ.out)
    clear hown3 hgrow hcells hown d3 hi hz0 hz1 hz2 hta HN HR
    go_wp2_with fail
    refine HW.out.mono ?_
    rintro e w4 ⟨rfl, hb4⟩
    go_wp2_with fail
    go_ret
    exact ⟨ret_str (podX_yes h0.out), HB3.out.trans (hb4.mono HB3.out.size)⟩

set_option maxHeartbeats 3200000 in
theorem spodText_any (n : ByteArray) (c : Int) (z : ByteArray) (a : Option Addr) (len cap : Nat) (zs : List ByteArray) (d : ByteArray) (p : Int) (w : World) (hn : n.size ≤ 9223372036854775807) (hz : z.size ≤ 9223372036854775807) (hd : d.size ≤ 9223372036854775807) (hr : TxRow w a len cap zs) :
    Calls Tryz.prog 16 #[.agg #[.string n, .int .i64 c, .string z, .slice a len cap, .string d, .int .i64 p]] w fun e w' => e = .returned (.string (podX n c z zs d p)) ∧ Below w.heap.size w w' := by
  have HR : Hid (TxRow w a len cap zs) := hr
  clear hr
  go_enter Tryz.func16, Tryz.ntmps16
  go_wp2_with fail
  refine (spod_any n c z a len cap zs d p _ hn hz hd (HR.out.below (below1 _ _))).mono ?_
  rintro e w1 ⟨r, rfl, hr, hb⟩
  obtain ⟨g, hb1, -⟩ := slotK hb
  have HB := hidK hb1
  have HG := hidK g
  have HL := hidK (lt_of_someP g)
  have c0 : w1.cell? ⟨w.heap.size, 0, none⟩ = some (.string n) := cellK g 0
  have c1 : w1.cell? ⟨w.heap.size, 1, none⟩ = some (.int .i64 c) := cellK g 1
  have c2 : w1.cell? ⟨w.heap.size, 2, none⟩ = some (.string z) := cellK g 2
  have c3 : w1.cell? ⟨w.heap.size, 3, none⟩ = some (.slice a len cap) := cellK g 3
  have c5 : w1.cell? ⟨w.heap.size, 5, none⟩ = some (.int .i64 p) := cellK g 5
  clear hb hb1 g
  by_cases hq : r = true
  case neg =>
    have HN := hidK (fun h => hq (hr.2 h))
    have hrf : r = false := by simpa using hq
    clear hr
    go_wp2_with fail
    go_ret
    exact ⟨ret_str (podX_no fun h => HN.out h.1), HB.out⟩
  have h0 := hidK (hr.1 hq)
  subst hq
  clear hr
  by_cases hp : p = 0
  case neg =>
    have hpq : (p == 0) = false := by simp [hp]
    have HN := hidK hp
    clear hp
    go_wp2_with fail
    go_ret
    exact ⟨ret_str (podX_no fun h => HN.out h.2), HB.out⟩
  subst hp
  have hn20 : n.size ≤ 20 := h0.out.1.2.1
  have hc9 := cpText_size c
  go_wp2_with fail
  go_region_held (fun w' => w'.cell? ⟨w.heap.size, 0, none⟩ = some (.string n) ∧ w'.cell? ⟨w.heap.size, 1, none⟩ = some (.int .i64 c) ∧ w'.cell? ⟨w.heap.size, 2, none⟩ = some (.string z) ∧ w'.cell? ⟨w.heap.size, 3, none⟩ = some (.slice a len cap)) (go_keep)
    (first
      | (go_at_call 54; refine (scputext_any c _).mono ?_; rintro e w2 ⟨rfl, hb2⟩; have y0 : w2.cell? ⟨w.heap.size, 0, none⟩ = some (.string n) := (cell_below hb2 HL.out).trans c0; have y1 : w2.cell? ⟨w.heap.size, 1, none⟩ = some (.int .i64 c) := (cell_below hb2 HL.out).trans c1; have y2 : w2.cell? ⟨w.heap.size, 2, none⟩ = some (.string z) := (cell_below hb2 HL.out).trans c2; have y3 : w2.cell? ⟨w.heap.size, 3, none⟩ = some (.slice a len cap) := (cell_below hb2 HL.out).trans c3))
  all_goals (
    have HB2 := hidK (HB.out.trans (below_drewP hb2 HB.out.size))
    have HRow := hidK (HR.out.below HB2.out)
    have hl3 : len ≤ 3 := by have := h0.out.2.2.2.1.1; have := HR.out.1; omega
    rename_i hHeld
    clear hHeld c0 c1 c2 c3 c5 hb2 HG HL y0 y1
    by_cases hz0 : z = ⟨#[]⟩
    · subst hz0
      go_wp2_with fail
      go_loop [3, 4] (fun t i => ∃ (k : Nat) (s : ByteArray), k ≤ len ∧ t = .string s ∧ i = .int .i64 k ∧ Hid (s = wordsOf (podHead n c ⟨#[]⟩ ++ zs.take k)) ∧ s.size ≤ 100 + 21 * k) (fun _ i => len - (intOf i).toNat)
      case atStart => exact ⟨0, _, by omega, rfl, rfl, by show _ = _; rw [List.take_zero, List.append_nil]; exact pod_start_no n c, by simp only [size_appP]; have e1 : (⟨#[112, 111, 100, 32]⟩ : ByteArray).size = 4 := rfl; have e2 : (⟨#[32]⟩ : ByteArray).size = 1 := rfl; have e3 : (⟨#[45]⟩ : ByteArray).size = 1 := rfl; omega⟩
      case round =>
        obtain ⟨k, s, hk, rfl, rfl, HS, hss⟩ := hrel
        by_cases hlt : k < len
        · obtain ⟨b, o, x, rfl, hb, hx, hc, -⟩ := HRow.out.at hlt
          have hx20 : x.size ≤ 20 := (h0.out.2.2.2.1.2 k x hx).1.2.1
          have hs200 : s.size ≤ 200 := by omega
          go_wp2
          refine ⟨⟨k + 1, _, by omega, rfl, by go_num, ?_, ?_⟩, by simp [intOf]; omega⟩
          · show _ = _
            rw [HS.out, pod_step hx]
          · rw [size_appP, size_appP]
            have e : (⟨#[32]⟩ : ByteArray).size = 1 := rfl
            omega
        · obtain rfl : k = len := by omega
          go_wp2
          go_ret
          refine ⟨ret_str ?_, HB2.out⟩
          rw [HS.out, List.take_of_length_le (by have := HR.out.1; omega)]
          exact podX_yes h0.out
    · have hze := isE_no hz0
      have hz20 : z.size ≤ 20 := by
        rcases h0.out.2.2.1 with h | h
        · exact absurd h hz0
        · exact h.2.1
      go_wp2_with fail
      go_loop [3, 4] (fun t i => ∃ (k : Nat) (s : ByteArray), k ≤ len ∧ t = .string s ∧ i = .int .i64 k ∧ Hid (s = wordsOf (podHead n c z ++ zs.take k)) ∧ s.size ≤ 100 + 21 * k) (fun _ i => len - (intOf i).toNat)
      case atStart => exact ⟨0, _, by omega, rfl, rfl, by show _ = _; rw [List.take_zero, List.append_nil]; exact pod_start_yes n c hz0, by simp only [size_appP]; have e1 : (⟨#[112, 111, 100, 32]⟩ : ByteArray).size = 4 := rfl; have e2 : (⟨#[32]⟩ : ByteArray).size = 1 := rfl; omega⟩
      case round =>
        obtain ⟨k, s, hk, rfl, rfl, HS, hss⟩ := hrel
        by_cases hlt : k < len
        · obtain ⟨b, o, x, rfl, hb, hx, hc, -⟩ := HRow.out.at hlt
          have hx20 : x.size ≤ 20 := (h0.out.2.2.2.1.2 k x hx).1.2.1
          have hs200 : s.size ≤ 200 := by omega
          go_wp2
          refine ⟨⟨k + 1, _, by omega, rfl, by go_num, ?_, ?_⟩, by simp [intOf]; omega⟩
          · show _ = _
            rw [HS.out, pod_step hx]
          · rw [size_appP, size_appP]
            have e : (⟨#[32]⟩ : ByteArray).size = 1 := rfl
            omega
        · obtain rfl : k = len := by omega
          go_wp2
          go_ret
          refine ⟨ret_str ?_, HB2.out⟩
          rw [HS.out, List.take_of_length_le (by have := HR.out.1; omega)]
          exact podX_yes h0.out)

open Classical in
noncomputable def cpN (s : ByteArray) : Int := if h : ∃ a c, RdIs cpText s a c then h.choose else 0
theorem cpN_is {s : ByteArray} {a c : Int} (h : RdIs cpText s a c) : a = cpN s := by
  have hx : ∃ a c, RdIs cpText s a c := ⟨a, c, h⟩
  unfold cpN
  rw [dif_pos hx]
  obtain ⟨c', h'⟩ := hx.choose_spec
  exact (RdIs.same cp_inj h h').1
open Classical in
noncomputable def zoneR (z : ByteArray) : ByteArray := if z = wDash then ⟨#[]⟩ else z
def PodIs (s : ByteArray) (n : ByteArray) (c : Int) (z : ByteArray) (zs : List ByteArray) (d : ByteArray) (p : Int) (k : Int) : Prop :=
  d = ⟨#[]⟩ ∧ p = 0 ∧
  ((8000 < s.size ∧ n = ⟨#[]⟩ ∧ c = 0 ∧ z = ⟨#[]⟩ ∧ zs = [] ∧ k = 2) ∨
   (s.size ≤ 8000 ∧ (¬ ∃ a0 a1 a2 a3 l, wordsB s = a0 :: a1 :: a2 :: a3 :: l ∧ podX a1 (cpN a2) (zoneR a3) l ⟨#[]⟩ 0 = s) ∧ n = ⟨#[]⟩ ∧ c = 0 ∧ z = ⟨#[]⟩ ∧ zs = [] ∧ k = 3) ∨
   (s.size ≤ 8000 ∧ k = 0 ∧ zs.length ≤ 3 ∧ ∃ a0 a1 a2 a3, wordsB s = a0 :: a1 :: a2 :: a3 :: zs ∧ podX a1 (cpN a2) (zoneR a3) zs ⟨#[]⟩ 0 = s ∧ n = a1 ∧ c = cpN a2 ∧ z = zoneR a3))
theorem PodIs.same {s n n' : ByteArray} {c c' : Int} {z z' : ByteArray} {zs zs' : List ByteArray} {d d' : ByteArray} {p p' k k' : Int} (h : PodIs s n c z zs d p k) (h' : PodIs s n' c' z' zs' d' p' k') :
    n = n' ∧ c = c' ∧ z = z' ∧ zs = zs' ∧ d = d' ∧ p = p' ∧ k = k' := by
  obtain ⟨rfl, rfl, h⟩ := h
  obtain ⟨rfl, rfl, h'⟩ := h'
  rcases h with ⟨h0, rfl, rfl, rfl, rfl, rfl⟩ | ⟨h0, h1, rfl, rfl, rfl, rfl, rfl⟩ | ⟨h0, rfl, h3, a0, a1, a2, a3, hw, hx, rfl, rfl, rfl⟩ <;>
    rcases h' with ⟨k0, rfl, rfl, rfl, rfl, rfl⟩ | ⟨k0, k1, rfl, rfl, rfl, rfl, rfl⟩ | ⟨k0, rfl, k3, b0, b1, b2, b3, kw, kx, rfl, rfl, rfl⟩
  · exact ⟨rfl, rfl, rfl, rfl, rfl, rfl, rfl⟩
  · omega
  · omega
  · omega
  · exact ⟨rfl, rfl, rfl, rfl, rfl, rfl, rfl⟩
  · exact absurd ⟨b0, _, b2, b3, _, kw, kx⟩ h1
  · omega
  · exact absurd ⟨a0, _, a2, a3, _, hw, hx⟩ k1
  · rw [hw] at kw
    simp only [List.cons.injEq] at kw
    obtain ⟨rfl, rfl, rfl, rfl, rfl⟩ := kw
    exact ⟨rfl, rfl, rfl, rfl, rfl, rfl, rfl⟩
def PodAns (s : ByteArray) (w : World) (e : Ending) (w' : World) : Prop :=
  ∃ n c z a len cap zs d p k, e = .returned (.agg #[.string n, .int .i64 c, .string z, .slice a len cap, .string d, .int .i64 p, .int .i64 k]) ∧ PodIs s n c z zs d p k ∧
    TxRow w' a len cap zs ∧ (zs = [] ∨ ∃ g cur, a = some ⟨g, 0, none⟩ ∧ w.heap.size ≤ g ∧ w'.heap[g]? = some (.cells cur 9 (0, 0))) ∧ Below w.heap.size w w'
theorem podText_few {n : ByteArray} {c : Int} {z : ByteArray} {zs : List ByteArray} {s : ByteArray} (h : podX n c z zs ⟨#[]⟩ 0 = s) (hs : ¬ s = ⟨#[]⟩) : zs.length ≤ 3 := by
  unfold podX at h
  split at h
  · rename_i hp
    have := hp.1.2.2.2.1.1
    omega
  · exact absurd h.symm hs
theorem words_ne {s a0 a1 a2 a3 : ByteArray} {l : List ByteArray} (h : wordsB s = a0 :: a1 :: a2 :: a3 :: l) : ¬ s = ⟨#[]⟩ := by
  rintro rfl
  have e : (wordsB ⟨#[]⟩).map (·.data.toList) = [[]] := wordsB_data ⟨#[]⟩
  rw [h] at e
  simp at e

theorem zoneR_dash : zoneR wDash = ⟨#[]⟩ := by unfold zoneR; rw [if_pos rfl]
theorem zoneR_no {z : ByteArray} (h : ¬ z = wDash) : zoneR z = z := by unfold zoneR; rw [if_neg h]
theorem dash_yes : (wDash.toList == [45]) = true := by rw [Lib.toList_data]; rfl
theorem dash_no {z : ByteArray} (h : ¬ z = wDash) : (z.toList == [45]) = false := by
  have := tl_no h
  rw [Lib.toList_data] at this ⊢
  rw [Lib.toList_data] at this
  exact this

set_option maxHeartbeats 400000 in
theorem zoneRead_any (z : ByteArray) (w : World) :
    Calls Tryz.prog 46 #[.string z] w fun e w' => e = .returned (.string (zoneR z)) ∧ w = w' := by
  by_cases h : z = wDash
  · subst h
    have hq := dash_yes
    go_enter Tryz.func46, Tryz.ntmps46
    go_wp2
    go_ret
    exact ⟨ret_str zoneR_dash.symm, rfl⟩
  · have hq := dash_no h
    go_enter Tryz.func46, Tryz.ntmps46
    go_wp2
    go_ret
    exact ⟨ret_str (zoneR_no h).symm, rfl⟩

def NamesAns (zs : List ByteArray) (w : World) (e : Ending) (w' : World) : Prop :=
  ∃ a len cap, e = .returned (.slice a len cap) ∧ TxRow w' a len cap zs ∧ (a = none → cap = 0) ∧ (zs = [] ∨ ∃ g cur, a = some ⟨g, 0, none⟩ ∧ w.heap.size ≤ g ∧ w'.heap[g]? = some (.cells cur 9 (0, 0))) ∧ Below w.heap.size w w'
theorem names_of {w w0 : World} {base n : Nat} {v : Value} {zs : List ByteArray} (h : w.ownsRow base 9 1 v n (zs.map Value.string)) (hb : Below base w0 w) (hB : base = w0.heap.size) (hs : ∀ (j : Nat) x, zs[j]? = some x → x.size ≤ 9223372036854775807) :
    NamesAns zs w0 (.returned v) w := by
  subst hB
  obtain ⟨hl, h⟩ := h
  have hl' : zs.length = n := by simpa using hl
  rcases h with ⟨rfl, rfl⟩ | ⟨g, cap, cur, rfl, hbg, hg, hnc, hcm, hsz, htk⟩
  · obtain rfl : zs = [] := List.eq_nil_of_length_eq_zero hl'
    exact ⟨none, 0, 0, rfl, ⟨rfl, Nat.le_refl _, by omega, fun j x hx => by simp at hx, .inl rfl⟩, fun _ => rfl, .inl rfl, hb⟩
  · refine ⟨some ⟨g, 0, none⟩, n, cap, rfl, ⟨hl', hnc, by unfold maxLen at hcm; omega, hs, .inr ⟨g, 0, rfl, lt_of_someP hg, fun j x hx => ?_⟩⟩, fun h => (by cases h), .inr ⟨g, cur, rfl, hbg, hg⟩, hb⟩
    rw [Nat.zero_add, cellK hg]
    have hj : j < n := by have := (List.getElem?_eq_some_iff.1 hx).1; omega
    have e1 : (cur.toList.take (n * 1))[j]? = some (.string x) := by rw [htk]; simp [hx]
    rw [List.getElem?_take, if_pos (by omega)] at e1
    simpa using e1
theorem news_of {w : World} {ad : Addr} {len cap : Nat} {zs : List ByteArray} (h : TxRow w (some ad) len cap zs) : ∀ j u, (zs.map Value.string)[j]? = some u → w.cell? (ad.add j) = some u := by
  intro j u hu
  rw [List.getElem?_map] at hu
  obtain ⟨x, hx, rfl⟩ := Option.map_eq_some_iff.1 hu
  rcases h.2.2.2.2 with h | ⟨b, o, e, _, hc⟩
  · subst h; simp at hx
  · cases e
    rw [Addr.add_lit]
    exact hc j x hx

set_option maxHeartbeats 1600000 in
theorem ownNames_any (ad : Addr) (len cap : Nat) (zs : List ByteArray) (w : World) (hr : TxRow w (some ad) len cap zs) (hl : len ≤ 8001) :
    Calls Tryz.prog 47 #[.slice (some ad) len cap] w (NamesAns zs w) := by
  have HN := hidK (news_of hr)
  have HZ := hidK hr.2.2.2.1
  have hzl : zs.length = len := hr.1
  clear hr
  obtain ⟨i0, hi, hz0, hz1, hz2⟩ := info_parts infoStrP
  go_enter Tryz.func47, Tryz.ntmps47
  go_wp2_with (first | (at_builtin; refine wpList_append_own _ rfl _ _ 26 rfl w.heap.size 9 i0 (.string ⟨#[]⟩) 1 16 Tryz.underlying26 hi hz0 hz1 hz2 rfl (by decide) _ 0 _ rfl (World.ownsRow_nil w w.heap.size 9 1) ad len cap (zs.map Value.string) rfl ?c1 HN.out ?c3 ?c4 ?c5 (Nat.le_refl _) ?_))
  case c1 => simpa using hzl
  case c3 => intro u hu; obtain ⟨x, _, rfl⟩ := List.mem_map.1 hu; rfl
  case c4 => unfold maxLen; omega
  case c5 => omega
  intro v' w3 hown3 hgrow hv
  have HB3 := hidK ((Below.refl w.heap.size w).grown hgrow (Nat.le_refl _) (fun k hk => by cases hk))
  have HO := hidK hown3
  clear hown3 hgrow hv
  go_wp2
  go_ret
  exact names_of HO.out HB3.out rfl HZ.out

def NoBl (s : ByteArray) : Prop := ¬ (32 : UInt8) ∈ s.data.toList
theorem wsplit_word : ∀ (w l : List UInt8), ¬ (32 : UInt8) ∈ w → wsplit (w ++ 32 :: l) = w :: wsplit l
  | [], l, _ => wsplit_blank l
  | c :: w, l, h => by
    rw [List.cons_append, wsplit_other (fun e => h (by simp [e])), wsplit_word w l (fun e => h (by simp [e]))]
    rfl
theorem wsplit_one : ∀ (w : List UInt8), ¬ (32 : UInt8) ∈ w → wsplit w = [w]
  | [], _ => rfl
  | c :: w, h => by
    rw [wsplit_other (fun e => h (by simp [e])), wsplit_one w (fun e => h (by simp [e]))]
    rfl
theorem wsplit_join : ∀ (xs : List (List UInt8)), xs ≠ [] → (∀ x ∈ xs, ¬ (32 : UInt8) ∈ x) → wsplit (Lib.join xs [32]) = xs
  | [], h, _ => absurd rfl h
  | [x], _, h => by
    have : Lib.join [x] [32] = x := by simp [Lib.join, List.intercalate]
    rw [this]
    exact wsplit_one x (h x (by simp))
  | x :: y :: t, _, h => by
    have : Lib.join (x :: y :: t) [32] = x ++ 32 :: Lib.join (y :: t) [32] := by simp [Lib.join, List.intercalate, List.intersperse]
    rw [this, wsplit_word _ _ (h x (by simp)), wsplit_join (y :: t) (by simp) (fun z hz => h z (by simp [hz]))]
theorem words_back {xs : List ByteArray} (h0 : xs ≠ []) (h : ∀ x ∈ xs, NoBl x) : wordsB (wordsOf xs) = xs := by
  apply map_data_inj
  rw [wordsB_data, words_data, wsplit_join]
  · simpa using h0
  · intro x hx
    obtain ⟨y, hy, rfl⟩ := List.mem_map.1 hx
    exact h y hy
theorem nobl_name {s : ByteArray} (h : NameOk s) : NoBl s := by
  intro hm
  obtain ⟨i, hi, e⟩ := List.getElem_of_mem hm
  have hi' : i < s.size := by simpa using hi
  have h3 := h.2.2 i hi'
  have e2 : s[i]'hi' = 32 := by
    rw [← e]
    rfl
  rw [e2] at h3
  unfold okB at h3
  split at h3 <;> exact absurd h3 (by decide)
theorem nobl_app {a b : ByteArray} (ha : NoBl a) (hb : NoBl b) : NoBl (a ++ b) := by
  intro h
  rw [bytes_append] at h
  rcases List.mem_append.1 h with h | h
  · exact ha h
  · exact hb h
theorem nobl_dec (n : Int) : NoBl (dec n) := by
  intro h
  have := dec_dig _ _ (by rw [dec_list] at h; exact h)
  unfold isDig at this
  exact absurd this (by decide)
theorem nobl_mtext {l m e : Int} {w0 w1 : ByteArray} (h0 : NoBl w0) (h1 : NoBl w1) (n : Int) : NoBl (mtext l m e w0 w1 n) := by
  unfold mtext
  split
  · simp [NoBl]
  · split
    · exact nobl_app (nobl_dec _) h0
    · exact nobl_app (nobl_dec _) h1
theorem nobl_sz (n : Int) : NoBl (szText n) := nobl_mtext (by unfold NoBl wTi; decide) (by unfold NoBl wGi; decide) n
theorem nobl_cp (n : Int) : NoBl (cpText n) := nobl_mtext (by unfold NoBl wNo; decide) (by unfold NoBl wM; decide) n
theorem mtext_ne {l m e : Int} {w0 w1 : ByteArray} {n : Int} (h0 : l ≤ n) (h1 : n ≤ m) : ¬ mtext l m e w0 w1 n = ⟨#[]⟩ := by
  have hd : ∀ (x : Int) (w : ByteArray), ¬ dec x ++ w = ⟨#[]⟩ := fun x w h => by
    have := congrArg (fun s : ByteArray => s.data.toList) h
    simp only [bytes_append, dec_list] at this
    have h2 := List.append_eq_nil_iff.1 this
    exact absurd h2.1 (dec_ne _)
  unfold mtext
  rw [if_neg (by omega)]
  split
  · exact hd _ _
  · exact hd _ _

theorem claimT_words {n : ByteArray} {z : Int} {k : ByteArray} {x : Bool} (hn : NameOk n) (hk : NameOk k) : wordsB (claimT n z k x) = [wClaim, n, szText z, k, wShare x] := by
  unfold claimT
  refine words_back (by simp) ?_
  intro y hy
  simp only [List.mem_cons, List.not_mem_nil, or_false] at hy
  rcases hy with rfl | rfl | rfl | rfl | rfl
  · unfold NoBl wClaim; decide
  · exact nobl_name hn
  · exact nobl_sz z
  · exact nobl_name hk
  · cases x <;> (unfold NoBl wShare wSingle wMany; decide)
theorem share_dec (x : Bool) : decide (wShare x = wSingle) = x := by cases x <;> decide

theorem claim_forth {s n : ByteArray} {z : Int} {k : ByteArray} {x : Bool} {v : ByteArray} (h : claimR s = claimOutV n z k x v 0) : claimX n z k x v = s := by
  have hb : ∀ c : Int, ¬ c = 0 → ¬ claimBad c = claimOutV n z k x v 0 := fun c hc h => by
    simp [claimBad, claimOutV] at h
    exact hc h.2.2.2.2.2
  by_cases hl : 8000 < s.size
  · rw [← claimR_long hl] at h
    exact absurd h (hb 2 (by decide))
  by_cases h5 : (wordsB s).length = 5
  · obtain ⟨a, n', u, k', y, hw⟩ := five_of h5
    rw [← claimR_five hl hw] at h
    unfold claimFive at h
    by_cases hx : claimX n' (szN u) k' (decide (y = wSingle)) ⟨#[]⟩ = s
    · rw [if_pos hx] at h
      simp only [claimOutV, Value.agg.injEq, Array.mk.injEq, List.cons.injEq, Value.string.injEq, Value.int.injEq, Value.bool.injEq] at h
      obtain ⟨rfl, ⟨-, rfl⟩, rfl, rfl, rfl, -⟩ := h
      exact hx
    · rw [if_neg hx] at h
      exact absurd h (hb 3 (by decide))
  · rw [← claimR_not hl h5] at h
    exact absurd h (hb 3 (by decide))

theorem claim_small {n : ByteArray} {z : Int} {k v : ByteArray} {x : Bool} (h : ClaimOk n z k v) : (claimT n z k x).size ≤ 100 := by
  have hn := h.1.2.1
  have hk := h.2.2.1.2.1
  have hz := szText_size z
  have hx : (wShare x).size ≤ 6 := by cases x <;> decide
  have e : (claimT n z k x).size = 5 + 1 + n.size + 1 + (szText z).size + 1 + k.size + 1 + (wShare x).size := by
    cases x
    · rw [← claimT_many]
      simp only [size_appK]
      rfl
    · rw [← claimT_single]
      simp only [size_appK]
      rfl
  omega
theorem claimX_size (n : ByteArray) (z : Int) (k : ByteArray) (x : Bool) (v : ByteArray) : (claimX n z k x v).size ≤ 100 := by
  by_cases hc : ClaimOk n z k v ∧ v = ⟨#[]⟩
  · obtain ⟨hc, rfl⟩ := hc
    rw [← claimX_yes hc]
    exact claim_small hc
  · rw [← claimX_no hc]
    decide
theorem claim_back {n : ByteArray} {z : Int} {k : ByteArray} {x : Bool} {v : ByteArray} (h : ¬ claimX n z k x v = ⟨#[]⟩) : claimR (claimX n z k x v) = claimOutV n z k x v 0 := by
  by_cases hc : ClaimOk n z k v ∧ v = ⟨#[]⟩
  · obtain ⟨hc, rfl⟩ := hc
    rw [← claimX_yes hc] at h ⊢
    rw [← claimR_five (by have := claim_small (x := x) hc; omega) (claimT_words hc.1 hc.2.2.1)]
    have e1 : szN (szText z) = z := (szN_is (rd_yes (Nat.le_trans (szText_size z) (by decide)) (mtext_ne hc.2.1.1 hc.2.1.2) rfl)).symm
    unfold claimFive
    rw [share_dec, e1, if_pos (claimX_yes hc).symm]
  · exact absurd (claimX_no hc).symm h

theorem pod_small {n : ByteArray} {c : Int} {z : ByteArray} {zs : List ByteArray} {d : ByteArray} {p : Int} (h : PodOk n c z zs d p) : (podT n c z zs).size ≤ 1000 := by
  have := pod_len h
  rw [Lib.size_eq]
  exact this
theorem podX_size (n : ByteArray) (c : Int) (z : ByteArray) (zs : List ByteArray) (d : ByteArray) (p : Int) : (podX n c z zs d p).size ≤ 1000 := by
  by_cases hc : PodOk n c z zs d p ∧ p = 0
  · obtain ⟨hc, rfl⟩ := hc
    rw [← podX_yes hc]
    exact pod_small hc
  · rw [← podX_no hc]
    decide
theorem names_nobl {zs : List ByteArray} {most : Int} (h : NamesOk zs most) : ∀ x ∈ zs, NoBl x := by
  intro x hx
  obtain ⟨i, hi⟩ := List.getElem?_of_mem hx
  exact nobl_name (h.2 i x hi).1
theorem nobl_zone {z : ByteArray} (h : ZoneOk z) : NoBl (zoneT z) := by
  rcases h with rfl | h
  · rw [zoneT_no]
    unfold NoBl wDash
    decide
  · by_cases e : z = ⟨#[]⟩
    · rw [e, zoneT_no]
      unfold NoBl wDash
      decide
    · rw [zoneT_yes e]
      exact nobl_name h
theorem name_dash : ¬ NameOk wDash := by
  intro h
  exact absurd (h.2.2 0 (by decide)) (by decide)
theorem zone_back {z : ByteArray} (h : ZoneOk z) : zoneR (zoneT z) = z := by
  by_cases e : z = ⟨#[]⟩
  · rw [e, zoneT_no, zoneR_dash]
  · rw [zoneT_yes e]
    refine zoneR_no (fun e2 => ?_)
    subst e2
    rcases h with h | h
    · exact e h
    · exact name_dash h
theorem podT_words {n : ByteArray} {c : Int} {z : ByteArray} {zs : List ByteArray} {d : ByteArray} {p : Int} (h : PodOk n c z zs d p) : wordsB (podT n c z zs) = wPod :: n :: cpText c :: zoneT z :: zs := by
  unfold podT podHead
  refine words_back (by simp) ?_
  intro y hy
  simp only [List.cons_append, List.nil_append, List.mem_cons] at hy
  rcases hy with rfl | rfl | rfl | rfl | hy
  · unfold NoBl wPod; decide
  · exact nobl_name h.1
  · exact nobl_cp c
  · exact nobl_zone h.2.2.1
  · exact names_nobl h.2.2.2.1 y hy
theorem pod_back {n : ByteArray} {c : Int} {z : ByteArray} {zs : List ByteArray} {d : ByteArray} {p : Int} (h : ¬ podX n c z zs d p = ⟨#[]⟩) : PodIs (podX n c z zs d p) n c z zs d p 0 := by
  by_cases hc : PodOk n c z zs d p ∧ p = 0
  · obtain ⟨hc, rfl⟩ := hc
    have hd : d = ⟨#[]⟩ := (suits_pend d).1 hc.2.2.2.2
    subst hd
    have e1 : cpN (cpText c) = c := (cpN_is (rd_yes (Nat.le_trans (cpText_size c) (by decide)) (mtext_ne hc.2.1.1 hc.2.1.2) rfl)).symm
    have e2 := zone_back hc.2.2.1
    rw [← podX_yes hc]
    refine ⟨rfl, rfl, .inr (.inr ⟨Nat.le_trans (pod_small hc) (by decide), rfl, ?_, wPod, n, cpText c, zoneT z, podT_words hc, ?_, rfl, e1.symm, e2.symm⟩)⟩
    · have := hc.2.2.2.1.1
      omega
    · rw [e1, e2]
      exact (podX_yes hc).symm
  · exact absurd (podX_no hc).symm h
theorem pod_forth {s n : ByteArray} {c : Int} {z : ByteArray} {zs : List ByteArray} {d : ByteArray} {p : Int} (h : PodIs s n c z zs d p 0) : podX n c z zs d p = s := by
  obtain ⟨rfl, rfl, h⟩ := h
  rcases h with ⟨_, _, _, _, _, h⟩ | ⟨_, _, _, _, _, _, h⟩ | ⟨_, _, _, a0, a1, a2, a3, _, hx, rfl, rfl, rfl⟩
  · cases h
  · cases h
  · exact hx

namespace Dk

theorem RowIn.up {B B' : Nat} {w : World} {v : Value} {len : Nat} (h : RowIn B w v len) (hB : B ≤ B') : RowIn B' w v len := by
  obtain ⟨h1, a0, cap, h2, h3⟩ := h
  exact ⟨h1, a0, cap, h2, fun j hj => by obtain ⟨b, off, z, h4, h5, h6⟩ := h3 j hj; exact ⟨b, off, z, h4, by omega, h6⟩⟩
def DrewClaim (w : World) (e : Ending) (w' : World) : Prop := ∃ n c k x u, e = .returned (.agg #[.string n, .int .i64 c, .string k, .bool x, .string u]) ∧ n.size ≤ 100 ∧ k.size ≤ 100 ∧ u.size ≤ 100 ∧ Below w.heap.size w w'
def DrewClass (w : World) (e : Ending) (w' : World) : Prop := ∃ n x y z, e = .returned (.agg #[.string n, .bool x, .bool y, .string z]) ∧ n.size ≤ 100 ∧ z.size ≤ 100 ∧ Below w.heap.size w w'
def DrewVol (w : World) (e : Ending) (w' : World) : Prop := ∃ n c z k x m y a l cp zs, e = .returned (.agg #[.string n, .int .i64 c, .string z, .string k, .bool x, .string m, .bool y, .slice a l cp]) ∧ n.size ≤ 100 ∧ z.size ≤ 100 ∧ k.size ≤ 100 ∧ m.size ≤ 100 ∧ TxRow w' a l cp zs ∧ Below w.heap.size w w'
def DrewTx (w : World) (e : Ending) (w' : World) : Prop := ∃ s : ByteArray, e = .returned (.string s) ∧ s.size ≤ 2100 ∧ Below w.heap.size w w'

set_option maxHeartbeats 1600000 in
theorem drawClaimText_any (v : Value) (len : Nat) (w : World) (hR : RowIn w.heap.size w v len) : Calls Tryz.prog 4 #[v] w (DrewClaim w) := by
  have hb0 := below1 w (.cells #[.string ⟨#[]⟩, .int .i64 0, .string ⟨#[]⟩, .bool false, .string ⟨#[]⟩] 24)
  have HR := hidK (RowIn.up (hR.below hb0) hb0.size)
  have HGC : Hid ((w.alloc (.cells #[.string ⟨#[]⟩, .int .i64 0, .string ⟨#[]⟩, .bool false, .string ⟨#[]⟩] 24)).heap[w.heap.size]? = some (.cells #[.string ⟨#[]⟩, .int .i64 0, .string ⟨#[]⟩, .bool false, .string ⟨#[]⟩] 24 (0, 0))) := Array.getElem?_push_size
  have HB0 := hidK hb0
  clear hR hb0
  go_enter Tryz.func4, Tryz.ntmps4
  go_wp2_with fail
  refine (source_any v len _ HR.out).mono ?_
  rintro e w1 ⟨p, rfl, hs1⟩
  have HS1 := hidK hs1
  have hp1 := hs1.plt
  have hp0 : w.heap.size < p := by have := hs1.1; simp at this; omega
  clear hs1
  go_wp2_with fail
  refine (claim_any HS1.out).mono ?_
  rintro e w2 ⟨n, c, k, x, u, rfl, hn, hk, hu, hd⟩
  have hb := hd.src.2.2.1
  have q := (hb.block _ (lt_of_some HGC.out)).trans HGC.out
  have HB := upB HB0 hb
  have z0 : w2.cell? ⟨w.heap.size, 0, none⟩ = some (.string ⟨#[]⟩) := cellK q 0
  have zf0 : w2.frozen? ⟨w.heap.size, 0, none⟩ = false := froK q 0
  have z1 : w2.cell? ⟨w.heap.size, 1, none⟩ = some (.int .i64 0) := cellK q 1
  have zf1 : w2.frozen? ⟨w.heap.size, 1, none⟩ = false := froK q 1
  have z2 : w2.cell? ⟨w.heap.size, 2, none⟩ = some (.string ⟨#[]⟩) := cellK q 2
  have zf2 : w2.frozen? ⟨w.heap.size, 2, none⟩ = false := froK q 2
  have z3 : w2.cell? ⟨w.heap.size, 3, none⟩ = some (.bool false) := cellK q 3
  have zf3 : w2.frozen? ⟨w.heap.size, 3, none⟩ = false := froK q 3
  have z4 : w2.cell? ⟨w.heap.size, 4, none⟩ = some (.string ⟨#[]⟩) := cellK q 4
  have zf4 : w2.frozen? ⟨w.heap.size, 4, none⟩ = false := froK q 4
  clear q hb hd
  go_wp2_with fail
  exact bodyPost_ret (v := .agg #[.string n, .int .i64 c, .string k, .bool x, .string u]) (by simp [results, Tryz.results4, go_sem, *]) rfl ⟨n, c, k, x, u, rfl, hn, hk, hu, set_below (Nat.le_refl _) (set_below (Nat.le_refl _) (set_below (Nat.le_refl _) (set_below (Nat.le_refl _) (set_below (Nat.le_refl _) (HB.out)))))⟩

set_option maxHeartbeats 1600000 in
theorem drawClassRight_any (v : Value) (len : Nat) (w : World) (hR : RowIn w.heap.size w v len) : Calls Tryz.prog 13 #[v] w (DrewClass w) := by
  have hb0 := below1 w (.cells #[.string ⟨#[]⟩, .bool false, .bool false, .string ⟨#[]⟩] 43)
  have HR := hidK (RowIn.up (hR.below hb0) hb0.size)
  have HGC : Hid ((w.alloc (.cells #[.string ⟨#[]⟩, .bool false, .bool false, .string ⟨#[]⟩] 43)).heap[w.heap.size]? = some (.cells #[.string ⟨#[]⟩, .bool false, .bool false, .string ⟨#[]⟩] 43 (0, 0))) := Array.getElem?_push_size
  have HB0 := hidK hb0
  clear hR hb0
  go_enter Tryz.func13, Tryz.ntmps13
  go_wp2_with fail
  refine (source_any v len _ HR.out).mono ?_
  rintro e w1 ⟨p, rfl, hs1⟩
  have HS1 := hidK hs1
  have hp1 := hs1.plt
  have hp0 : w.heap.size < p := by have := hs1.1; simp at this; omega
  clear hs1
  have HD0 := hidK (Dr.start HS1.out)
  go_wp2_with fail
  refine (pick_new HD0.out.src [⟨#[102, 97, 115, 116]⟩, ⟨#[65]⟩] 2 _ _ (by simp) rfl (by decide) (by decide) (by decide)).mono ?_
  rintro e w2 ⟨t1, rfl, ht1, hs, hg⟩
  have HD1 := hidK (HD0.out.next hs hg)
  clear hs hg HD0
  go_wp2_with fail
  refine (one_any HD1.out.src 2 (by decide)).mono ?_
  rintro e w3 ⟨he, hs, hg⟩
  obtain ⟨x2, rfl⟩ := bool_of he
  have HD2 := hidK (HD1.out.next hs hg)
  clear hs hg HD1 he
  go_wp2_with fail
  refine (one_any HD2.out.src 2 (by decide)).mono ?_
  rintro e w4 ⟨he, hs, hg⟩
  obtain ⟨x3, rfl⟩ := bool_of he
  have HD3 := hidK (HD2.out.next hs hg)
  clear hs hg HD2 he
  go_wp2_with fail
  refine (pick_new HD3.out.src [⟨#[]⟩, ⟨#[101, 97, 115, 116]⟩, ⟨#[65]⟩] 3 _ _ (by simp) rfl (by decide) (by decide) (by decide)).mono ?_
  rintro e w5 ⟨t4, rfl, ht4, hs, hg⟩
  have hb := hs.2.2.1
  have q := (hb.block _ (lt_of_some HGC.out)).trans HGC.out
  have HB := upB HB0 hb
  have z0 : w5.cell? ⟨w.heap.size, 0, none⟩ = some (.string ⟨#[]⟩) := cellK q 0
  have zf0 : w5.frozen? ⟨w.heap.size, 0, none⟩ = false := froK q 0
  have z1 : w5.cell? ⟨w.heap.size, 1, none⟩ = some (.bool false) := cellK q 1
  have zf1 : w5.frozen? ⟨w.heap.size, 1, none⟩ = false := froK q 1
  have z2 : w5.cell? ⟨w.heap.size, 2, none⟩ = some (.bool false) := cellK q 2
  have zf2 : w5.frozen? ⟨w.heap.size, 2, none⟩ = false := froK q 2
  have z3 : w5.cell? ⟨w.heap.size, 3, none⟩ = some (.string ⟨#[]⟩) := cellK q 3
  have zf3 : w5.frozen? ⟨w.heap.size, 3, none⟩ = false := froK q 3
  clear q hb hs hg
  go_wp2_with fail
  exact bodyPost_ret (v := .agg #[.string t1, .bool x2, .bool x3, .string t4]) (by simp [results, Tryz.results13, go_sem, *]) rfl ⟨t1, x2, x3, t4, rfl, ht1, ht4, set_below (Nat.le_refl _) (set_below (Nat.le_refl _) (set_below (Nat.le_refl _) (set_below (Nat.le_refl _) (HB.out))))⟩

theorem row_keep {w w' : World} {a : Option Addr} {l c : Nat} {zs : List ByteArray} (h : TxRow w a l c zs) (hs : w.heap.size ≤ w'.heap.size) (hn : zs = [] ∨ ∃ g, a = some ⟨g, 0, none⟩ ∧ w'.heap[g]? = w.heap[g]?) : TxRow w' a l c zs := by
  obtain ⟨h1, h2, h3, h4, h5⟩ := h
  refine ⟨h1, h2, h3, h4, ?_⟩
  rcases hn with hz | ⟨g, rfl, hg⟩
  · exact .inl hz
  rcases h5 with h5 | ⟨b', o, e, hlt, hc⟩
  · exact .inl h5
  cases e
  exact .inr ⟨g, 0, rfl, by omega, fun j x hx => by have := hc j x hx; simp only [World.cell?, hg] at this ⊢; exact this⟩

set_option maxHeartbeats 1600000 in
theorem drawVolumeRight_any (v : Value) (len : Nat) (w : World) (hR : RowIn w.heap.size w v len) : Calls Tryz.prog 14 #[v] w (DrewVol w) := by
  have hb0 := below1 w (.cells #[.string ⟨#[]⟩, .int .i64 0, .string ⟨#[]⟩, .string ⟨#[]⟩, .bool false, .string ⟨#[]⟩, .bool false, .slice none 0 0] 46)
  have HR := hidK (RowIn.up (hR.below hb0) hb0.size)
  have HGC : Hid ((w.alloc (.cells #[.string ⟨#[]⟩, .int .i64 0, .string ⟨#[]⟩, .string ⟨#[]⟩, .bool false, .string ⟨#[]⟩, .bool false, .slice none 0 0] 46)).heap[w.heap.size]? = some (.cells #[.string ⟨#[]⟩, .int .i64 0, .string ⟨#[]⟩, .string ⟨#[]⟩, .bool false, .string ⟨#[]⟩, .bool false, .slice none 0 0] 46 (0, 0))) := Array.getElem?_push_size
  have HB0 := hidK hb0
  clear hR hb0
  go_enter Tryz.func14, Tryz.ntmps14
  go_wp2_with fail
  refine (source_any v len _ HR.out).mono ?_
  rintro e w1 ⟨p, rfl, hs1⟩
  have HS1 := hidK hs1
  have hp1 := hs1.plt
  have hp0 : w.heap.size < p := by have := hs1.1; simp at this; omega
  clear hs1
  go_wp2_with fail
  refine (volW_any HS1.out).mono ?_
  rintro e w2 ⟨n, c, z, k, x, m, y, a, l, cp, zs, rfl, hn, hz, hk, hm, htx, hti, hd⟩
  have hb := hd.src.2.2.1
  have q := (hb.block _ (lt_of_some HGC.out)).trans HGC.out
  have HB := upB HB0 hb
  have HT := hidK htx
  have HTI := hidK hti
  have z0 : w2.cell? ⟨w.heap.size, 0, none⟩ = some (.string ⟨#[]⟩) := cellK q 0
  have zf0 : w2.frozen? ⟨w.heap.size, 0, none⟩ = false := froK q 0
  have z1 : w2.cell? ⟨w.heap.size, 1, none⟩ = some (.int .i64 0) := cellK q 1
  have zf1 : w2.frozen? ⟨w.heap.size, 1, none⟩ = false := froK q 1
  have z2 : w2.cell? ⟨w.heap.size, 2, none⟩ = some (.string ⟨#[]⟩) := cellK q 2
  have zf2 : w2.frozen? ⟨w.heap.size, 2, none⟩ = false := froK q 2
  have z3 : w2.cell? ⟨w.heap.size, 3, none⟩ = some (.string ⟨#[]⟩) := cellK q 3
  have zf3 : w2.frozen? ⟨w.heap.size, 3, none⟩ = false := froK q 3
  have z4 : w2.cell? ⟨w.heap.size, 4, none⟩ = some (.bool false) := cellK q 4
  have zf4 : w2.frozen? ⟨w.heap.size, 4, none⟩ = false := froK q 4
  have z5 : w2.cell? ⟨w.heap.size, 5, none⟩ = some (.string ⟨#[]⟩) := cellK q 5
  have zf5 : w2.frozen? ⟨w.heap.size, 5, none⟩ = false := froK q 5
  have z6 : w2.cell? ⟨w.heap.size, 6, none⟩ = some (.bool false) := cellK q 6
  have zf6 : w2.frozen? ⟨w.heap.size, 6, none⟩ = false := froK q 6
  have z7 : w2.cell? ⟨w.heap.size, 7, none⟩ = some (.slice none 0 0) := cellK q 7
  have zf7 : w2.frozen? ⟨w.heap.size, 7, none⟩ = false := froK q 7
  clear q hb hd htx hti
  go_wp2_with fail
  refine bodyPost_ret (v := .agg #[.string n, .int .i64 c, .string z, .string k, .bool x, .string m, .bool y, .slice a l cp]) (by simp [results, Tryz.results14, go_sem, *]) rfl ⟨n, c, z, k, x, m, y, a, l, cp, zs, rfl, hn, hz, hk, hm, ?_, set_below (Nat.le_refl _) (set_below (Nat.le_refl _) (set_below (Nat.le_refl _) (set_below (Nat.le_refl _) (set_below (Nat.le_refl _) (set_below (Nat.le_refl _) (set_below (Nat.le_refl _) (set_below (Nat.le_refl _) (HB.out))))))))⟩
  refine row_keep HT.out (by simp [World.setCell]) (HTI.out.imp id fun ⟨g, cur, e, hg, _⟩ => ⟨g, e, ?_⟩)
  have hgn : g ≠ w.heap.size := by omega
  rw [Below.heap_setCell _ _ _ _ hgn, Below.heap_setCell _ _ _ _ hgn, Below.heap_setCell _ _ _ _ hgn, Below.heap_setCell _ _ _ _ hgn, Below.heap_setCell _ _ _ _ hgn, Below.heap_setCell _ _ _ _ hgn, Below.heap_setCell _ _ _ _ hgn, Below.heap_setCell _ _ _ _ hgn]

set_option maxHeartbeats 3200000 in
theorem drawClaimRead_any (v : Value) (len : Nat) (w : World) (hR : RowIn w.heap.size w v len) : Calls Tryz.prog 8 #[v] w (DrewTx w) := by
  have HR := hidK hR
  clear hR
  go_enter Tryz.func8, Tryz.ntmps8
  go_wp2_with fail
  refine (source_any v len _ HR.out).mono ?_
  rintro e w1 ⟨p, rfl, hs1⟩
  have HS1 := hidK hs1
  clear hs1
  go_wp2_with fail
  refine (claim_any HS1.out).mono ?_
  rintro e w2 ⟨n, c, k, x, u, rfl, hn, hk, hu, hd⟩
  have HD2 := hidK hd
  clear hd
  go_wp2_with fail
  refine (sclaimText_any n c k x u _ (by omega) (by omega) (by omega)).mono ?_
  rintro e w3 ⟨rfl, hb⟩
  have HD3 := hidK (HD2.out.below hb)
  clear hb HD2
  have hsz := claimX_size n c k x u
  generalize claimX n c k x u = s at *
  go_wp2_with fail
  refine (HD3.out.src.n 4 (by decide)).mono ?_
  rintro e w4 ⟨r, rfl, ra, rb, hs, hg⟩
  have HD4 := hidK (HD3.out.next hs hg)
  clear hs hg HD3 rb
  by_cases h0 : r = 0
  · subst h0
    go_wp2_with fail
    refine (spoil_any HD4.out.src s (by omega)).mono ?_
    rintro e w5 ⟨s5, rfl, hs5, hs, hg⟩
    have HB := hidK hs.2.2.1
    clear hs hg
    go_wp2_with fail
    go_ret
    exact ⟨s5, rfl, hs5, HB.out⟩
  have q0 : (r == 0) = false := by simp [h0]
  by_cases h1 : r = 1
  · subst h1
    clear h0
    go_wp2_with fail
    refine (pick_new HD4.out.src [⟨#[]⟩, ⟨#[99, 108, 97, 105, 109, 32, 99, 32, 53, 71, 105, 32, 102, 97, 115, 116]⟩, ⟨#[99, 108, 97, 105, 109, 32, 99, 32, 53, 71, 105, 32, 102, 97, 115, 116, 32, 111, 110, 101]⟩, ⟨#[99, 108, 97, 105, 109, 32, 99, 32, 48, 71, 105, 32, 102, 97, 115, 116, 32, 115, 105, 110, 103, 108, 101]⟩, ⟨#[112, 111, 100, 32, 99, 32, 53, 71, 105, 32, 102, 97, 115, 116, 32, 115, 105, 110, 103, 108, 101]⟩] 5 _ _ (by simp) rfl (by decide) (by decide) (by decide)).mono ?_
    rintro e w5 ⟨s5, rfl, hs5, hs, hg⟩
    have HB := hidK hs.2.2.1
    clear hs hg
    go_wp2_with fail
    go_ret
    exact ⟨s5, rfl, by omega, HB.out⟩
  have q1 : (r == 1) = false := by simp [h1]
  clear h0 h1
  have HB := hidK HD4.out.src.2.2.1
  go_wp2_with fail
  go_ret
  exact ⟨s, rfl, by omega, HB.out⟩

end Dk
namespace Dk

def DrewPod (w : World) (e : Ending) (w' : World) : Prop := ∃ n c z a l cp zs d ph, e = .returned (.agg #[.string n, .int .i64 c, .string z, .slice a l cp, .string d, .int .i64 ph]) ∧ n.size ≤ 100 ∧ z.size ≤ 100 ∧ d.size ≤ 100 ∧ TxRow w' a l cp zs ∧ (a = none → cp = 0) ∧ zs.length ≤ 4 ∧ Below w.heap.size w w'

set_option maxHeartbeats 1600000 in
theorem drawPodText_any (v : Value) (len : Nat) (w : World) (hR : RowIn w.heap.size w v len) : Calls Tryz.prog 5 #[v] w (DrewPod w) := by
  have hb0 := below1 w (.cells #[.string ⟨#[]⟩, .int .i64 0, .string ⟨#[]⟩, .slice none 0 0, .string ⟨#[]⟩, .int .i64 0] 28)
  have HR := hidK (RowIn.up (hR.below hb0) hb0.size)
  have HGC : Hid ((w.alloc (.cells #[.string ⟨#[]⟩, .int .i64 0, .string ⟨#[]⟩, .slice none 0 0, .string ⟨#[]⟩, .int .i64 0] 28)).heap[w.heap.size]? = some (.cells #[.string ⟨#[]⟩, .int .i64 0, .string ⟨#[]⟩, .slice none 0 0, .string ⟨#[]⟩, .int .i64 0] 28 (0, 0))) := Array.getElem?_push_size
  have HB0 := hidK hb0
  clear hR hb0
  go_enter Tryz.func5, Tryz.ntmps5
  go_wp2_with fail
  refine (source_any v len _ HR.out).mono ?_
  rintro e w1 ⟨p, rfl, hs1⟩
  have HS1 := hidK hs1
  have hp1 := hs1.plt
  have hp0 : w.heap.size < p := by have := hs1.1; simp at this; omega
  clear hs1
  go_wp2_with fail
  refine (pod_any HS1.out).mono ?_
  rintro e w2 ⟨n, c, z, a, l, cp, zs, d, ph, rfl, hn, hz, hd, htx, hni, hti, hl4, hsz, hdr⟩
  have hb := hdr.src.2.2.1
  have q := (hb.block _ (lt_of_some HGC.out)).trans HGC.out
  have HB := upB HB0 hb
  have HT := hidK htx
  have HTI := hidK hti
  have HNI := hidK hni
  have z0 : w2.cell? ⟨w.heap.size, 0, none⟩ = some (.string ⟨#[]⟩) := cellK q 0
  have zf0 : w2.frozen? ⟨w.heap.size, 0, none⟩ = false := froK q 0
  have z1 : w2.cell? ⟨w.heap.size, 1, none⟩ = some (.int .i64 0) := cellK q 1
  have zf1 : w2.frozen? ⟨w.heap.size, 1, none⟩ = false := froK q 1
  have z2 : w2.cell? ⟨w.heap.size, 2, none⟩ = some (.string ⟨#[]⟩) := cellK q 2
  have zf2 : w2.frozen? ⟨w.heap.size, 2, none⟩ = false := froK q 2
  have z3 : w2.cell? ⟨w.heap.size, 3, none⟩ = some (.slice none 0 0) := cellK q 3
  have zf3 : w2.frozen? ⟨w.heap.size, 3, none⟩ = false := froK q 3
  have z4 : w2.cell? ⟨w.heap.size, 4, none⟩ = some (.string ⟨#[]⟩) := cellK q 4
  have zf4 : w2.frozen? ⟨w.heap.size, 4, none⟩ = false := froK q 4
  have z5 : w2.cell? ⟨w.heap.size, 5, none⟩ = some (.int .i64 0) := cellK q 5
  have zf5 : w2.frozen? ⟨w.heap.size, 5, none⟩ = false := froK q 5
  clear q hb hdr htx hti hsz hni
  go_wp2_with fail
  refine bodyPost_ret (v := .agg #[.string n, .int .i64 c, .string z, .slice a l cp, .string d, .int .i64 ph]) (by simp [results, Tryz.results5, go_sem, *]) rfl ⟨n, c, z, a, l, cp, zs, d, ph, rfl, hn, hz, hd, ?_, HNI.out, hl4, set_below (Nat.le_refl _) (set_below (Nat.le_refl _) (set_below (Nat.le_refl _) (set_below (Nat.le_refl _) (set_below (Nat.le_refl _) (set_below (Nat.le_refl _) (HB.out))))))⟩
  refine row_keep HT.out (by simp [World.setCell]) (HTI.out.imp id fun ⟨g, e, hg⟩ => ⟨g, e, ?_⟩)
  have hgn : g ≠ w.heap.size := by omega
  rw [Below.heap_setCell _ _ _ _ hgn, Below.heap_setCell _ _ _ _ hgn, Below.heap_setCell _ _ _ _ hgn, Below.heap_setCell _ _ _ _ hgn, Below.heap_setCell _ _ _ _ hgn, Below.heap_setCell _ _ _ _ hgn]

set_option maxHeartbeats 3200000 in
theorem drawPodRead_any (v : Value) (len : Nat) (w : World) (hR : RowIn w.heap.size w v len) : Calls Tryz.prog 9 #[v] w (DrewTx w) := by
  have HR := hidK hR
  clear hR
  go_enter Tryz.func9, Tryz.ntmps9
  go_wp2_with fail
  refine (source_any v len _ HR.out).mono ?_
  rintro e w1 ⟨p, rfl, hs1⟩
  have HS1 := hidK hs1
  clear hs1
  go_wp2_with fail
  refine (pod_any HS1.out).mono ?_
  rintro e w2 ⟨n, c, z, a, l, cp, zs, d, ph, rfl, hn, hz, hd, htx, hni, hti, hl4, hsz0, hdr⟩
  have HD2 := hidK hdr
  have HTX := hidK htx
  clear hdr htx hni hti hsz0
  go_wp2_with fail
  refine (spodText_any n c z a l cp zs d ph _ (by omega) (by omega) (by omega) HTX.out).mono ?_
  rintro e w3 ⟨rfl, hb⟩
  have HD3 := hidK (HD2.out.below hb)
  clear hb HD2
  have hsz := podX_size n c z zs d ph
  clear HTX
  generalize podX n c z zs d ph = s at *
  go_wp2_with fail
  refine (HD3.out.src.n 4 (by decide)).mono ?_
  rintro e w4 ⟨r, rfl, ra, rb, hs, hg⟩
  have HD4 := hidK (HD3.out.next hs hg)
  clear hs hg HD3 rb
  by_cases h0 : r = 0
  · subst h0
    go_wp2_with fail
    refine (spoil_any HD4.out.src s (by omega)).mono ?_
    rintro e w5 ⟨s5, rfl, hs5, hs, hg⟩
    have HB := hidK hs.2.2.1
    clear hs hg
    go_wp2_with fail
    go_ret
    exact ⟨s5, rfl, hs5, HB.out⟩
  have q0 : (r == 0) = false := by simp [h0]
  by_cases h1 : r = 1
  · subst h1
    clear h0
    go_wp2_with fail
    refine (pick_new HD4.out.src [⟨#[]⟩, ⟨#[112, 111, 100, 32, 112, 32, 49]⟩, ⟨#[112, 111, 100, 32, 112, 32, 49, 32, 45]⟩, ⟨#[112, 111, 100, 32, 112, 32, 49, 32, 45, 32, 98, 32, 97]⟩, ⟨#[112, 111, 100, 32, 112, 32, 49, 32, 45, 32, 97, 32, 98, 32, 99, 32, 100]⟩, ⟨#[112, 111, 100, 32, 112, 32, 49, 48, 48, 48, 109, 32, 45]⟩] 6 _ _ (by simp) rfl (by decide) (by decide) (by decide)).mono ?_
    rintro e w5 ⟨s5, rfl, hs5, hs, hg⟩
    have HB := hidK hs.2.2.1
    clear hs hg
    go_wp2_with fail
    go_ret
    exact ⟨s5, rfl, by omega, HB.out⟩
  have q1 : (r == 1) = false := by simp [h1]
  clear h0 h1
  have HB := hidK HD4.out.src.2.2.1
  go_wp2_with fail
  go_ret
  exact ⟨s, rfl, by omega, HB.out⟩

end Dk

def edgeL : List Int := [0, 1, -1, 2, 1000, 1001, 2147483648, 2147483647, -2147483648, 4611686018427387904, 9223372036854775807, -9223372036854775808, 1000000, 1000001]
theorem edge_at (k : Nat) (h : k < 14) : ∃ x : Int, (edgeL.map (Value.int .i64))[k]? = some (.int .i64 x) ∧ -9223372036854775808 ≤ x ∧ x ≤ 9223372036854775807 := by
  have hl : k < edgeL.length := h
  have hall : ∀ x ∈ edgeL, -9223372036854775808 ≤ x ∧ x ≤ 9223372036854775807 := by decide
  exact ⟨edgeL[k], by simp [hl], hall _ (List.getElem_mem hl)⟩

def DrewEdge (B : Nat) (w0 : World) (p : Nat) (v : Value) (len : Nat) (w : World) (e : Ending) (w' : World) : Prop := ∃ x : Int, e = .returned (.int .i64 x) ∧ -9223372036854775808 ≤ x ∧ x ≤ 9223372036854775807 ∧ Src B w0 p v len w' ∧ w.grownBy w' (some p)

set_option maxHeartbeats 1600000 in
theorem edge_any {B : Nat} {w0 : World} {p : Nat} {v : Value} {len : Nat} {w : World} (h : Src B w0 p v len w) :
    Calls Tryz.prog 51 #[.pointer (some ⟨p, 0, none⟩)] w (DrewEdge B w0 p v len w) := by
  have HS : Hid (Src B w0 p v len w) := h
  clear h
  go_enter Tryz.func51, Tryz.ntmps51
  go_wp2_with fail
  have hS0 := HS.out.keep (grown_alloc w (.cells (edgeL.map (Value.int .i64)).toArray 2) none) (by simp) (fun k hk => by cases hk)
  refine (hS0.n 14 (by decide)).mono ?_
  rintro e w1 ⟨r, rfl, r0, r1, hS1, hg1⟩
  obtain ⟨k, rfl⟩ := Int.eq_ofNat_of_zero_le r0
  have hk : k < 14 := by omega
  obtain ⟨x, hx, x0, x1⟩ := edge_at k hk
  have hpw : p < w.heap.size := HS.out.plt
  have hblk : w1.heap[w.heap.size]? = some (.cells (edgeL.map (Value.int .i64)).toArray 2 (0, 0)) := by
    rw [hg1.block w.heap.size (by simp) (fun e => by simp at e; omega)]
    show (w.heap.push _)[w.heap.size]? = _
    simp
  have hc : w1.cell? ⟨w.heap.size, k, none⟩ = some (.int .i64 x) := by
    simp only [World.cell?, hblk]
    simpa using hx
  have HS1 : Hid (Src B w0 p v len w1) := hS1
  have HG : Hid (w.grownBy w1 (some p)) := grown_trans (grown_alloc w _ _) hg1
  have hki : (k : Int) < 14 := by omega
  clear hS0 hS1 hg1 hblk hx HS r1 r0
  go_wp2
  go_ret
  exact ⟨x, rfl, x0, x1, HS1.out, HG.out⟩

namespace Dk

def DrewNode (w : World) (e : Ending) (w' : World) : Prop := ∃ n z c s u d a l cp zs, e = .returned (.agg #[.string n, .string z, .int .i64 c, .int .i64 s, .int .i64 u, .bool d, .slice a l cp]) ∧ n.size ≤ 100 ∧ z.size ≤ 100 ∧ TxRow w' a l cp zs ∧ Below w.heap.size w w'

set_option maxHeartbeats 3200000 in
theorem drawNodeRight_any (v : Value) (len : Nat) (w : World) (hR : RowIn w.heap.size w v len) : Calls Tryz.prog 12 #[v] w (DrewNode w) := by
  have hb0 := below1 w (.cells #[.string ⟨#[]⟩, .string ⟨#[]⟩, .int .i64 0, .int .i64 0, .int .i64 0, .bool false, .slice none 0 0] 40)
  have HR := hidK (RowIn.up (hR.below hb0) hb0.size)
  have HGC : Hid ((w.alloc (.cells #[.string ⟨#[]⟩, .string ⟨#[]⟩, .int .i64 0, .int .i64 0, .int .i64 0, .bool false, .slice none 0 0] 40)).heap[w.heap.size]? = some (.cells #[.string ⟨#[]⟩, .string ⟨#[]⟩, .int .i64 0, .int .i64 0, .int .i64 0, .bool false, .slice none 0 0] 40 (0, 0))) := Array.getElem?_push_size
  have HB0 := hidK hb0
  clear hR hb0
  go_enter Tryz.func12, Tryz.ntmps12
  go_wp2_with fail
  refine (source_any v len _ HR.out).mono ?_
  rintro e w1 ⟨p, rfl, hs1⟩
  have HS1 := hidK hs1
  have hp1 := hs1.plt
  have hp0 : w.heap.size < p := by have := hs1.1; simp at this; omega
  clear hs1
  have HD0 := hidK (Dr.start HS1.out)
  go_wp2_with fail
  refine (zone_any HD0.out.src).mono ?_
  rintro e w2 ⟨t, rfl, ht, hs, hg⟩
  have HD1 := hidK (HD0.out.next hs hg)
  clear hs hg HD0
  go_wp2_with fail
  refine (l02Cpu_any HD1.out.src).mono ?_
  rintro e w3 ⟨c3, rfl, ca3, cb3, hs, hg⟩
  have HD2 := hidK (HD1.out.next hs hg)
  clear hs hg HD1
  go_wp2_with fail
  refine (HD2.out.src.n 11 (by decide)).mono ?_
  rintro e w4 ⟨r4, rfl, ra4, rb4, hs, hg⟩
  have HD3 := hidK (HD2.out.next hs hg)
  have rc4 : r4 ≤ 11 := by omega
  clear hs hg HD2 rb4
  go_wp2_with fail
  refine (HD3.out.src.n 30 (by decide)).mono ?_
  rintro e w5 ⟨r5, rfl, ra5, rb5, hs, hg⟩
  have HD4 := hidK (HD3.out.next hs hg)
  have rc5 : r5 ≤ 30 := by omega
  have hp5 : p < w5.heap.size := HD4.out.src.plt
  have hq5 : w1.heap.size ≤ w5.heap.size := HD4.out.size
  have hw1 : w.heap.size < w1.heap.size := by omega
  clear hs hg HD3 rb5
  have HDA := hidK (HD4.out.alloc (.cells #[.string ⟨#[110, 49]⟩, .string t, .int .i64 c3, .int .i64 (r4 - 1), .int .i64 r5, .bool false, .slice none 0 0] 40))
  have GA : Hid ((w5.alloc (.cells #[.string ⟨#[110, 49]⟩, .string t, .int .i64 c3, .int .i64 (r4 - 1), .int .i64 r5, .bool false, .slice none 0 0] 40)).heap[w5.heap.size]? = some (.cells #[.string ⟨#[110, 49]⟩, .string t, .int .i64 c3, .int .i64 (r4 - 1), .int .i64 r5, .bool false, .slice none 0 0] 40 (0, 0))) := Array.getElem?_push_size
  clear HD4
  go_wp2_with fail
  refine (one_any HDA.out.src 3 (by decide)).mono ?_
  rintro e w6 ⟨he, hs, hg⟩
  have HD5 := hidK (HDA.out.next hs hg)
  have G5 := hidK (gk hg (by omega) GA.out)
  clear hs hg HDA GA
  rcases he with rfl | rfl
  · go_wp2_with fail
    refine (pick_new HD5.out.src [⟨#[100, 50]⟩, ⟨#[100, 49]⟩, ⟨#[65]⟩] 3 _ _ (by simp) rfl (by decide) (by decide) (by decide)).mono ?_
    rintro e w7 ⟨t7, rfl, ht7, hs, hg⟩
    have HD6 := hidK (HD5.out.next hs hg)
    have G6 := hidK (gk hg (by omega) G5.out)
    have hl7 := lt_of_some G6.out
    clear hs hg HD5 G5
    have y0 : w7.cell? ⟨w5.heap.size, 0, none⟩ = some (.string ⟨#[110, 49]⟩) := cellK G6.out 0
    have yf0 : w7.frozen? ⟨w5.heap.size, 0, none⟩ = false := froK G6.out 0
    have y1 : w7.cell? ⟨w5.heap.size, 1, none⟩ = some (.string t) := cellK G6.out 1
    have yf1 : w7.frozen? ⟨w5.heap.size, 1, none⟩ = false := froK G6.out 1
    have y2 : w7.cell? ⟨w5.heap.size, 2, none⟩ = some (.int .i64 c3) := cellK G6.out 2
    have yf2 : w7.frozen? ⟨w5.heap.size, 2, none⟩ = false := froK G6.out 2
    have y3 : w7.cell? ⟨w5.heap.size, 3, none⟩ = some (.int .i64 (r4 - 1)) := cellK G6.out 3
    have yf3 : w7.frozen? ⟨w5.heap.size, 3, none⟩ = false := froK G6.out 3
    have y4 : w7.cell? ⟨w5.heap.size, 4, none⟩ = some (.int .i64 r5) := cellK G6.out 4
    have yf4 : w7.frozen? ⟨w5.heap.size, 4, none⟩ = false := froK G6.out 4
    have y5 : w7.cell? ⟨w5.heap.size, 5, none⟩ = some (.bool false) := cellK G6.out 5
    have yf5 : w7.frozen? ⟨w5.heap.size, 5, none⟩ = false := froK G6.out 5
    have y6 : w7.cell? ⟨w5.heap.size, 6, none⟩ = some (.slice none 0 0) := cellK G6.out 6
    have yf6 : w7.frozen? ⟨w5.heap.size, 6, none⟩ = false := froK G6.out 6
    have hsw : (w7.setCell ⟨w5.heap.size, 6, none⟩ (.slice (some ⟨w7.heap.size, 0, none⟩) 2 2)).heap.size = w7.heap.size := by simp [World.setCell]
    have hdl : Dr _ _ p v len w1 ((w7.setCell ⟨w5.heap.size, 6, none⟩ (.slice (some ⟨w7.heap.size, 0, none⟩) 2 2)).alloc (.cells #[.string ⟨#[100, 49]⟩, .string t7] 9)) := (HD6.out.set _ (by omega)).alloc _
    have hgl : ((w7.setCell ⟨w5.heap.size, 6, none⟩ (.slice (some ⟨w7.heap.size, 0, none⟩) 2 2)).alloc (.cells #[.string ⟨#[100, 49]⟩, .string t7] 9)).heap[w5.heap.size]? = some (.cells #[.string ⟨#[110, 49]⟩, .string t, .int .i64 c3, .int .i64 (r4 - 1), .int .i64 r5, .bool false, .slice (some ⟨w7.heap.size, 0, none⟩) 2 2] 40 (0, 0)) := (Below.heap_alloc _ _ _ (by rw [hsw]; exact hl7)).trans (block_set G6.out _)
    have htl : ((w7.setCell ⟨w5.heap.size, 6, none⟩ (.slice (some ⟨w7.heap.size, 0, none⟩) 2 2)).alloc (.cells #[.string ⟨#[100, 49]⟩, .string t7] 9)).heap[w7.heap.size]? = some (.cells #[.string ⟨#[100, 49]⟩, .string t7] 9 (0, 0)) := push_at _ _ _ hsw
    go_wp2_with fail
    generalize ((w7.setCell ⟨w5.heap.size, 6, none⟩ (.slice (some ⟨w7.heap.size, 0, none⟩) 2 2)).alloc (.cells #[.string ⟨#[100, 49]⟩, .string t7] 9)) = W at *
    have HDL := hidK hdl
    have GL := hidK hgl
    have HTL := hidK htl
    clear hdl hgl htl HD6 G6 hsw y0 yf0 y1 yf1 y2 yf2 y3 yf3 y4 yf4 y5 yf5 y6 yf6
    refine (one_any HDL.out.src 6 (by decide)).mono ?_
    rintro e w8 ⟨he, hs, hg⟩
    have HD8 := hidK (HDL.out.next hs hg)
    have G8 := hidK (gk hg (by omega) GL.out)
    have hg8 := hidK hg
    have HT8 : Hid (TxRow w8 (some ⟨w7.heap.size, 0, none⟩) 2 2 ([⟨#[100, 49]⟩, t7] : List ByteArray) ∧ (([⟨#[100, 49]⟩, t7] : List ByteArray) = [] ∨ ∃ g, ((some ⟨w7.heap.size, 0, none⟩) : Option Addr) = some ⟨g, 0, none⟩ ∧ w5.heap.size < g)) := ⟨TxRow.copy (gk hg (by omega) HTL.out) rfl (by omega) (fun j x hx => by have h1 := List.mem_of_getElem? hx; simp at h1; rcases h1 with rfl | rfl; decide; omega), .inr ⟨w7.heap.size, rfl, by omega⟩⟩
    clear hs hg HDL GL
    rcases he with rfl | rfl
    · go_wp2_with fail
      refine (edge_any HD8.out.src).mono ?_
      rintro e w9 ⟨x9, rfl, xa9, xb9, hs, hg⟩
      have HD9 := hidK (HD8.out.next hs hg)
      have G9 := hidK (gk hg (by omega) G8.out)
      have HT9 : Hid (TxRow w9 (some ⟨w7.heap.size, 0, none⟩) 2 2 ([⟨#[100, 49]⟩, t7] : List ByteArray) ∧ (([⟨#[100, 49]⟩, t7] : List ByteArray) = [] ∨ ∃ g, ((some ⟨w7.heap.size, 0, none⟩) : Option Addr) = some ⟨g, 0, none⟩ ∧ w5.heap.size < g)) := ⟨TxRow.copy (gk hg (by omega) (gk hg8.out (by omega) HTL.out)) rfl (by omega) (fun j x hx => by have h1 := List.mem_of_getElem? hx; simp at h1; rcases h1 with rfl | rfl; decide; omega), .inr ⟨w7.heap.size, rfl, by omega⟩⟩
      clear hs hg HD8 G8 HT8
      have hb := HD9.out.src.2.2.1
      have q := (hb.block _ (lt_of_some HGC.out)).trans HGC.out
      have HB := upB HB0 hb
      have hl5 := lt_of_some G9.out
      have y0 : w9.cell? ⟨w5.heap.size, 0, none⟩ = some (.string ⟨#[110, 49]⟩) := cellK G9.out 0
      have yf0 : w9.frozen? ⟨w5.heap.size, 0, none⟩ = false := froK G9.out 0
      have y1 : w9.cell? ⟨w5.heap.size, 1, none⟩ = some (.string t) := cellK G9.out 1
      have yf1 : w9.frozen? ⟨w5.heap.size, 1, none⟩ = false := froK G9.out 1
      have y2 : w9.cell? ⟨w5.heap.size, 2, none⟩ = some (.int .i64 c3) := cellK G9.out 2
      have yf2 : w9.frozen? ⟨w5.heap.size, 2, none⟩ = false := froK G9.out 2
      have y3 : w9.cell? ⟨w5.heap.size, 3, none⟩ = some (.int .i64 (r4 - 1)) := cellK G9.out 3
      have yf3 : w9.frozen? ⟨w5.heap.size, 3, none⟩ = false := froK G9.out 3
      have y4 : w9.cell? ⟨w5.heap.size, 4, none⟩ = some (.int .i64 r5) := cellK G9.out 4
      have yf4 : w9.frozen? ⟨w5.heap.size, 4, none⟩ = false := froK G9.out 4
      have y5 : w9.cell? ⟨w5.heap.size, 5, none⟩ = some (.bool false) := cellK G9.out 5
      have yf5 : w9.frozen? ⟨w5.heap.size, 5, none⟩ = false := froK G9.out 5
      have y6 : w9.cell? ⟨w5.heap.size, 6, none⟩ = some (.slice (some ⟨w7.heap.size, 0, none⟩) 2 2) := cellK G9.out 6
      have yf6 : w9.frozen? ⟨w5.heap.size, 6, none⟩ = false := froK G9.out 6
      have z0 : w9.cell? ⟨w.heap.size, 0, none⟩ = some (.string ⟨#[]⟩) := cellK q 0
      have zf0 : w9.frozen? ⟨w.heap.size, 0, none⟩ = false := froK q 0
      have z1 : w9.cell? ⟨w.heap.size, 1, none⟩ = some (.string ⟨#[]⟩) := cellK q 1
      have zf1 : w9.frozen? ⟨w.heap.size, 1, none⟩ = false := froK q 1
      have z2 : w9.cell? ⟨w.heap.size, 2, none⟩ = some (.int .i64 0) := cellK q 2
      have zf2 : w9.frozen? ⟨w.heap.size, 2, none⟩ = false := froK q 2
      have z3 : w9.cell? ⟨w.heap.size, 3, none⟩ = some (.int .i64 0) := cellK q 3
      have zf3 : w9.frozen? ⟨w.heap.size, 3, none⟩ = false := froK q 3
      have z4 : w9.cell? ⟨w.heap.size, 4, none⟩ = some (.int .i64 0) := cellK q 4
      have zf4 : w9.frozen? ⟨w.heap.size, 4, none⟩ = false := froK q 4
      have z5 : w9.cell? ⟨w.heap.size, 5, none⟩ = some (.bool false) := cellK q 5
      have zf5 : w9.frozen? ⟨w.heap.size, 5, none⟩ = false := froK q 5
      have z6 : w9.cell? ⟨w.heap.size, 6, none⟩ = some (.slice none 0 0) := cellK q 6
      have zf6 : w9.frozen? ⟨w.heap.size, 6, none⟩ = false := froK q 6
      have hne : ¬ w5.heap.size = w.heap.size := by omega
      have hne2 : ¬ w.heap.size = w5.heap.size := by omega
      clear q hb
      go_wp2_with fail
      refine bodyPost_ret (v := .agg #[.string ⟨#[110, 49]⟩, .string t, .int .i64 c3, .int .i64 (r4 - 1), .int .i64 x9, .bool false, .slice (some ⟨w7.heap.size, 0, none⟩) 2 2]) (by simp [results, Tryz.results12, go_sem, *]) rfl ⟨⟨#[110, 49]⟩, t, c3, r4 - 1, x9, false, (some ⟨w7.heap.size, 0, none⟩), 2, 2, ([⟨#[100, 49]⟩, t7] : List ByteArray), rfl, by decide, ht, ?_, set_below (Nat.le_refl _) (set_below (Nat.le_refl _) (set_below (Nat.le_refl _) (set_below (Nat.le_refl _) (set_below (Nat.le_refl _) (set_below (Nat.le_refl _) (set_below (Nat.le_refl _) (set_below (show w.heap.size ≤ w5.heap.size by omega) HB.out)))))))⟩
      refine row_keep HT9.out.1 (by simp [World.setCell]) (HT9.out.2.imp id fun ⟨g, e, hg⟩ => ⟨g, e, ?_⟩)
      have hgn : g ≠ w.heap.size := by omega
      have hgm : g ≠ w5.heap.size := by omega
      rw [Below.heap_setCell _ _ _ _ hgn, Below.heap_setCell _ _ _ _ hgn, Below.heap_setCell _ _ _ _ hgn, Below.heap_setCell _ _ _ _ hgn, Below.heap_setCell _ _ _ _ hgn, Below.heap_setCell _ _ _ _ hgn, Below.heap_setCell _ _ _ _ hgn, Below.heap_setCell _ _ _ _ hgm]
    · have hb := HD8.out.src.2.2.1
      have q := (hb.block _ (lt_of_some HGC.out)).trans HGC.out
      have HB := upB HB0 hb
      have hl5 := lt_of_some G8.out
      have y0 : w8.cell? ⟨w5.heap.size, 0, none⟩ = some (.string ⟨#[110, 49]⟩) := cellK G8.out 0
      have yf0 : w8.frozen? ⟨w5.heap.size, 0, none⟩ = false := froK G8.out 0
      have y1 : w8.cell? ⟨w5.heap.size, 1, none⟩ = some (.string t) := cellK G8.out 1
      have yf1 : w8.frozen? ⟨w5.heap.size, 1, none⟩ = false := froK G8.out 1
      have y2 : w8.cell? ⟨w5.heap.size, 2, none⟩ = some (.int .i64 c3) := cellK G8.out 2
      have yf2 : w8.frozen? ⟨w5.heap.size, 2, none⟩ = false := froK G8.out 2
      have y3 : w8.cell? ⟨w5.heap.size, 3, none⟩ = some (.int .i64 (r4 - 1)) := cellK G8.out 3
      have yf3 : w8.frozen? ⟨w5.heap.size, 3, none⟩ = false := froK G8.out 3
      have y4 : w8.cell? ⟨w5.heap.size, 4, none⟩ = some (.int .i64 r5) := cellK G8.out 4
      have yf4 : w8.frozen? ⟨w5.heap.size, 4, none⟩ = false := froK G8.out 4
      have y5 : w8.cell? ⟨w5.heap.size, 5, none⟩ = some (.bool false) := cellK G8.out 5
      have yf5 : w8.frozen? ⟨w5.heap.size, 5, none⟩ = false := froK G8.out 5
      have y6 : w8.cell? ⟨w5.heap.size, 6, none⟩ = some (.slice (some ⟨w7.heap.size, 0, none⟩) 2 2) := cellK G8.out 6
      have yf6 : w8.frozen? ⟨w5.heap.size, 6, none⟩ = false := froK G8.out 6
      have z0 : w8.cell? ⟨w.heap.size, 0, none⟩ = some (.string ⟨#[]⟩) := cellK q 0
      have zf0 : w8.frozen? ⟨w.heap.size, 0, none⟩ = false := froK q 0
      have z1 : w8.cell? ⟨w.heap.size, 1, none⟩ = some (.string ⟨#[]⟩) := cellK q 1
      have zf1 : w8.frozen? ⟨w.heap.size, 1, none⟩ = false := froK q 1
      have z2 : w8.cell? ⟨w.heap.size, 2, none⟩ = some (.int .i64 0) := cellK q 2
      have zf2 : w8.frozen? ⟨w.heap.size, 2, none⟩ = false := froK q 2
      have z3 : w8.cell? ⟨w.heap.size, 3, none⟩ = some (.int .i64 0) := cellK q 3
      have zf3 : w8.frozen? ⟨w.heap.size, 3, none⟩ = false := froK q 3
      have z4 : w8.cell? ⟨w.heap.size, 4, none⟩ = some (.int .i64 0) := cellK q 4
      have zf4 : w8.frozen? ⟨w.heap.size, 4, none⟩ = false := froK q 4
      have z5 : w8.cell? ⟨w.heap.size, 5, none⟩ = some (.bool false) := cellK q 5
      have zf5 : w8.frozen? ⟨w.heap.size, 5, none⟩ = false := froK q 5
      have z6 : w8.cell? ⟨w.heap.size, 6, none⟩ = some (.slice none 0 0) := cellK q 6
      have zf6 : w8.frozen? ⟨w.heap.size, 6, none⟩ = false := froK q 6
      have hne : ¬ w5.heap.size = w.heap.size := by omega
      have hne2 : ¬ w.heap.size = w5.heap.size := by omega
      clear q hb
      go_wp2_with fail
      refine bodyPost_ret (v := .agg #[.string ⟨#[110, 49]⟩, .string t, .int .i64 c3, .int .i64 (r4 - 1), .int .i64 r5, .bool false, .slice (some ⟨w7.heap.size, 0, none⟩) 2 2]) (by simp [results, Tryz.results12, go_sem, *]) rfl ⟨⟨#[110, 49]⟩, t, c3, r4 - 1, r5, false, (some ⟨w7.heap.size, 0, none⟩), 2, 2, ([⟨#[100, 49]⟩, t7] : List ByteArray), rfl, by decide, ht, ?_, set_below (Nat.le_refl _) (set_below (Nat.le_refl _) (set_below (Nat.le_refl _) (set_below (Nat.le_refl _) (set_below (Nat.le_refl _) (set_below (Nat.le_refl _) (set_below (Nat.le_refl _) (HB.out)))))))⟩
      refine row_keep HT8.out.1 (by simp [World.setCell]) (HT8.out.2.imp id fun ⟨g, e, hg⟩ => ⟨g, e, ?_⟩)
      have hgn : g ≠ w.heap.size := by omega
      have hgm : g ≠ w5.heap.size := by omega
      rw [Below.heap_setCell _ _ _ _ hgn, Below.heap_setCell _ _ _ _ hgn, Below.heap_setCell _ _ _ _ hgn, Below.heap_setCell _ _ _ _ hgn, Below.heap_setCell _ _ _ _ hgn, Below.heap_setCell _ _ _ _ hgn, Below.heap_setCell _ _ _ _ hgn]
  · go_wp2_with fail
    refine (one_any HD5.out.src 6 (by decide)).mono ?_
    rintro e w8 ⟨he, hs, hg⟩
    have HD8 := hidK (HD5.out.next hs hg)
    have G8 := hidK (gk hg (by omega) G5.out)
    have HT8 : Hid (TxRow w8 none 0 0 ([] : List ByteArray) ∧ (([] : List ByteArray) = [] ∨ ∃ g, (none : Option Addr) = some ⟨g, 0, none⟩ ∧ w5.heap.size < g)) := ⟨⟨rfl, Nat.le_refl _, by omega, fun j x hx => by simp at hx, .inl rfl⟩, .inl rfl⟩
    clear hs hg HD5 G5
    rcases he with rfl | rfl
    · go_wp2_with fail
      refine (edge_any HD8.out.src).mono ?_
      rintro e w9 ⟨x9, rfl, xa9, xb9, hs, hg⟩
      have HD9 := hidK (HD8.out.next hs hg)
      have G9 := hidK (gk hg (by omega) G8.out)
      have HT9 : Hid (TxRow w9 none 0 0 ([] : List ByteArray) ∧ (([] : List ByteArray) = [] ∨ ∃ g, (none : Option Addr) = some ⟨g, 0, none⟩ ∧ w5.heap.size < g)) := ⟨⟨rfl, Nat.le_refl _, by omega, fun j x hx => by simp at hx, .inl rfl⟩, .inl rfl⟩
      clear hs hg HD8 G8 HT8
      have hb := HD9.out.src.2.2.1
      have q := (hb.block _ (lt_of_some HGC.out)).trans HGC.out
      have HB := upB HB0 hb
      have hl5 := lt_of_some G9.out
      have y0 : w9.cell? ⟨w5.heap.size, 0, none⟩ = some (.string ⟨#[110, 49]⟩) := cellK G9.out 0
      have yf0 : w9.frozen? ⟨w5.heap.size, 0, none⟩ = false := froK G9.out 0
      have y1 : w9.cell? ⟨w5.heap.size, 1, none⟩ = some (.string t) := cellK G9.out 1
      have yf1 : w9.frozen? ⟨w5.heap.size, 1, none⟩ = false := froK G9.out 1
      have y2 : w9.cell? ⟨w5.heap.size, 2, none⟩ = some (.int .i64 c3) := cellK G9.out 2
      have yf2 : w9.frozen? ⟨w5.heap.size, 2, none⟩ = false := froK G9.out 2
      have y3 : w9.cell? ⟨w5.heap.size, 3, none⟩ = some (.int .i64 (r4 - 1)) := cellK G9.out 3
      have yf3 : w9.frozen? ⟨w5.heap.size, 3, none⟩ = false := froK G9.out 3
      have y4 : w9.cell? ⟨w5.heap.size, 4, none⟩ = some (.int .i64 r5) := cellK G9.out 4
      have yf4 : w9.frozen? ⟨w5.heap.size, 4, none⟩ = false := froK G9.out 4
      have y5 : w9.cell? ⟨w5.heap.size, 5, none⟩ = some (.bool false) := cellK G9.out 5
      have yf5 : w9.frozen? ⟨w5.heap.size, 5, none⟩ = false := froK G9.out 5
      have y6 : w9.cell? ⟨w5.heap.size, 6, none⟩ = some (.slice none 0 0) := cellK G9.out 6
      have yf6 : w9.frozen? ⟨w5.heap.size, 6, none⟩ = false := froK G9.out 6
      have z0 : w9.cell? ⟨w.heap.size, 0, none⟩ = some (.string ⟨#[]⟩) := cellK q 0
      have zf0 : w9.frozen? ⟨w.heap.size, 0, none⟩ = false := froK q 0
      have z1 : w9.cell? ⟨w.heap.size, 1, none⟩ = some (.string ⟨#[]⟩) := cellK q 1
      have zf1 : w9.frozen? ⟨w.heap.size, 1, none⟩ = false := froK q 1
      have z2 : w9.cell? ⟨w.heap.size, 2, none⟩ = some (.int .i64 0) := cellK q 2
      have zf2 : w9.frozen? ⟨w.heap.size, 2, none⟩ = false := froK q 2
      have z3 : w9.cell? ⟨w.heap.size, 3, none⟩ = some (.int .i64 0) := cellK q 3
      have zf3 : w9.frozen? ⟨w.heap.size, 3, none⟩ = false := froK q 3
      have z4 : w9.cell? ⟨w.heap.size, 4, none⟩ = some (.int .i64 0) := cellK q 4
      have zf4 : w9.frozen? ⟨w.heap.size, 4, none⟩ = false := froK q 4
      have z5 : w9.cell? ⟨w.heap.size, 5, none⟩ = some (.bool false) := cellK q 5
      have zf5 : w9.frozen? ⟨w.heap.size, 5, none⟩ = false := froK q 5
      have z6 : w9.cell? ⟨w.heap.size, 6, none⟩ = some (.slice none 0 0) := cellK q 6
      have zf6 : w9.frozen? ⟨w.heap.size, 6, none⟩ = false := froK q 6
      have hne : ¬ w5.heap.size = w.heap.size := by omega
      have hne2 : ¬ w.heap.size = w5.heap.size := by omega
      clear q hb
      go_wp2_with fail
      refine bodyPost_ret (v := .agg #[.string ⟨#[110, 49]⟩, .string t, .int .i64 c3, .int .i64 (r4 - 1), .int .i64 x9, .bool false, .slice none 0 0]) (by simp [results, Tryz.results12, go_sem, *]) rfl ⟨⟨#[110, 49]⟩, t, c3, r4 - 1, x9, false, none, 0, 0, ([] : List ByteArray), rfl, by decide, ht, ?_, set_below (Nat.le_refl _) (set_below (Nat.le_refl _) (set_below (Nat.le_refl _) (set_below (Nat.le_refl _) (set_below (Nat.le_refl _) (set_below (Nat.le_refl _) (set_below (Nat.le_refl _) (set_below (show w.heap.size ≤ w5.heap.size by omega) HB.out)))))))⟩
      exact row_keep HT9.out.1 (by simp [World.setCell]) (.inl rfl)
    · have hb := HD8.out.src.2.2.1
      have q := (hb.block _ (lt_of_some HGC.out)).trans HGC.out
      have HB := upB HB0 hb
      have hl5 := lt_of_some G8.out
      have y0 : w8.cell? ⟨w5.heap.size, 0, none⟩ = some (.string ⟨#[110, 49]⟩) := cellK G8.out 0
      have yf0 : w8.frozen? ⟨w5.heap.size, 0, none⟩ = false := froK G8.out 0
      have y1 : w8.cell? ⟨w5.heap.size, 1, none⟩ = some (.string t) := cellK G8.out 1
      have yf1 : w8.frozen? ⟨w5.heap.size, 1, none⟩ = false := froK G8.out 1
      have y2 : w8.cell? ⟨w5.heap.size, 2, none⟩ = some (.int .i64 c3) := cellK G8.out 2
      have yf2 : w8.frozen? ⟨w5.heap.size, 2, none⟩ = false := froK G8.out 2
      have y3 : w8.cell? ⟨w5.heap.size, 3, none⟩ = some (.int .i64 (r4 - 1)) := cellK G8.out 3
      have yf3 : w8.frozen? ⟨w5.heap.size, 3, none⟩ = false := froK G8.out 3
      have y4 : w8.cell? ⟨w5.heap.size, 4, none⟩ = some (.int .i64 r5) := cellK G8.out 4
      have yf4 : w8.frozen? ⟨w5.heap.size, 4, none⟩ = false := froK G8.out 4
      have y5 : w8.cell? ⟨w5.heap.size, 5, none⟩ = some (.bool false) := cellK G8.out 5
      have yf5 : w8.frozen? ⟨w5.heap.size, 5, none⟩ = false := froK G8.out 5
      have y6 : w8.cell? ⟨w5.heap.size, 6, none⟩ = some (.slice none 0 0) := cellK G8.out 6
      have yf6 : w8.frozen? ⟨w5.heap.size, 6, none⟩ = false := froK G8.out 6
      have z0 : w8.cell? ⟨w.heap.size, 0, none⟩ = some (.string ⟨#[]⟩) := cellK q 0
      have zf0 : w8.frozen? ⟨w.heap.size, 0, none⟩ = false := froK q 0
      have z1 : w8.cell? ⟨w.heap.size, 1, none⟩ = some (.string ⟨#[]⟩) := cellK q 1
      have zf1 : w8.frozen? ⟨w.heap.size, 1, none⟩ = false := froK q 1
      have z2 : w8.cell? ⟨w.heap.size, 2, none⟩ = some (.int .i64 0) := cellK q 2
      have zf2 : w8.frozen? ⟨w.heap.size, 2, none⟩ = false := froK q 2
      have z3 : w8.cell? ⟨w.heap.size, 3, none⟩ = some (.int .i64 0) := cellK q 3
      have zf3 : w8.frozen? ⟨w.heap.size, 3, none⟩ = false := froK q 3
      have z4 : w8.cell? ⟨w.heap.size, 4, none⟩ = some (.int .i64 0) := cellK q 4
      have zf4 : w8.frozen? ⟨w.heap.size, 4, none⟩ = false := froK q 4
      have z5 : w8.cell? ⟨w.heap.size, 5, none⟩ = some (.bool false) := cellK q 5
      have zf5 : w8.frozen? ⟨w.heap.size, 5, none⟩ = false := froK q 5
      have z6 : w8.cell? ⟨w.heap.size, 6, none⟩ = some (.slice none 0 0) := cellK q 6
      have zf6 : w8.frozen? ⟨w.heap.size, 6, none⟩ = false := froK q 6
      have hne : ¬ w5.heap.size = w.heap.size := by omega
      have hne2 : ¬ w.heap.size = w5.heap.size := by omega
      clear q hb
      go_wp2_with fail
      refine bodyPost_ret (v := .agg #[.string ⟨#[110, 49]⟩, .string t, .int .i64 c3, .int .i64 (r4 - 1), .int .i64 r5, .bool false, .slice none 0 0]) (by simp [results, Tryz.results12, go_sem, *]) rfl ⟨⟨#[110, 49]⟩, t, c3, r4 - 1, r5, false, none, 0, 0, ([] : List ByteArray), rfl, by decide, ht, ?_, set_below (Nat.le_refl _) (set_below (Nat.le_refl _) (set_below (Nat.le_refl _) (set_below (Nat.le_refl _) (set_below (Nat.le_refl _) (set_below (Nat.le_refl _) (set_below (Nat.le_refl _) (HB.out)))))))⟩
      exact row_keep HT8.out.1 (by simp [World.setCell]) (.inl rfl)

end Dk

abbrev Fact := Value → World → Prop
def Fact.Mono (φ : Fact) : Prop := ∀ v w w', φ v w → Below w.heap.size w w' → φ v w'
theorem Fact.mono_eq (c : Value) : Fact.Mono (fun v _ => v = c) := fun _ _ _ h _ => h

def slotFact (a0 : Act) (known : List (Tmp × Fact)) (a : Act) (w : World) (t : Tmp) : Prop :=
  match known.lookup t with
  | some φ => φ (a.tmps.getD t undef) w
  | none => a.tmps.getD t undef = a0.tmps.getD t undef

def Obl (P : Program) (ops : Array Oper) (Q : Exit → Act → World → Prop) (W : World) (a0 : Act) (known : List (Tmp × Fact)) (o : Oper) (φ : Fact) : Prop :=
  ∀ (a : Act) (w : World) (K : Act → World → Prop), a.tmps.size = a0.tmps.size → Below W.heap.size W w → (∀ t ∈ o.looksAt ops, slotFact a0 known a w t) →
    (∀ v w', Below w.heap.size w w' → φ v w' → K (a.put o.dst v) w') → if Region.wanted o (yielded ops a.tmps) = true then o.wp P a w K Q else K (a.put o.dst undef) w

def looksOf (o : Oper) : List Tmp := o.op.operands.toList.filterMap fun | .tmp t => some t | _ => none
theorem Obl.plain {P : Program} {ops : Array Oper} {Q : Exit → Act → World → Prop} {W : World} {a0 : Act} {known : List (Tmp × Fact)} {o : Oper} {φ : Fact} (hg : o.guard = none)
    (h : ∀ (a : Act) (w : World) (K : Act → World → Prop), a.tmps.size = a0.tmps.size → Below W.heap.size W w → (∀ t ∈ looksOf o, slotFact a0 known a w t) → (∀ v w', Below w.heap.size w w' → φ v w' → K (a.put o.dst v) w') → o.wp P a w K Q) : Obl P ops Q W a0 known o φ := by
  intro a w K h1 h2 h3 h4
  have hw : Region.wanted o (yielded ops a.tmps) = true := by simp [Region.wanted, hg]
  rw [if_pos hw]
  exact h a w K h1 h2 (fun t ht => h3 t (by unfold Oper.looksAt; exact List.mem_append_left _ ht)) h4

def lastStep (P : Program) (ops : Array Oper) (Q : Exit → Act → World → Prop) (back : Option Oper) (a : Act) (w : World) : Prop :=
  match back with
  | none => Q .normal a w
  | some o => ∀ K : Act → World → Prop, (∀ a w, Q .normal a w → K a w) → if Region.wanted o (yielded ops a.tmps) = true then o.wp P a w K Q else K (a.put o.dst undef) w

def putsAll (a0 : Act) (known : List (Tmp × Fact)) (x : Tmp → Value) : Act := known.foldr (fun p b => b.put (some p.1) (x p.1)) a0
def Fin (P : Program) (ops : Array Oper) (Q : Exit → Act → World → Prop) (W : World) (a0 : Act) (back : Option Oper) (known : List (Tmp × Fact)) : Prop :=
  ∀ (x : Tmp → Value) (w : World), Below W.heap.size W w → (∀ p ∈ known, p.2 (x p.1) w) → lastStep P ops Q back (putsAll a0 known x) w

def kn (d : Option Tmp) (φ : Fact) (known : List (Tmp × Fact)) : List (Tmp × Fact) := match d with | some t => (t, φ) :: known | none => known

def Grow (P : Program) (ops : Array Oper) (Q : Exit → Act → World → Prop) (W : World) (a0 : Act) (back : Option Oper) : List Oper → List (Tmp × Fact) → Prop
  | [], known => Fin P ops Q W a0 back known
  | o :: rest, known => ∃ φ : Fact, φ.Mono ∧ Obl P ops Q W a0 known o φ ∧ Grow P ops Q W a0 back rest (kn o.dst φ known)
theorem Grow.step {P : Program} {ops : Array Oper} {Q : Exit → Act → World → Prop} {W : World} {a0 : Act} {back : Option Oper} {o : Oper} {rest : List Oper} {known : List (Tmp × Fact)} {t : Tmp} (φ : Fact) (hd : o.dst = some t) (hφ : φ.Mono) (ho : Obl P ops Q W a0 known o φ)
    (h : Grow P ops Q W a0 back rest ((t, φ) :: known)) : Grow P ops Q W a0 back (o :: rest) known := ⟨φ, hφ, ho, by rw [hd]; exact h⟩
theorem Grow.stepC {P : Program} {ops : Array Oper} {Q : Exit → Act → World → Prop} {W : World} {a0 : Act} {back : Option Oper} {o : Oper} {rest : List Oper} {known : List (Tmp × Fact)} {t : Tmp} (c : Value) (hd : o.dst = some t) (ho : Obl P ops Q W a0 known o (fun v _ => v = c))
    (h : Grow P ops Q W a0 back rest ((t, fun v _ => v = c) :: known)) : Grow P ops Q W a0 back (o :: rest) known := Grow.step _ hd (Fact.mono_eq c) ho h
theorem Grow.done {P : Program} {ops : Array Oper} {Q : Exit → Act → World → Prop} {W : World} {a0 : Act} {back : Option Oper} {known : List (Tmp × Fact)} (h : Fin P ops Q W a0 back known) : Grow P ops Q W a0 back [] known := h

def growB (n : Nat) (front : List Oper) (back : Option Oper) : Bool :=
  let ops := (front ++ back.toList).toArray
  decide ((front.filterMap (·.dst)).Nodup) && front.all (fun o => match o.dst with | some t => decide (t < n) | none => true) &&
  (List.range front.length).all (fun j => match front[j]? with
    | some o => (o.looksAt ops).all (fun t => (List.range front.length).all fun i => match front[i]? with
        | some p => p.dst != some t || (decide (i < j) && o.after.any fun e => e.on == i && Region.binds .any e)
        | none => true)
    | none => true) &&
  (List.range ops.size).all (fun j => match ops[j]? with | some o => o.after.all (fun e => decide (e.on < j)) | none => true) &&
  (match back with | some o => (List.range front.length).all (fun i => o.after.any fun e => e.on == i && Region.binds .any e) | none => true)

section
variable {P : Program} {ops : Array Oper} {Q : Exit → Act → World → Prop} {W : World} {a0 : Act} {back : Option Oper}

def knAll : List (Tmp × Fact) → List Oper → List Fact → List (Tmp × Fact)
  | known, o :: l, φ :: φs => knAll (kn o.dst φ known) l φs
  | known, _, _ => known
theorem knAll_nil (known : List (Tmp × Fact)) (φs : List Fact) : knAll known [] φs = known := by cases φs <;> rfl

theorem Grow.spec : ∀ (l : List Oper) (known : List (Tmp × Fact)), Grow P ops Q W a0 back l known → ∃ φs : List Fact, φs.length = l.length ∧
    (∀ (i : Nat) (o : Oper) (φ : Fact), l[i]? = some o → φs[i]? = some φ → φ.Mono ∧ Obl P ops Q W a0 (knAll known (l.take i) (φs.take i)) o φ) ∧ Fin P ops Q W a0 back (knAll known l φs)
  | [], known, h => ⟨[], rfl, fun i o φ h => by simp at h, by rw [knAll_nil]; exact h⟩
  | o :: l, known, h => by
    obtain ⟨φ, hφ, ho, hr⟩ := h
    obtain ⟨φs, hl, hs, hf⟩ := Grow.spec l _ hr
    refine ⟨φ :: φs, by simp [hl], ?_, hf⟩
    intro i o' φ' h1 h2
    cases i with
    | zero =>
      simp only [List.getElem?_cons_zero, Option.some.injEq] at h1 h2
      subst h1; subst h2
      exact ⟨hφ, ho⟩
    | succ i =>
      simp only [List.getElem?_cons_succ] at h1 h2
      simpa [knAll] using hs i o' φ' h1 h2

theorem lookup_kn (d : Option Tmp) (φ : Fact) (known : List (Tmp × Fact)) (t : Tmp) : (kn d φ known).lookup t = if d = some t then some φ else known.lookup t := by
  cases d with
  | none => simp [kn]
  | some d =>
    simp only [kn, Option.some.injEq, List.lookup_cons]
    by_cases h : d = t
    · subst h; simp
    · rw [if_neg h]
      have : (t == d) = false := by simpa using fun e => h e.symm
      rw [this]

theorem lookup_some : ∀ (l : List Oper) (φs : List Fact) (known : List (Tmp × Fact)) {t : Tmp} {φ : Fact}, (knAll known l φs).lookup t = some φ →
    (∃ (i : Nat) (o : Oper), l[i]? = some o ∧ o.dst = some t ∧ φs[i]? = some φ) ∨ known.lookup t = some φ
  | [], φs, known, t, φ, h => by rw [knAll_nil] at h; exact .inr h
  | o :: l, [], known, t, φ, h => .inr h
  | o :: l, ψ :: φs, known, t, φ, h => by
    rcases lookup_some l φs (kn o.dst ψ known) h with ⟨i, o', h1, h2, h3⟩ | h
    · exact .inl ⟨i + 1, o', by simpa using h1, h2, by simpa using h3⟩
    · rw [lookup_kn] at h
      by_cases hd : o.dst = some t
      · rw [if_pos hd] at h
        exact .inl ⟨0, o, rfl, hd, by simpa using h⟩
      · rw [if_neg hd] at h
        exact .inr h
theorem lookup_none : ∀ (l : List Oper) (φs : List Fact) (known : List (Tmp × Fact)) {t : Tmp}, (knAll known l φs).lookup t = none →
    known.lookup t = none ∧ ∀ (i : Nat) (o : Oper) (φ : Fact), l[i]? = some o → φs[i]? = some φ → o.dst ≠ some t
  | [], φs, known, t, h => by rw [knAll_nil] at h; exact ⟨h, fun i o φ h => by simp at h⟩
  | o :: l, [], known, t, h => ⟨h, fun i o φ _ h => by simp at h⟩
  | o :: l, ψ :: φs, known, t, h => by
    obtain ⟨h1, h2⟩ := lookup_none l φs (kn o.dst ψ known) h
    rw [lookup_kn] at h1
    by_cases hd : o.dst = some t
    · rw [if_pos hd] at h1; cases h1
    · rw [if_neg hd] at h1
      refine ⟨h1, fun i o' φ h3 h4 => ?_⟩
      cases i with
      | zero => simp only [List.getElem?_cons_zero, Option.some.injEq] at h3; subst h3; exact hd
      | succ i => exact h2 i o' φ (by simpa using h3) (by simpa using h4)
theorem mem_knAll : ∀ (l : List Oper) (φs : List Fact) (known : List (Tmp × Fact)) {p : Tmp × Fact}, p ∈ knAll known l φs →
    (∃ (i : Nat) (o : Oper), l[i]? = some o ∧ o.dst = some p.1 ∧ φs[i]? = some p.2) ∨ p ∈ known
  | [], φs, known, p, h => by rw [knAll_nil] at h; exact .inr h
  | o :: l, [], known, p, h => .inr h
  | o :: l, ψ :: φs, known, p, h => by
    rcases mem_knAll l φs (kn o.dst ψ known) h with ⟨i, o', h1, h2, h3⟩ | h
    · exact .inl ⟨i + 1, o', by simpa using h1, h2, by simpa using h3⟩
    · cases hd : o.dst with
      | none => rw [hd] at h; exact .inr h
      | some d =>
        rw [hd] at h
        simp only [kn, List.mem_cons] at h
        rcases h with rfl | h
        · exact .inl ⟨0, o, rfl, hd, rfl⟩
        · exact .inr h

theorem getD_put (a : Act) (d t : Tmp) (v : Value) : (a.put (some d) v).tmps.getD t undef = if d = t ∧ t < a.tmps.size then v else a.tmps.getD t undef := by
  simp only [Act.put, Array.getD_eq_getD_getElem?, Array.getElem?_setIfInBounds]
  by_cases h : d = t
  · subst h
    by_cases h2 : d < a.tmps.size
    · simp [h2]
    · simp [h2]
  · simp [h]
theorem size_put (a : Act) (d : Option Tmp) (v : Value) : (a.put d v).tmps.size = a.tmps.size := by cases d <;> simp [Act.put]
theorem defers_put (a : Act) (d : Option Tmp) (v : Value) : (a.put d v).defers = a.defers := by cases d <;> simp [Act.put]
theorem putsAll_size (a0 : Act) (x : Tmp → Value) : ∀ known, (putsAll a0 known x).tmps.size = a0.tmps.size
  | [] => rfl
  | p :: l => by unfold putsAll; rw [List.foldr_cons, size_put]; exact putsAll_size a0 x l
theorem putsAll_defers (a0 : Act) (x : Tmp → Value) : ∀ known, (putsAll a0 known x).defers = a0.defers
  | [] => rfl
  | p :: l => by unfold putsAll; rw [List.foldr_cons, defers_put]; exact putsAll_defers a0 x l
theorem putsAll_getD (a0 a : Act) (known : List (Tmp × Fact)) (hk : ∀ p ∈ known, p.1 < a0.tmps.size) (t : Tmp) (h : (∀ p ∈ known, p.1 ≠ t) → a.tmps.getD t undef = a0.tmps.getD t undef) :
    (putsAll a0 known (fun t => a.tmps.getD t undef)).tmps.getD t undef = a.tmps.getD t undef := by
  induction known with
  | nil => exact (h (fun p hp => by simp at hp)).symm
  | cons p l ih =>
    have e : putsAll a0 (p :: l) (fun t => a.tmps.getD t undef) = (putsAll a0 l (fun t => a.tmps.getD t undef)).put (some p.1) (a.tmps.getD p.1 undef) := rfl
    rw [e, getD_put, putsAll_size]
    by_cases hp : p.1 = t
    · subst hp
      rw [if_pos ⟨rfl, hk p (by simp)⟩]
    · rw [if_neg (fun h => hp h.1)]
      exact ih (fun q hq => hk q (by simp [hq])) (fun hn => h (fun q hq => by
        rcases List.mem_cons.1 hq with rfl | hq
        · exact hp
        · exact hn q hq))
theorem act_ext {a b : Act} (hs : a.tmps.size = b.tmps.size) (hd : a.defers = b.defers) (h : ∀ t, a.tmps.getD t undef = b.tmps.getD t undef) : a = b := by
  cases a with | mk at_ ad => cases b with | mk bt bd =>
  simp only at hs hd h
  subst hd
  congr 1
  apply Array.ext hs
  intro i h1 h2
  have := h i
  simpa [Array.getD, h1, h2] using this

theorem getD_ft {l : Array Bool} {i : Nat} (h : i < l.size) : l.getD i false = l.getD i true := by simp [Array.getD, h]

structure At (front : List Oper) (φs : List Fact) (W : World) (a0 : Act) (listed : Array Bool) (a : Act) (w : World) : Prop where
  size : a.tmps.size = a0.tmps.size
  defers : a.defers = a0.defers
  below : Below W.heap.size W w
  known : ∀ (i : Nat) (o : Oper) (φ : Fact), front[i]? = some o → φs[i]? = some φ → ∀ t, o.dst = some t → listed.getD i false = true → φ (a.tmps.getD t undef) w
  other : ∀ t, (∀ (i : Nat) (o : Oper), front[i]? = some o → o.dst = some t → listed.getD i false = false) → a.tmps.getD t undef = a0.tmps.getD t undef

theorem nodup_dst : ∀ (l : List Oper), (l.filterMap (·.dst)).Nodup → ∀ {i j : Nat} {o p : Oper} {t : Tmp}, l[i]? = some o → l[j]? = some p → o.dst = some t → p.dst = some t → i = j
  | [], _, i, j, o, p, t, h, _, _, _ => by simp at h
  | q :: l, hn, i, j, o, p, t, h1, h2, h3, h4 => by
    have hmem : ∀ {k : Nat} {r : Oper}, l[k]? = some r → r.dst = some t → t ∈ l.filterMap (·.dst) := fun h h' => List.mem_filterMap.2 ⟨_, List.mem_of_getElem? h, h'⟩
    have hn' : (l.filterMap (·.dst)).Nodup := by
      rw [List.filterMap_cons] at hn
      split at hn
      · exact hn
      · exact (List.nodup_cons.1 hn).2
    cases i with
    | zero =>
      simp only [List.getElem?_cons_zero, Option.some.injEq] at h1
      subst h1
      cases j with
      | zero => rfl
      | succ j =>
        simp only [List.getElem?_cons_succ] at h2
        rw [List.filterMap_cons, h3] at hn
        exact absurd (hmem h2 h4) (List.nodup_cons.1 hn).1
    | succ i =>
      simp only [List.getElem?_cons_succ] at h1
      cases j with
      | zero =>
        simp only [List.getElem?_cons_zero, Option.some.injEq] at h2
        subst h2
        rw [List.filterMap_cons, h4] at hn
        exact absurd (hmem h1 h3) (List.nodup_cons.1 hn).1
      | succ j =>
        simp only [List.getElem?_cons_succ] at h2
        rw [nodup_dst l hn' h1 h2 h3 h4]

theorem At.step {front : List Oper} {φs : List Fact} {listed : Array Bool} {a : Act} {w w' : World} {j : Nat} {o : Oper} {φ : Fact} {v : Value} (h : At front φs W a0 listed a w)
    (hn : (front.filterMap (·.dst)).Nodup) (hin : ∀ o ∈ front, ∀ t, o.dst = some t → t < a0.tmps.size) (hmono : ∀ (i : Nat) (o : Oper) (φ : Fact), front[i]? = some o → φs[i]? = some φ → φ.Mono)
    (ho : front[j]? = some o) (hφ : φs[j]? = some φ) (hj : j < listed.size) (hb : Below w.heap.size w w') (hv : φ v w') : At front φs W a0 (listed.setIfInBounds j true) (a.put o.dst v) w' := by
  refine ⟨(size_put _ _ _).trans h.size, (defers_put _ _ _).trans h.defers, h.below.trans (hb.mono h.below.size), ?_, ?_⟩
  · intro i p ψ hp hψ t ht hl
    by_cases e : j = i
    · subst e
      obtain rfl : o = p := Option.some.inj (ho.symm.trans hp)
      obtain rfl : φ = ψ := Option.some.inj (hφ.symm.trans hψ)
      rw [ht, getD_put, if_pos ⟨rfl, by rw [h.size]; exact hin o (List.mem_of_getElem? ho) t ht⟩]
      exact hv
    · have hl' : listed.getD i false = true := by
        simpa [Array.getD_eq_getD_getElem?, Array.getElem?_setIfInBounds, e] using hl
      have h1 := hmono i p ψ hp hψ _ _ _ (h.known i p ψ hp hψ t ht hl') hb
      cases hd : o.dst with
      | none => exact h1
      | some d =>
        rw [getD_put, if_neg (fun hx => e (nodup_dst front hn ho hp (hd.trans (by rw [hx.1])) ht))]
        exact h1
  · intro t ht
    have hne : o.dst ≠ some t := fun hd => by
      have := ht j o ho hd
      simp [Array.getD_eq_getD_getElem?, hj] at this
    have h1 := h.other t (fun i p hp hd => by
      have h2 := ht i p hp hd
      have e : ¬ j = i := fun e => by subst e; exact hne (by rw [Option.some.inj (ho.symm.trans hp)]; exact hd)
      simpa [Array.getD_eq_getD_getElem?, Array.getElem?_setIfInBounds, e] using h2)
    cases hd : o.dst with
    | none => exact h1
    | some d =>
      rw [getD_put, if_neg (fun hx => hne (hd.trans (by rw [hx.1])))]
      exact h1

theorem growB_spec {n : Nat} {front : List Oper} {back : Option Oper} (h : growB n front back = true) :
    (front.filterMap (·.dst)).Nodup ∧ (∀ o ∈ front, ∀ t, o.dst = some t → t < n) ∧
    (∀ (j : Nat) (o : Oper), front[j]? = some o → ∀ t ∈ o.looksAt (front ++ back.toList).toArray, ∀ (i : Nat) (p : Oper), front[i]? = some p → p.dst = some t → i < j ∧ ∃ e ∈ o.after, e.on = i ∧ Region.binds .any e = true) ∧
    (∀ (j : Nat) o, (front ++ back.toList).toArray[j]? = some o → ∀ e ∈ o.after, e.on < j) ∧
    (∀ o, back = some o → ∀ i, i < front.length → ∃ e ∈ o.after, e.on = i ∧ Region.binds .any e = true) := by
  unfold growB at h
  simp only [Bool.and_eq_true, decide_eq_true_eq] at h
  obtain ⟨⟨⟨⟨h1, h2⟩, h3⟩, h4⟩, h5⟩ := h
  refine ⟨h1, ?_, ?_, ?_, ?_⟩
  · intro o ho t ht
    have := List.all_eq_true.1 h2 o ho
    rw [ht] at this
    simpa using this
  · intro j o ho t ht i p hp hd
    have hj : j < front.length := (List.getElem?_eq_some_iff.1 ho).1
    have hi : i < front.length := (List.getElem?_eq_some_iff.1 hp).1
    have := List.all_eq_true.1 h3 j (List.mem_range.2 hj)
    rw [ho] at this
    have := List.all_eq_true.1 this t ht
    have := List.all_eq_true.1 this i (List.mem_range.2 hi)
    rw [hp] at this
    simp only [hd, bne_self_eq_false, Bool.false_or, Bool.and_eq_true, decide_eq_true_eq] at this
    obtain ⟨h6, h7⟩ := this
    obtain ⟨k, hk, hx⟩ := Array.any_eq_true.1 h7
    simp only [Bool.and_eq_true, beq_iff_eq] at hx
    exact ⟨h6, _, Array.getElem_mem hk, hx.1, hx.2⟩
  · intro j o ho e he
    have hj : j < (front ++ back.toList).toArray.size := (Array.getElem?_eq_some_iff.1 ho).1
    have := List.all_eq_true.1 h4 j (List.mem_range.2 hj)
    rw [ho] at this
    have := Array.all_eq_true.1 this
    obtain ⟨k, hk, rfl⟩ := Array.mem_iff_getElem.1 he
    simpa using this k hk
  · intro o ho i hi
    subst ho
    have := List.all_eq_true.1 h5 i (List.mem_range.2 hi)
    obtain ⟨k, hk, hx⟩ := Array.any_eq_true.1 this
    simp only [Bool.and_eq_true, beq_iff_eq] at hx
    exact ⟨_, Array.getElem_mem hk, hx.1, hx.2⟩

theorem all_listed {listed : Array Bool} (hs : listed.size = ops.size) (hlt : ∀ (j : Nat) o, ops[j]? = some o → ∀ e ∈ o.after, e.on < j) (hr : Region.ready .any ops listed = []) : ∀ i, i < ops.size → listed.getD i false = true := by
  intro i
  induction i using Nat.strongRecOn with
  | _ i ih =>
    intro hi
    cases hb : listed.getD i false with
    | true => rfl
    | false =>
      have ho : ops[i]? = some ops[i] := Array.getElem?_eq_getElem hi
      have hm : i ∈ Region.ready .any ops listed := mem_ready.2 ⟨by rw [← getD_ft (by omega)]; exact hb, _, ho, fun e he _ => ih e.on (hlt i _ ho e he) (Nat.lt_trans (hlt i _ ho e he) hi)⟩
      rw [hr] at hm
      cases hm

theorem no_false {listed : Array Bool} (h : listed.toList.count false = 0) (i : Nat) (hi : i < listed.size) : listed.getD i false = true := by
  have hm : listed[i] ∈ listed.toList := by simp
  cases hb : listed[i] with
  | true => simp [Array.getD, hi, hb]
  | false =>
    rw [hb] at hm
    exact absurd (List.count_pos_iff.2 hm) (by omega)
theorem count_set {listed : Array Bool} {i : Nat} (hi : i < listed.size) (hf : listed.getD i true = false) : (listed.setIfInBounds i true).toList.count false + 1 = listed.toList.count false := by
  have hb : listed[i] = false := by simpa [Array.getD, hi] using hf
  have hm : false ∈ listed.toList := by rw [← hb]; simp
  have hp := List.count_pos_iff.2 hm
  rw [Array.toList_setIfInBounds, List.count_set (by simpa using hi)]
  rw [Array.getElem_toList, hb]
  simp only [beq_self_eq_true, if_true, show (true == false) = false from rfl, Bool.false_eq_true, if_false]
  omega

theorem Fin.last {front : List Oper} {φs : List Fact} {listed : Array Bool} {a : Act} {w : World} (hf : Fin P ops Q W a0 back (knAll [] front φs)) (hlen : φs.length = front.length) (hin : ∀ o ∈ front, ∀ t, o.dst = some t → t < a0.tmps.size)
    (h : At front φs W a0 listed a w) (hall : ∀ i, i < front.length → listed.getD i false = true) : lastStep P ops Q back a w := by
  have h1 := hf (fun t => a.tmps.getD t undef) w h.below (fun p hp => by
    rcases mem_knAll front φs [] hp with ⟨i, o, h1, h2, h3⟩ | h1
    · exact h.known i o p.2 h1 h3 p.1 h2 (hall i (List.getElem?_eq_some_iff.1 h1).1)
    · simp at h1)
  have e : putsAll a0 (knAll [] front φs) (fun t => a.tmps.getD t undef) = a := by
    refine act_ext ((putsAll_size _ _ _).trans h.size.symm) ((putsAll_defers _ _ _).trans h.defers.symm) (fun t => putsAll_getD a0 a _ (fun p hp => ?_) t (fun hn => ?_))
    · rcases mem_knAll front φs [] hp with ⟨i, o, h1, h2, h3⟩ | h1
      · exact hin o (List.mem_of_getElem? h1) _ h2
      · simp at h1
    · refine h.other t (fun i o ho hd => ?_)
      exfalso
      have hi := (List.getElem?_eq_some_iff.1 ho).1
      have hφ : φs[i]? = some (φs[i]'(by omega)) := List.getElem?_eq_getElem _
      cases hk : (knAll [] front φs).lookup t with
      | none => exact (lookup_none front φs [] hk).2 i o _ ho hφ hd
      | some φ =>
        have : ∃ p ∈ knAll [] front φs, p.1 = t := by
          revert hk
          generalize knAll [] front φs = l
          intro hk
          induction l with
          | nil => simp at hk
          | cons p l ih =>
            rw [List.lookup_cons] at hk
            cases hb : t == p.1 with
            | true => exact ⟨p, by simp, (by simpa using hb : t = p.1).symm⟩
            | false =>
              rw [hb] at hk
              obtain ⟨q, hq, he⟩ := ih hk
              exact ⟨q, by simp [hq], he⟩
        obtain ⟨p, hp, he⟩ := this
        exact hn p hp he
  rw [e] at h1
  exact h1

theorem wpAny_grow {front : List Oper} {φs : List Fact} (hops : ops = (front ++ back.toList).toArray) (hB : growB a0.tmps.size front back = true) (hlen : φs.length = front.length)
    (hs : ∀ (i : Nat) (o : Oper) (φ : Fact), front[i]? = some o → φs[i]? = some φ → φ.Mono ∧ Obl P ops Q W a0 (knAll [] (front.take i) (φs.take i)) o φ) (hf : Fin P ops Q W a0 back (knAll [] front φs)) :
    ∀ (fuel : Nat) (listed : Array Bool) (a : Act) (w : World), listed.size = ops.size → listed.toList.count false ≤ fuel → (∀ o, back = some o → listed.getD front.length false = false) → At front φs W a0 listed a w → wpAny P .any ops Q fuel listed a w := by
  obtain ⟨hn, hin, hdep, hlt, hback⟩ := growB_spec hB
  rw [← hops] at hdep hlt
  have hsz : ops.size = front.length + back.toList.length := by rw [hops]; simp
  -- all have come up
  have hend : ∀ (listed : Array Bool) (a : Act) (w : World), listed.size = ops.size → (∀ i, i < ops.size → listed.getD i false = true) → (∀ o, back = some o → listed.getD front.length false = false) → At front φs W a0 listed a w → Q .normal a w := by
    intro listed a w hz hall hb h
    have h1 := hf.last hlen hin h (fun i hi => hall i (by omega))
    cases hk : back with
    | none => rw [hk] at h1; exact h1
    | some o =>
      have h2 := hb o hk
      rw [hall _ (by rw [hsz, hk]; simp)] at h2
      cases h2
  intro fuel
  induction fuel with
  | zero =>
    intro listed a w hz hc hb h
    have hall : ∀ i, i < ops.size → listed.getD i false = true := fun i hi => no_false (by omega) i (by omega)
    refine ⟨?_, hend listed a w hz hall hb h⟩
    cases hr : Region.ready .any ops listed with
    | nil => rfl
    | cons j js =>
      have hm : j ∈ Region.ready .any ops listed := by rw [hr]; simp
      obtain ⟨h1, o, ho, -⟩ := mem_ready.1 hm
      have hj := (Array.getElem?_eq_some_iff.1 ho).1
      rw [← getD_ft (by omega), hall j hj] at h1
      cases h1
  | succ fuel ih =>
    intro listed a w hz hc hb h
    refine ⟨fun hr => hend listed a w hz (all_listed hz hlt hr) hb h, fun j hj => ?_⟩
    obtain ⟨hun, o, ho, hall⟩ := mem_ready.1 hj
    have hjs : j < ops.size := (Array.getElem?_eq_some_iff.1 ho).1
    have hcs := count_set (listed := listed) (i := j) (by omega) hun
    by_cases hjf : j < front.length
    · have hof : front[j]? = some o := by rw [hops] at ho; simpa [List.getElem?_append_left hjf] using ho
      have hφ : φs[j]? = some (φs[j]'(by omega)) := List.getElem?_eq_getElem _
      obtain ⟨hm, hob⟩ := hs j o _ hof hφ
      have hfacts : ∀ t ∈ o.looksAt ops, slotFact a0 (knAll [] (front.take j) (φs.take j)) a w t := by
        intro t ht
        unfold slotFact
        cases hk : (knAll [] (front.take j) (φs.take j)).lookup t with
        | some φ =>
          rcases lookup_some _ _ _ hk with ⟨i, p, h1, h2, h3⟩ | h1
          · have hij : i < j := by have := (List.getElem?_eq_some_iff.1 h1).1; simp at this; omega
            rw [List.getElem?_take, if_pos hij] at h1 h3
            obtain ⟨-, e, he, hon, hbi⟩ := hdep j o hof t ht i p h1 h2
            have hl := hall e he hbi
            rw [hon] at hl
            exact h.known i p φ h1 h3 t h2 hl
          · simp at h1
        | none =>
          refine h.other t (fun i p hp hd => ?_)
          exfalso
          obtain ⟨hij, -⟩ := hdep j o hof t ht i p hp hd
          have hi := (List.getElem?_eq_some_iff.1 hp).1
          exact (lookup_none _ _ _ hk).2 i p (φs[i]'(by omega)) (by rw [List.getElem?_take, if_pos hij]; exact hp) (by rw [List.getElem?_take, if_pos hij]; exact List.getElem?_eq_getElem _) hd
      have h1 := hob a w (wpAny P .any ops Q fuel (listed.setIfInBounds j true)) h.size h.below hfacts (fun v w' hbw hv => by
        refine ih _ _ _ (by simpa using hz) (by omega) (fun o' ho' => ?_) (h.step hn hin (fun i o φ h1 h2 => (hs i o φ h1 h2).1) hof hφ (by omega) hbw hv)
        have h2 := hb o' ho'
        have e : ¬ j = front.length := by omega
        simpa [Array.getD_eq_getD_getElem?, Array.getElem?_setIfInBounds, e] using h2)
      unfold wpOp
      rw [ho]
      simp only
      split
      · rename_i hw
        rw [if_pos hw] at h1
        exact .inl h1
      · rename_i hw
        rw [if_neg hw] at h1
        exact h1
    · cases hk : back with
      | none => rw [hk] at hsz; simp at hsz; omega
      | some b =>
        have hjn : j = front.length := by rw [hk] at hsz; simp at hsz; omega
        subst hjn
        have hob : o = b := by
          rw [hops, hk] at ho
          simp at ho
          exact ho.symm
        subst hob
        have hfl : ∀ i, i < front.length → listed.getD i false = true := fun i hi => by
          obtain ⟨e, he, hon, hbi⟩ := hback o hk i hi
          have := hall e he hbi
          rwa [hon] at this
        have h1 := hf.last hlen hin h hfl
        rw [hk] at h1
        have h2 := h1 (wpAny P .any ops Q fuel (listed.setIfInBounds front.length true)) (fun a' w' hq => by
          have hr : Region.ready .any ops (listed.setIfInBounds front.length true) = [] := by
            cases hr : Region.ready .any ops (listed.setIfInBounds front.length true) with
            | nil => rfl
            | cons i is =>
              have hm : i ∈ Region.ready .any ops (listed.setIfInBounds front.length true) := by rw [hr]; simp
              obtain ⟨h3, o', ho', -⟩ := mem_ready.1 hm
              have hi := (Array.getElem?_eq_some_iff.1 ho').1
              exfalso
              by_cases e : front.length = i
              · subst e
                simp [Array.getD_eq_getD_getElem?, show front.length < listed.size from by omega] at h3
              · have h4 := hfl i (by rw [hk] at hsz; simp at hsz; omega)
                rw [getD_ft (by omega)] at h4
                simp [Array.getD_eq_getD_getElem?, e] at h3 h4
                rw [h3] at h4
                cases h4
          cases fuel with
          | zero => exact ⟨hr, hq⟩
          | succ fuel => exact ⟨fun _ => hq, fun i hi => by rw [hr] at hi; cases hi⟩)
        unfold wpOp
        rw [ho]
        simp only
        split
        · rename_i hw
          rw [if_pos hw] at h2
          exact .inl h2
        · rename_i hw
          rw [if_neg hw] at h2
          exact h2
end

theorem repl_false (n i : Nat) : (Array.replicate n false).getD i false = false := by
  rw [Array.getD_eq_getD_getElem?, Array.getElem?_replicate]
  split <;> rfl
theorem wp_region_grow {P : Program} {id : Nat} {Q : Exit → Act → World → Prop} {a0 : Act} {W : World} {l : List Oper} {front : List Oper} {back : Option Oper} (hm : P.follows .mixedOrders = true) (hl : l = front ++ back.toList) (hB : growB a0.tmps.size front back = true)
    (h : Grow P l.toArray Q W a0 back front []) : (Code.region id l.toArray true).wp P Q a0 W := by
  obtain ⟨φs, hlen, hs, hf⟩ := Grow.spec _ _ h
  refine wp_region_any hm (wpAny_grow (by rw [hl]) hB hlen hs hf _ _ _ _ (by simp) ?_ (fun o ho => ?_) ⟨rfl, rfl, (Below.refl _ _).drew, fun i o φ h1 h2 t ht hx => ?_, fun t _ => rfl⟩)
  · have := List.count_le_length (a := false) (l := (Array.replicate l.toArray.size false).toList)
    simp at this ⊢
  · exact repl_false _ _
  · rw [repl_false] at hx; cases hx
theorem wp_region_grow_last {P : Program} {id : Nat} {Q : Exit → Act → World → Prop} {a0 : Act} {W : World} {l : List Oper} {front : List Oper} {last : Oper} (hm : P.follows .mixedOrders = true) (hf : l.dropLast = front) (hb : l.getLast? = some last) (hB : growB a0.tmps.size front (some last) = true)
    (h : Grow P l.toArray Q W a0 (some last) front []) : (Code.region id l.toArray true).wp P Q a0 W := by
  refine wp_region_grow hm ?_ hB h
  obtain ⟨l', rfl⟩ := List.getLast?_eq_some_iff.1 hb
  rw [← hf]
  simp

set_option maxHeartbeats 1600000 in
theorem lwTx_any (a a' : Option Addr) (len len' cap cap' : Nat) (zs : List ByteArray) (w : World) (hr : TxRow w a len cap zs) (hr' : TxRow w a' len' cap' zs) :
    Calls Tryz.prog 58 #[.slice a len cap, .slice a' len' cap'] w fun e w' => e = .returned (.bool true) ∧ Below w.heap.size w w' := by
  obtain rfl : len = len' := hr.1.symm.trans hr'.1
  have HR : Hid (TxRow w a len cap zs) := hr
  have HR' : Hid (TxRow w a' len cap' zs) := hr'
  have hlc : len ≤ 9223372036854775807 := Nat.le_trans hr.2.1 hr.2.2.1
  clear hr hr'
  go_enter Tryz.func58, Tryz.ntmps58
  go_wp2
  go_loopw [5] (fun i wr => ∃ k : Nat, k ≤ len ∧ i = .int .i64 k ∧ Hid (Below w.heap.size w wr)) (fun i _ => len - (intOf i).toNat)
  case atStart => exact ⟨0, by omega, rfl, Below.refl _ _⟩
  case round =>
    obtain ⟨k, hk, rfl, HB⟩ := hrel
    by_cases hlt : k < len
    · obtain ⟨b, o, x, rfl, hb, hx, hc, hsz⟩ := (HR.out.below HB.out).at hlt
      obtain ⟨b', o', x', rfl, hb', hx', hc', hsz'⟩ := (HR'.out.below HB.out).at hlt
      obtain rfl : x = x' := Option.some.inj (hx.symm.trans hx')
      go_wp2
      go_quiet (fail)
      go_wp2
      exact ⟨⟨k + 1, by omega, by go_num, below_drewN HB.out _⟩, by simp [intOf]; omega⟩
    · obtain rfl : k = len := by omega
      go_wp2
      go_ret
      exact ⟨rfl, HB.out⟩

set_option maxHeartbeats 3200000 in
theorem lwPod_any (n : ByteArray) (c : Int) (z : ByteArray) (a : Option Addr) (len cap : Nat) (zs : List ByteArray) (d : ByteArray) (p : Int) (a' : Option Addr) (len' cap' : Nat) (w : World) (hr : TxRow w a len cap zs) (hr' : TxRow w a' len' cap' zs) :
    Calls Tryz.prog 19 #[.agg #[.string n, .int .i64 c, .string z, .slice a len cap, .string d, .int .i64 p], .agg #[.string n, .int .i64 c, .string z, .slice a' len' cap', .string d, .int .i64 p]] w fun e w' => e = .returned (.bool true) ∧ Below w.heap.size w w' := by
  have HR : Hid (TxRow w a len cap zs) := hr
  have HR' : Hid (TxRow w a' len' cap' zs) := hr'
  clear hr hr'
  go_enter Tryz.func19, Tryz.ntmps19
  go_wp2_with fail
  refine (lwTx_any a a' len len' cap cap' zs _ (HR.out.below (below2 _ _ _)) (HR'.out.below (below2 _ _ _))).mono ?_
  rintro e w1 ⟨rfl, hb⟩
  have g0 := (hb.block w.heap.size (by simp; omega)).trans (heap2_0 _ _ _)
  have g1 := (hb.block (w.heap.size + 1) (by simp)).trans (heap2_1 _ _ _)
  have c4 : w1.cell? ⟨w.heap.size, 4, none⟩ = some (.string d) := cellK g0 4
  have c5 : w1.cell? ⟨w.heap.size, 5, none⟩ = some (.int .i64 p) := cellK g0 5
  have d4 : w1.cell? ⟨w.heap.size + 1, 4, none⟩ = some (.string d) := cellK g1 4
  have d5 : w1.cell? ⟨w.heap.size + 1, 5, none⟩ = some (.int .i64 p) := cellK g1 5
  have HB : Hid (Below w.heap.size w w1) := (below2 _ _ _).trans (hb.mono (by simp; omega))
  clear g0 g1 hb
  go_wp2_with fail
  go_ret
  exact ⟨rfl, HB.out⟩

theorem Obl.want {P : Program} {ops : Array Oper} {Q : Exit → Act → World → Prop} {W : World} {a0 : Act} {known : List (Tmp × Fact)} {o : Oper} {φ : Fact} {i : Nat} {b : Bool} {t : Tmp} (hg : o.guard = some (i, b)) (hd : (ops[i]?).bind (·.dst) = some t)
    (ht : ∀ (a : Act) (w : World), slotFact a0 known a w t → a.tmps.getD t undef = .bool b)
    (h : ∀ (a : Act) (w : World) (K : Act → World → Prop), a.tmps.size = a0.tmps.size → Below W.heap.size W w → (∀ t ∈ looksOf o, slotFact a0 known a w t) → (∀ v w', Below w.heap.size w w' → φ v w' → K (a.put o.dst v) w') → o.wp P a w K Q) : Obl P ops Q W a0 known o φ := by
  intro a w K h1 h2 h3 h4
  have ha := ht a w (h3 t (by unfold Oper.looksAt; rw [hg]; refine List.mem_append_right _ ?_; simp only [hd]; simp))
  have hw : Region.wanted o (yielded ops a.tmps) = true := by
    unfold Region.wanted
    rw [hg]
    simp only [yielded, hd, Option.bind_some]
    have : a.tmps[t]? = some (.bool b) := by
      rw [Array.getD_eq_getD_getElem?] at ha
      cases hx : a.tmps[t]? with
      | none => rw [hx] at ha; cases ha
      | some v => rw [hx] at ha; exact congrArg some ha
    rw [this]
    simp
  rw [if_pos hw]
  exact h a w K h1 h2 (fun t ht => h3 t (by unfold Oper.looksAt; exact List.mem_append_left _ ht)) h4
theorem Obl.pass {P : Program} {ops : Array Oper} {Q : Exit → Act → World → Prop} {W : World} {a0 : Act} {known : List (Tmp × Fact)} {o : Oper} {i : Nat} {b : Bool} {t : Tmp} (hg : o.guard = some (i, b)) (hd : (ops[i]?).bind (·.dst) = some t)
    (ht : ∀ (a : Act) (w : World), slotFact a0 known a w t → a.tmps.getD t undef ≠ .bool b) : Obl P ops Q W a0 known o (fun v _ => v = undef) := by
  intro a w K h1 h2 h3 h4
  have ha := ht a w (h3 t (by unfold Oper.looksAt; rw [hg]; refine List.mem_append_right _ ?_; simp only [hd]; simp))
  have hw : ¬ Region.wanted o (yielded ops a.tmps) = true := by
    unfold Region.wanted
    rw [hg]
    simp only [yielded, hd, Option.bind_some]
    intro h
    apply ha
    rw [Array.getD_eq_getD_getElem?]
    cases hx : a.tmps[t]? with
    | none => rw [hx] at h; simp at h
    | some v =>
      rw [hx] at h
      cases v <;> simp at h
      rw [h]
      rfl
  rw [if_neg hw]
  exact h4 _ _ (Below.refl _ _) rfl

theorem numNP (a b c : Int) (w : World) : (Instr.field 69 (.agg #[.int .i64 a, .int .i64 b, .int .i64 c]) 0).run Tryz.prog w = .ok (.int .i64 a) w := by kernel_rfl
theorem wordsB_count (s : ByteArray) : (wordsB s).length ≤ s.size + 1 := by
  rw [wordsB_length]
  have := Lib.countB_le blank (by decide) s.size s (Nat.le_refl _)
  omega
theorem four_of {l : List ByteArray} (h : 4 ≤ l.length) : ∃ a b c d r, l = a :: b :: c :: d :: r := by
  match l, h with
  | a :: b :: c :: d :: r, _ => exact ⟨a, b, c, d, r, rfl⟩

set_option maxHeartbeats 400000 in
theorem tooLongP_any (s : ByteArray) (w : World) (hs : s.size ≤ 9223372036854775807) :
    Calls Tryz.prog 42 #[.string s] w (BoolAns (8000 < s.size) w) := by
  go_enter Tryz.func42, Tryz.ntmps42
  go_wp2
  go_ret
  exact ⟨_, rfl, by simp; omega, rfl⟩

theorem PodAns.bad {s : ByteArray} {w w' : World} {k : Int} (h : PodIs s ⟨#[]⟩ 0 ⟨#[]⟩ [] ⟨#[]⟩ 0 k) (hb : Below w.heap.size w w') : PodAns s w (.returned (.agg #[.string ⟨#[]⟩, .int .i64 0, .string ⟨#[]⟩, .slice none 0 0, .string ⟨#[]⟩, .int .i64 0, .int .i64 k])) w' :=
  ⟨_, _, _, none, 0, 0, [], _, _, _, rfl, h, ⟨rfl, Nat.le_refl _, by omega, fun j x hx => by simp at hx, .inl rfl⟩, .inl rfl, hb⟩

def PMid (w : World) (a1 : ByteArray) (c : Int) (z : ByteArray) (zs : List ByteArray) (v : Value) (wx : World) : Prop :=
  ∃ bc a l cp, v = .pointer (some ⟨bc, 0, none⟩) ∧ wx.heap[bc]? = some (.cells #[.string a1, .int .i64 c, .string z, .slice a l cp, .string ⟨#[]⟩, .int .i64 0] 28 (0, 0)) ∧ wx.heap[w.heap.size]? = some (.cells #[.string ⟨#[]⟩, .int .i64 0, .string ⟨#[]⟩, .slice none 0 0, .string ⟨#[]⟩, .int .i64 0, .int .i64 0] 37 (0, 0)) ∧
    TxRow wx a l cp zs ∧ (a = none → cp = 0) ∧ (zs = [] ∨ ∃ g cur, a = some ⟨g, 0, none⟩ ∧ w.heap.size < g ∧ wx.heap[g]? = some (.cells cur 9 (0, 0))) ∧ Below w.heap.size w wx ∧ ¬ bc = w.heap.size
theorem TxRow.set {w : World} {a : Option Addr} {len cap : Nat} {zs : List ByteArray} (h : TxRow w a len cap zs) {b i : Nat} {v : Value} (hn : zs = [] ∨ ∃ g, a = some ⟨g, 0, none⟩ ∧ ¬ g = b) : TxRow (w.setCell ⟨b, i, none⟩ v) a len cap zs := by
  obtain ⟨h1, h2, h3, h4, h5⟩ := h
  refine ⟨h1, h2, h3, h4, ?_⟩
  rcases hn with hz | ⟨g, rfl, hg⟩
  · exact .inl hz
  rcases h5 with h5 | ⟨b', o, e, hlt, hc⟩
  · exact .inl h5
  cases e
  have hh : ∀ w : World, (w.setCell ⟨b, i, none⟩ v).heap[g]? = w.heap[g]? := fun w => Below.heap_setCell _ _ _ _ hg
  refine .inr ⟨g, 0, rfl, by simpa [World.setCell] using hlt, fun j x hx => ?_⟩
  have := hc j x hx
  simp only [World.cell?, hh] at this ⊢
  exact this
theorem PMid.A {w w4 : World} {a1 : ByteArray} {c : Int} {z : ByteArray} {zs : List ByteArray} {a : Option Addr} {l cp : Nat} (hb : Below w.heap.size w w4) (gv : w4.heap[w.heap.size]? = some (.cells #[.string ⟨#[]⟩, .int .i64 0, .string ⟨#[]⟩, .slice none 0 0, .string ⟨#[]⟩, .int .i64 0, .int .i64 0] 37 (0, 0)))
    (hr : TxRow w4 a l cp zs) (hn : a = none → cp = 0) (ho : zs = [] ∨ ∃ g cur, a = some ⟨g, 0, none⟩ ∧ w.heap.size < g ∧ w4.heap[g]? = some (.cells cur 9 (0, 0))) :
    PMid w a1 c z zs (.pointer (some ⟨w4.heap.size, 0, none⟩)) (w4.alloc (.cells #[.string a1, .int .i64 c, .string z, .slice a l cp, .string ⟨#[]⟩, .int .i64 0] 28)) := by
  have hlt := lt_of_someP gv
  refine ⟨w4.heap.size, a, l, cp, rfl, Array.getElem?_push_size, by rw [Below.heap_alloc _ _ _ hlt]; exact gv, hr.below (below1 _ _), hn, ?_, hb.trans ((below1 _ _).mono hb.size), Nat.ne_of_gt hlt⟩
  rcases ho with h | ⟨g, cur, h1, h2, h3⟩
  · exact .inl h
  · exact .inr ⟨g, cur, h1, h2, by rw [Below.heap_alloc _ _ _ (lt_of_someP h3)]; exact h3⟩
theorem row_none {w : World} {a : Option Addr} {len cap : Nat} {zs : List ByteArray} (hz : zs = []) (hl : len = 0) (hc : cap ≤ 9223372036854775807) : TxRow w a len cap zs := by
  subst hz; subst hl
  exact ⟨rfl, Nat.zero_le _, hc, fun j x hx => by simp at hx, .inl rfl⟩

theorem zoneR_size {z : ByteArray} (h : z.size ≤ 9223372036854775807) : (zoneR z).size ≤ 9223372036854775807 := by
  by_cases hz : z = wDash
  · subst hz; rw [zoneR_dash]; decide
  · rw [zoneR_no hz]; exact h
theorem own_up {w4 : World} {zs : List ByteArray} {a : Option Addr} {X Y : Nat} {T : TypeId} (h : X < Y) (ho : zs = [] ∨ ∃ g cur, a = some ⟨g, 0, none⟩ ∧ Y ≤ g ∧ w4.heap[g]? = some (.cells cur T (0, 0))) : zs = [] ∨ ∃ g cur, a = some ⟨g, 0, none⟩ ∧ X < g ∧ w4.heap[g]? = some (.cells cur T (0, 0)) := by
  rcases ho with ho | ⟨g, cur, h1, h2, h3⟩
  · exact .inl ho
  · exact .inr ⟨g, cur, h1, Nat.lt_of_lt_of_le h h2, h3⟩
theorem frzP {w : World} {b : Nat} {vs : Array Value} {T : TypeId} (h : w.heap[b]? = some (.cells vs T (0, 0))) (i : Nat) : w.frozen? ⟨b, i, none⟩ = false := by simp [World.frozen?, h]
theorem set_below7 {w w1 : World} {B b : Nat} {v0 v1 v2 v3 v4 v5 v6 : Value} (hB : B ≤ b) (h : Below B w w1) :
    Below B w (((((((w1.setCell ⟨b, 0, none⟩ (v0)).setCell ⟨b, 1, none⟩ (v1)).setCell ⟨b, 2, none⟩ (v2)).setCell ⟨b, 3, none⟩ (v3)).setCell ⟨b, 4, none⟩ (v4)).setCell ⟨b, 5, none⟩ (v5)).setCell ⟨b, 6, none⟩ (v6)) :=
  ((((((h.setCell (p := ⟨b, 0, none⟩) hB v0).setCell (p := ⟨b, 1, none⟩) hB v1).setCell (p := ⟨b, 2, none⟩) hB v2).setCell (p := ⟨b, 3, none⟩) hB v3).setCell (p := ⟨b, 4, none⟩) hB v4).setCell (p := ⟨b, 5, none⟩) hB v5).setCell (p := ⟨b, 6, none⟩) hB v6
theorem PodAns.good {s a1 : ByteArray} {c : Int} {z : ByteArray} {zs : List ByteArray} {w w5 : World} {a : Option Addr} {l cp : Nat} {v0 v1 v2 v3 v4 v5 v6 : Value} (hp : PodIs s a1 c z zs ⟨#[]⟩ 0 0) (hr : TxRow w5 a l cp zs)
    (ho : zs = [] ∨ ∃ g cur, a = some ⟨g, 0, none⟩ ∧ w.heap.size < g ∧ w5.heap[g]? = some (.cells cur 9 (0, 0))) (hb : Below w.heap.size w w5) :
    PodAns s w (.returned (.agg #[.string a1, .int .i64 c, .string z, .slice a l cp, .string ⟨#[]⟩, .int .i64 0, .int .i64 0])) (((((((w5.setCell ⟨w.heap.size, 0, none⟩ (v0)).setCell ⟨w.heap.size, 1, none⟩ (v1)).setCell ⟨w.heap.size, 2, none⟩ (v2)).setCell ⟨w.heap.size, 3, none⟩ (v3)).setCell ⟨w.heap.size, 4, none⟩ (v4)).setCell ⟨w.heap.size, 5, none⟩ (v5)).setCell ⟨w.heap.size, 6, none⟩ (v6)) := by
  have hn' : zs = [] ∨ ∃ g, a = some ⟨g, 0, none⟩ ∧ ¬ g = w.heap.size := by
    rcases ho with h | ⟨g, cur, h1, h2, _⟩
    · exact .inl h
    · exact .inr ⟨g, h1, Nat.ne_of_gt h2⟩
  refine ⟨_, _, _, a, l, cp, zs, _, _, _, rfl, hp, ((((((hr.set hn').set hn').set hn').set hn').set hn').set hn').set hn', ?_, set_below7 (Nat.le_refl _) hb⟩
  rcases ho with h | ⟨g, cur, h1, h2, h3⟩
  · exact .inl h
  · have hg : ¬ g = w.heap.size := Nat.ne_of_gt h2
    refine .inr ⟨g, cur, h1, Nat.le_of_lt h2, ?_⟩
    rw [Below.heap_setCell _ _ _ _ hg, Below.heap_setCell _ _ _ _ hg, Below.heap_setCell _ _ _ _ hg, Below.heap_setCell _ _ _ _ hg, Below.heap_setCell _ _ _ _ hg, Below.heap_setCell _ _ _ _ hg, Below.heap_setCell _ _ _ _ hg]
    exact h3

def AppAns (zs : List ByteArray) (w : World) (a : Addr) (l c : Nat) (w' : World) : Prop :=
  TxRow w' (some a) l c zs ∧ (zs = [] ∨ ∃ g cur, some a = some (⟨g, 0, none⟩ : Addr) ∧ w.heap.size ≤ g ∧ w'.heap[g]? = some (.cells cur 9 (0, 0))) ∧ Below w.heap.size w w'
theorem setRow_same {w : World} {g : Nat} {cs : Array Value} {T : TypeId} {f : Nat × Nat} (h : w.heap[g]? = some (.cells cs T f)) : Below w.heap.size w (w.setRow g cs) := by
  refine ⟨rfl, rfl, rfl, by simp, fun k hk => ?_⟩
  by_cases e : k = g
  · subst e
    rw [setRow_heap w k cs cs T f h, h]
  · exact setRow_other w g k cs e
theorem append_empty {w : World} {g0 : Nat} {ad : Addr} {len cap : Nat} {zs : List ByteArray} (ty : TypeId) (hg : w.heap[g0]? = some (.cells #[] 9 (0, 0))) (hr : TxRow w (some ad) len cap zs) (hl : len ≤ 8001) :
    ∃ a l c w', (Builtin.append_ #[26, 26] ty #[.slice (some ⟨g0, 0, none⟩) 0 0, .slice (some ad) len cap]).run Tryz.prog w = .ok (.slice (some a) l c) w' ∧ AppAns zs w a l c w' := by
  obtain ⟨i0, hi, hz0, hz1, hz2⟩ := info_parts infoStrP
  have hzl : zs.length = len := hr.1
  rcases Nat.eq_zero_or_pos len with h0 | h0
  · subst h0
    obtain rfl : zs = [] := List.eq_nil_of_length_eq_zero hzl
    have h := run_append_room (P := Tryz.prog) w 26 ty 9 i0 Tryz.underlying26 hi g0 0 0 #[] hg ad 0 cap [] (by simp) (fun j u hu => by simp at hu) (fun u hu => by simp at hu) (by omega) (by simp)
    refine ⟨_, _, _, _, h, ⟨rfl, Nat.le_refl _, by omega, fun j x hx => by simp at hx, .inl rfl⟩, .inl rfl, ?_⟩
    simpa using setRow_same hg
  · have h := run_append_grow (P := Tryz.prog) w 26 ty 9 i0 (.string ⟨#[]⟩) Tryz.underlying26 hi hz0 ⟨g0, 0, none⟩ 0 0 [] (by simp) (fun j u hu => by simp at hu) ad len cap (zs.map Value.string) (by rw [hz1]; simpa using hzl) (news_of hr) (by omega) (by omega) (growslice_fits (by omega) (by rw [hz2]; omega))
    have hge := grownCap_ge w (0 + len) 0 9
    have hcm := grownCap_le_maxLen w (0 + len) 0 9 (by unfold maxLen; omega)
    unfold maxLen at hcm
    refine ⟨_, _, _, _, h, ⟨by omega, hge, by omega, hr.2.2.2.1, .inr ⟨w.heap.size, 0, rfl, by simp, fun j x hx => ?_⟩⟩, .inr ⟨w.heap.size, _, rfl, Nat.le_refl _, heap_alloc_new w.drew _⟩, ⟨rfl, rfl, rfl, by simp, fun k hk => heap_alloc_old w.drew _ (by simpa using hk)⟩⟩
    have hc := fun o => cellK (w := w.drew.alloc (.cells o 9)) (b := w.heap.size) (heap_alloc_new w.drew (.cells o 9)) (0 + j)
    rw [hc, Nat.zero_add]
    have hj : j < zs.length := (List.getElem?_eq_some_iff.1 hx).1
    rw [Array.getElem?_append_left (by simp; omega), Array.getElem?_append_right (by simp)]
    simp [hx]

theorem wp_names {o : Oper} {a : Act} {w : World} {K : Act → World → Prop} {Q : Exit → Act → World → Prop} (s x : Operand)
    (ho : o.op = .call { callee := .builtin .append, args := #[s, x], argTypes := #[26, 26] }) (g0 : Nat) (hs : a.eval s = .slice (some ⟨g0, 0, none⟩) 0 0) (hg : w.heap[g0]? = some (.cells #[] 9 (0, 0)))
    (ad : Addr) (len cap : Nat) (hx : a.eval x = .slice (some ad) len cap) (zs : List ByteArray) (hr : TxRow w (some ad) len cap zs) (hl : len ≤ 8001)
    (h : ∀ a' l c w', AppAns zs w a' l c w' → K (a.put o.dst (.slice (some a') l c)) w') : Oper.wp Tryz.prog o a w K Q := by
  obtain ⟨a', l, c, w', hrun, hans⟩ := append_empty o.type hg hr hl
  unfold Oper.wp execOp
  simp only [ho, resolve, invoke, builtin, Sem.run_bind, Sem.run_pure, Result.andThen_ok, List.map_toArray, List.map_cons, List.map_nil, hs, hx, hrun]
  exact h a' l c w' hans

theorem podZ_cells {w : World} {b : Nat} (h : w.heap[b]? = some (.cells #[.string ⟨#[]⟩, .int .i64 0, .string ⟨#[]⟩, .slice none 0 0, .string ⟨#[]⟩, .int .i64 0] 28 (0, 0))) :
    (w.cell? ⟨b, 0, none⟩ = some (.string ⟨#[]⟩) ∧ w.frozen? ⟨b, 0, none⟩ = false) ∧ (w.cell? ⟨b, 1, none⟩ = some (.int .i64 0) ∧ w.frozen? ⟨b, 1, none⟩ = false) ∧ (w.cell? ⟨b, 2, none⟩ = some (.string ⟨#[]⟩) ∧ w.frozen? ⟨b, 2, none⟩ = false) ∧
    (w.cell? ⟨b, 3, none⟩ = some (.slice none 0 0) ∧ w.frozen? ⟨b, 3, none⟩ = false) ∧ (w.cell? ⟨b, 4, none⟩ = some (.string ⟨#[]⟩) ∧ w.frozen? ⟨b, 4, none⟩ = false) ∧ (w.cell? ⟨b, 5, none⟩ = some (.int .i64 0) ∧ w.frozen? ⟨b, 5, none⟩ = false) :=
  ⟨⟨cellK h 0, frzP h 0⟩, ⟨cellK h 1, frzP h 1⟩, ⟨cellK h 2, frzP h 2⟩, ⟨cellK h 3, frzP h 3⟩, ⟨cellK h 4, frzP h 4⟩, ⟨cellK h 5, frzP h 5⟩⟩
def PMidS (w : World) (a1 : ByteArray) (c : Int) (z : ByteArray) (zs : List ByteArray) (v : Value) (wx : World) : Prop := PMid w a1 c z zs v wx ∧ ∃ bc, v = .pointer (some ⟨bc, 0, none⟩) ∧ w.heap.size < bc
theorem PMid.T {w w4 : World} {b : Nat} {a1 : ByteArray} {c : Int} {z : ByteArray} {zs : List ByteArray} {a : Option Addr} {l cp : Nat} (gx : w4.heap[b]? = some (.cells #[.string ⟨#[]⟩, .int .i64 0, .string ⟨#[]⟩, .slice none 0 0, .string ⟨#[]⟩, .int .i64 0] 28 (0, 0))) (hbw : w.heap.size < b)
    (hb : Below w.heap.size w w4) (gv : w4.heap[w.heap.size]? = some (.cells #[.string ⟨#[]⟩, .int .i64 0, .string ⟨#[]⟩, .slice none 0 0, .string ⟨#[]⟩, .int .i64 0, .int .i64 0] 37 (0, 0)))
    (hr : TxRow w4 a l cp zs) (hn : a = none → cp = 0) (ho : zs = [] ∨ ∃ g cur, a = some (⟨g, 0, none⟩ : Addr) ∧ w.heap.size < g ∧ w4.heap[g]? = some (.cells cur 9 (0, 0))) :
    PMidS w a1 c z zs (.pointer (some ⟨b, 0, none⟩)) ((((((w4.setCell ⟨b, 0, none⟩ (.string a1)).setCell ⟨b, 1, none⟩ (.int .i64 c)).setCell ⟨b, 2, none⟩ (.string z)).setCell ⟨b, 3, none⟩ (.slice a l cp)).setCell ⟨b, 4, none⟩ (.string ⟨#[]⟩)).setCell ⟨b, 5, none⟩ (.int .i64 0)) := by
  have hne : ¬ w.heap.size = b := Nat.ne_of_lt hbw
  have ho' : zs = [] ∨ ∃ g cur, a = some (⟨g, 0, none⟩ : Addr) ∧ w.heap.size < g ∧ w4.heap[g]? = some (.cells cur 9 (0, 0)) ∧ ¬ g = b := by
    rcases ho with h | ⟨g, cur, h1, h2, h3⟩
    · exact .inl h
    · refine .inr ⟨g, cur, h1, h2, h3, ?_⟩
      rintro rfl
      rw [gx] at h3
      simp at h3
  have hn' : zs = [] ∨ ∃ g, a = some (⟨g, 0, none⟩ : Addr) ∧ ¬ g = b := by
    rcases ho' with h | ⟨g, cur, h1, h2, _, h4⟩
    · exact .inl h
    · exact .inr ⟨g, h1, h4⟩
  refine ⟨⟨b, a, l, cp, rfl, block_set (block_set (block_set (block_set (block_set (block_set gx _) _) _) _) _) _, ?_, (((((hr.set hn').set hn').set hn').set hn').set hn').set hn', hn, ?_, ?_, Nat.ne_of_gt hbw⟩, b, rfl, hbw⟩
  · rw [Below.heap_setCell _ _ _ _ hne, Below.heap_setCell _ _ _ _ hne, Below.heap_setCell _ _ _ _ hne, Below.heap_setCell _ _ _ _ hne, Below.heap_setCell _ _ _ _ hne, Below.heap_setCell _ _ _ _ hne]
    exact gv
  · rcases ho' with h | ⟨g, cur, h1, h2, h3, hg⟩
    · exact .inl h
    · refine .inr ⟨g, cur, h1, h2, ?_⟩
      rw [Below.heap_setCell _ _ _ _ hg, Below.heap_setCell _ _ _ _ hg, Below.heap_setCell _ _ _ _ hg, Below.heap_setCell _ _ _ _ hg, Below.heap_setCell _ _ _ _ hg, Below.heap_setCell _ _ _ _ hg]
      exact h3
  · have hB := Nat.le_of_lt hbw
    exact (((((hb.setCell (p := ⟨b, 0, none⟩) hB _).setCell (p := ⟨b, 1, none⟩) hB _).setCell (p := ⟨b, 2, none⟩) hB _).setCell (p := ⟨b, 3, none⟩) hB _).setCell (p := ⟨b, 4, none⟩) hB _).setCell (p := ⟨b, 5, none⟩) hB _

def EmptyAt (v : Value) (w : World) : Prop := ∃ g0, v = .slice (some ⟨g0, 0, none⟩) 0 0 ∧ w.heap[g0]? = some (.cells #[] 9 (0, 0))
theorem EmptyAt.mono : Fact.Mono EmptyAt := fun _ _ _ h hb => h.imp fun _ h => ⟨h.1, (hb.block _ (lt_of_someP h.2)).trans h.2⟩
def ListAt (zs : List ByteArray) (W : World) (v : Value) (w : World) : Prop := ∃ a l c, v = .slice (some a) l c ∧ TxRow w (some a) l c zs ∧ (zs = [] ∨ ∃ g cur, some a = some (⟨g, 0, none⟩ : Addr) ∧ W.heap.size ≤ g ∧ w.heap[g]? = some (.cells cur 9 (0, 0)))
theorem ListAt.mono (zs : List ByteArray) (W : World) : Fact.Mono (ListAt zs W) := fun _ _ _ h hb => by
  obtain ⟨a, l, c, h1, h2, h3⟩ := h
  refine ⟨a, l, c, h1, h2.below hb, ?_⟩
  rcases h3 with h3 | ⟨g, cur, q1, q2, q3⟩
  · exact .inl h3
  · exact .inr ⟨g, cur, q1, q2, (hb.block _ (lt_of_someP q3)).trans q3⟩
theorem AppAns.own {zs : List ByteArray} {w : World} {a : Addr} {l c B : Nat} {w' : World} (h : AppAns zs w a l c w') (hB : B ≤ w.heap.size) : zs = [] ∨ ∃ g cur, some a = some (⟨g, 0, none⟩ : Addr) ∧ B ≤ g ∧ w'.heap[g]? = some (.cells cur 9 (0, 0)) := by
  rcases h.2.1 with h3 | ⟨g, cur, q1, q2, q3⟩
  · exact .inl h3
  · exact .inr ⟨g, cur, q1, Nat.le_trans hB q2, q3⟩
theorem zone_set {w wx : World} {a1 z z' : ByteArray} {c : Int} {zs : List ByteArray} {bc : Nat} {a : Option Addr} {l cp : Nat} (gc : wx.heap[bc]? = some (.cells #[.string a1, .int .i64 c, .string z, .slice a l cp, .string ⟨#[]⟩, .int .i64 0] 28 (0, 0)))
    (gv : wx.heap[w.heap.size]? = some (.cells #[.string ⟨#[]⟩, .int .i64 0, .string ⟨#[]⟩, .slice none 0 0, .string ⟨#[]⟩, .int .i64 0, .int .i64 0] 37 (0, 0))) (hr : TxRow wx a l cp zs) (ho : zs = [] ∨ ∃ g cur, a = some ⟨g, 0, none⟩ ∧ w.heap.size < g ∧ wx.heap[g]? = some (.cells cur 9 (0, 0))) (hb : Below w.heap.size w wx) (hbd : w.heap.size < bc) :
    (wx.setCell ⟨bc, 2, none⟩ (.string z')).heap[bc]? = some (.cells #[.string a1, .int .i64 c, .string z', .slice a l cp, .string ⟨#[]⟩, .int .i64 0] 28 (0, 0)) ∧
    (wx.setCell ⟨bc, 2, none⟩ (.string z')).heap[w.heap.size]? = some (.cells #[.string ⟨#[]⟩, .int .i64 0, .string ⟨#[]⟩, .slice none 0 0, .string ⟨#[]⟩, .int .i64 0, .int .i64 0] 37 (0, 0)) ∧ TxRow (wx.setCell ⟨bc, 2, none⟩ (.string z')) a l cp zs ∧
    (zs = [] ∨ ∃ g cur, a = some ⟨g, 0, none⟩ ∧ w.heap.size < g ∧ (wx.setCell ⟨bc, 2, none⟩ (.string z')).heap[g]? = some (.cells cur 9 (0, 0))) ∧ Below w.heap.size w (wx.setCell ⟨bc, 2, none⟩ (.string z')) := by
  have hne' : ¬ w.heap.size = bc := Nat.ne_of_lt hbd
  have ho' : zs = [] ∨ ∃ g cur, a = some ⟨g, 0, none⟩ ∧ w.heap.size < g ∧ wx.heap[g]? = some (.cells cur 9 (0, 0)) ∧ ¬ g = bc := by
    rcases ho with h | ⟨g, cur, h1, h2, h3⟩
    · exact .inl h
    · refine .inr ⟨g, cur, h1, h2, h3, ?_⟩
      rintro rfl
      rw [gc] at h3
      simp at h3
  refine ⟨block_set gc _, (Below.heap_setCell _ _ _ _ hne').trans gv, hr.set ?_, ?_, hb.setCell (p := ⟨bc, 2, none⟩) (Nat.le_of_lt hbd) _⟩
  · rcases ho' with h | ⟨g, cur, h1, h2, h3, h4⟩
    · exact .inl h
    · exact .inr ⟨g, h1, h4⟩
  · rcases ho' with h | ⟨g, cur, h1, h2, h3, h4⟩
    · exact .inl h
    · exact .inr ⟨g, cur, h1, h2, (Below.heap_setCell _ _ _ _ h4).trans h3⟩

set_option maxRecDepth 100000 in
set_option maxHeartbeats 6400000 in
theorem spodRead_any (s : ByteArray) (w : World) (hs : s.size ≤ 1048576) :
    Calls Tryz.prog 18 #[.string s] w (PodAns s w) := by
  by_cases h8 : 8000 < s.size
  · go_enter Tryz.func18, Tryz.ntmps18
    go_wp2_with fail
    exact bodyPost_ret (v := .agg #[.string ⟨#[]⟩, .int .i64 0, .string ⟨#[]⟩, .slice none 0 0, .string ⟨#[]⟩, .int .i64 0, .int .i64 2]) (by simp [results, Tryz.results18, go_sem]) rfl (PodAns.bad ⟨rfl, rfl, .inl ⟨h8, rfl, rfl, rfl, rfl, rfl⟩⟩ (below1 _ _))
  have hs8 : s.size ≤ 8000 := by omega
  go_enter Tryz.func18, Tryz.ntmps18
  go_wp2_with fail
  refine (ssplit_any s _ hs8).mono ?_
  rintro e w1 ⟨g, m, cp, rfl, hrow, hg, hb⟩
  have hgw : w.heap.size < g := by simp at hg; omega
  obtain ⟨gr, hb1, -⟩ := slotK hb
  have HB := hidK hb1
  have HG := hidK gr
  clear hb hb1 hg
  by_cases hm : 4 ≤ m ∧ m ≤ 7
  · clear gr
    obtain ⟨a0, a1, a2, a3, zs, hw⟩ := four_of (l := wordsB s) (by rw [hrow.1]; exact hm.1)
    obtain ⟨hm4, hm7⟩ := hm
    rw [hw] at hrow
    obtain ⟨hlw, hmc, hcx, hsz, hc⟩ := hrow
    rcases hc with h | ⟨b, o, e, hgl, hc⟩
    · cases h
    cases e
    have c1 : w1.cell? ⟨g, 1, none⟩ = some (.string a1) := by simpa using hc 1 a1 rfl
    have c2 : w1.cell? ⟨g, 2, none⟩ = some (.string a2) := by simpa using hc 2 a2 rfl
    have c3 : w1.cell? ⟨g, 3, none⟩ = some (.string a3) := by simpa using hc 3 a3 rfl
    have z2 := hsz 2 a2 rfl
    have HL := hidK hgl
    have HF := hidK hw
    have HZ := hidK hsz
    have hsz' := hsz
    have HC := hidK hc
    clear hc hw hsz hgl
    have HTL := hidK (show ∀ x, Below w1.heap.size w1 x → TxRow x (some ⟨g, 4, none⟩) (m - 4) (cp - 4) zs from fun x hx => by
      refine ⟨by simp at hlw; omega, by omega, by omega, fun j y hy => hsz' (j + 4) y hy, ?_⟩
      exact .inr ⟨g, 4, rfl, Nat.lt_of_lt_of_le HL.out hx.size, fun j y hy => by
        have e := HC.out (j + 4) y hy
        rw [cell_below hx HL.out]
        rw [show 0 + (j + 4) = 4 + j from by omega] at e
        exact e⟩)
    clear hsz'
    have hN := numNP
    have i1 : (1 : Int) < (m : Int) := by omega
    have i2 : (2 : Int) < (m : Int) := by omega
    have i3 : (3 : Int) < (m : Int) := by omega
    have i4 : (4 : Int) ≤ (m : Int) := by omega
    have i7 : (m : Int) ≤ 7 := by omega
    have i5 : (m : Int) ≤ (cp : Int) := by omega
    have hzl : zs.length = m - 4 := by simp at hlw; omega
    have hgx := HL.out
    have hg1 : ¬ g = w1.heap.size := by omega
    have hg0 : ¬ w1.heap.size = g := by omega
    have hg3 : ¬ g = w1.heap.size + 1 := by omega
    have hg2 : ¬ w1.heap.size + 1 = g := by omega
    clear hgx
    have hw1 := lt_of_someP HG.out
    go_wp2_with fail
    go_cut [4] from 20 to 35 (fun v wx => PMidS w a1 (cpN a2) a3 zs v wx)
    case first =>
      refine wp_region_grow_last (by kernel_rfl) rfl rfl (by kernel_rfl) ?_
      refine' Grow.stepC _ rfl ?_ ?_
      rotate_left 1
      · refine Obl.plain rfl ?_
        intro a wg K hsz hW hf hK; clear hsz
        have e3 := hf 3 (by decide)
        simp [slotFact, List.lookup] at e3
        clear hf
        go_simp
        refine hK _ _ (Below.refl _ _) ?_
        with_reducible rfl
      refine' Grow.stepC _ rfl ?_ ?_
      rotate_left 1
      · refine Obl.plain rfl ?_
        intro a wg K hsz hW hf hK; clear hsz
        have e20 := hf 20 (by decide)
        simp [slotFact, List.lookup] at e20
        clear hf
        go_simp
        refine hK _ _ (Below.refl _ _) ?_
        with_reducible rfl
      refine' Grow.stepC _ rfl ?_ ?_
      rotate_left 1
      · refine Obl.plain rfl ?_
        intro a wg K hsz hW hf hK; clear hsz
        have e21 := hf 21 (by decide)
        simp [slotFact, List.lookup] at e21
        have c1x := (cell_below hW HL.out).trans c1
        clear hf
        go_simp
        refine hK _ _ (Below.refl _ _) ?_
        with_reducible rfl
      refine' Grow.stepC _ rfl ?_ ?_
      rotate_left 1
      · refine Obl.plain rfl ?_
        intro a wg K hsz hW hf hK; clear hsz
        have e3 := hf 3 (by decide)
        simp [slotFact, List.lookup] at e3
        clear hf
        go_simp
        refine hK _ _ (Below.refl _ _) ?_
        with_reducible rfl
      refine' Grow.stepC _ rfl ?_ ?_
      rotate_left 1
      · refine Obl.plain rfl ?_
        intro a wg K hsz hW hf hK; clear hsz
        have e23 := hf 23 (by decide)
        simp [slotFact, List.lookup] at e23
        clear hf
        go_simp
        refine hK _ _ (Below.refl _ _) ?_
        with_reducible rfl
      refine' Grow.stepC _ rfl ?_ ?_
      rotate_left 1
      · refine Obl.plain rfl ?_
        intro a wg K hsz hW hf hK; clear hsz
        have e24 := hf 24 (by decide)
        simp [slotFact, List.lookup] at e24
        have c2x := (cell_below hW HL.out).trans c2
        clear hf
        go_simp
        refine hK _ _ (Below.refl _ _) ?_
        with_reducible rfl
      refine Grow.step (fun v _ => ∃ qc : Int, v = .agg #[.int .i64 (cpN a2), .int .i64 0, .int .i64 qc]) rfl (fun _ _ _ h _ => h) ?_ ?_
      · refine Obl.plain rfl ?_
        intro a wg K hsz hW hf hK; clear hsz
        have e25 := hf 25 (by decide)
        simp [slotFact, List.lookup] at e25
        clear hf
        go_simp
        refine (scpuread_any a2 _ z2).mono ?_
        rintro e w2 ⟨q, qc, rfl, hq, hb2⟩
        obtain rfl := cpN_is hq
        exact hK _ _ hb2 ⟨qc, rfl⟩
      refine' Grow.stepC _ rfl ?_ ?_
      rotate_left 1
      · refine Obl.plain rfl ?_
        intro a wg K hsz hW hf hK; clear hsz
        have e26 := hf 26 (by decide)
        simp [slotFact, List.lookup] at e26
        obtain ⟨qc, e26⟩ := e26
        clear hf
        go_simp
        refine hK _ _ (Below.refl _ _) ?_
        with_reducible rfl
      refine' Grow.stepC _ rfl ?_ ?_
      rotate_left 1
      · refine Obl.plain rfl ?_
        intro a wg K hsz hW hf hK; clear hsz
        have e3 := hf 3 (by decide)
        simp [slotFact, List.lookup] at e3
        clear hf
        go_simp
        refine hK _ _ (Below.refl _ _) ?_
        with_reducible rfl
      refine' Grow.stepC _ rfl ?_ ?_
      rotate_left 1
      · refine Obl.plain rfl ?_
        intro a wg K hsz hW hf hK; clear hsz
        have e28 := hf 28 (by decide)
        simp [slotFact, List.lookup] at e28
        clear hf
        go_simp
        refine hK _ _ (Below.refl _ _) ?_
        with_reducible rfl
      refine' Grow.stepC _ rfl ?_ ?_
      rotate_left 1
      · refine Obl.plain rfl ?_
        intro a wg K hsz hW hf hK; clear hsz
        have e29 := hf 29 (by decide)
        simp [slotFact, List.lookup] at e29
        have c3x := (cell_below hW HL.out).trans c3
        clear hf
        go_simp
        refine hK _ _ (Below.refl _ _) ?_
        with_reducible rfl
      refine Grow.step (EmptyAt) rfl (EmptyAt.mono) ?_ ?_
      · refine Obl.plain rfl ?_
        intro a wg K hsz hW hf hK; clear hsz
        clear hf
        go_simp
        exact hK _ _ (below1 _ _) ⟨_, rfl, heap_alloc_new _ _⟩
      refine' Grow.stepC _ rfl ?_ ?_
      rotate_left 1
      · refine Obl.plain rfl ?_
        intro a wg K hsz hW hf hK; clear hsz
        have e3 := hf 3 (by decide)
        simp [slotFact, List.lookup] at e3
        clear hf
        go_simp
        refine hK _ _ (Below.refl _ _) ?_
        with_reducible rfl
      refine Grow.step (fun v _ => ∃ ad, v = .slice (some ad) (m - 4) (cp - 4) ∧ ∀ x, Below w1.heap.size w1 x → TxRow x (some ad) (m - 4) (cp - 4) zs) rfl (fun _ _ _ h _ => h) ?_ ?_
      · refine Obl.plain rfl ?_
        intro a wg K hsz hW hf hK; clear hsz
        have e32 := hf 32 (by decide)
        simp [slotFact, List.lookup] at e32
        clear hf
        by_cases hcp : cp = 4
        · obtain rfl : m = 4 := by omega
          have hz0 : zs = [] := List.eq_nil_of_length_eq_zero (by omega)
          subst hcp
          go_simp
          exact hK _ _ (Below.refl _ _) ⟨_, rfl, fun x _ => row_none hz0 rfl (by omega)⟩
        · have hcp' : ¬ 4 = cp := fun h => hcp h.symm
          go_simp
          exact hK _ _ (Below.refl _ _) ⟨_, rfl, HTL.out⟩
      refine Grow.step (ListAt zs w1) rfl (ListAt.mono zs w1) ?_ ?_
      · refine Obl.plain rfl ?_
        intro a wg K hsz hW hf hK; clear hsz
        have e31 := hf 31 (by decide)
        simp [slotFact, List.lookup] at e31
        have e33 := hf 33 (by decide)
        simp [slotFact, List.lookup] at e33
        clear hf
        obtain ⟨g0, e31, hg0x⟩ := e31
        obtain ⟨ad, e33, hrx⟩ := e33
        refine wp_names _ _ rfl g0 ?_ hg0x ad (m - 4) (cp - 4) ?_ zs (hrx _ hW) (by omega) ?_
        · simpa [Act.eval] using e31
        · simpa [Act.eval] using e33
        intro a' l' c' w4 hans
        exact hK _ _ hans.2.2 ⟨a', l', c', rfl, hans.1, hans.own hW.size⟩
      refine Grow.step (fun v w' => ∃ a' l' c', v = .agg #[.string a1, .int .i64 (cpN a2), .string a3, .slice (some a') l' c', .string ⟨#[]⟩, .int .i64 0] ∧ ListAt zs w1 (.slice (some a') l' c') w') rfl (fun _ _ _ h hb => h.imp fun _ h => h.imp fun _ h => h.imp fun _ h => ⟨h.1, ListAt.mono zs w1 _ _ _ h.2 hb⟩) ?_ ?_
      · refine Obl.plain rfl ?_
        intro a wg K hsz hW hf hK; clear hsz
        have e22 := hf 22 (by decide)
        simp [slotFact, List.lookup] at e22
        have e27 := hf 27 (by decide)
        simp [slotFact, List.lookup] at e27
        have e30 := hf 30 (by decide)
        simp [slotFact, List.lookup] at e30
        have e34 := hf 34 (by decide)
        simp [slotFact, List.lookup] at e34
        clear hf
        obtain ⟨a', l', c', e34, hrx, hox⟩ := e34
        go_simp
        exact hK _ _ (Below.refl _ _) ⟨a', l', c', rfl, a', l', c', rfl, hrx, hox⟩
      refine Grow.step (fun v w' => ∃ b, v = .pointer (some ⟨b, 0, none⟩) ∧ w1.heap.size ≤ b ∧ w'.heap[b]? = some (.cells #[.string ⟨#[]⟩, .int .i64 0, .string ⟨#[]⟩, .slice none 0 0, .string ⟨#[]⟩, .int .i64 0] 28 (0, 0))) rfl (fun _ _ _ h hb => h.imp fun _ h => ⟨h.1, h.2.1, (hb.block _ (lt_of_someP h.2.2)).trans h.2.2⟩) ?_ ?_
      · refine Obl.plain rfl ?_
        intro a wg K hsz hW hf hK; clear hsz
        clear hf
        go_simp
        exact hK _ _ (below1 _ _) ⟨_, rfl, hW.size, heap_alloc_new _ _⟩
      refine Grow.done ?_
      intro x wz hW hf
      simp only [List.forall_mem_cons] at hf
      obtain ⟨⟨b, h4, hbW, hgb⟩, ⟨a', l', c', h35, a'', l'', c'', e', hrx, hox⟩, -⟩ := hf
      cases e'
      obtain ⟨⟨m0, f0⟩, ⟨m1, f1⟩, ⟨m2, f2⟩, ⟨m3, f3⟩, ⟨m4, f4⟩, ⟨m5, f5⟩⟩ := podZ_cells hgb
      have HE := hidK (PMid.T (a1 := a1) (c := cpN a2) (z := a3) hgb (Nat.lt_of_lt_of_le hw1 hbW) (HB.out.trans (hW.mono HB.out.size)) ((hW.block _ hw1).trans HG.out) hrx (fun h => by cases h) (own_up hw1 hox))
      intro K hK
      rw [if_pos (by rfl)]
      simp only [putsAll, List.foldr, Act.put, List.setIfInBounds_toArray, List.set_cons_zero, List.set_cons_succ, h4, h35]
      simp only [List.getLast]
      go_simp
      refine hK _ _ ?_
      try go_wp2_with fail
      go_meet
      exact HE.out
    case rest =>
      obtain ⟨⟨bc, a', l', c', rfl, gc, gv, hrow', hnil', hown', hbx, hbne⟩, bd, ebd, hbc⟩ := hcut
      cases ebd
      clear hnil' c1 c2 c3 hN hg0 hg1 hg2 hg3 i1 i2 i3 HTL
      have hbne' : ¬ w.heap.size = bc := fun h => hbne h.symm
      have z0 : wc.cell? ⟨bc, 0, none⟩ = some (.string a1) := cellK gc 0
      have z1 : wc.cell? ⟨bc, 1, none⟩ = some (.int .i64 (cpN a2)) := cellK gc 1
      have z2x : wc.cell? ⟨bc, 2, none⟩ = some (.string a3) := cellK gc 2
      have z2f : wc.frozen? ⟨bc, 2, none⟩ = false := frzP gc 2
      have z3 : wc.cell? ⟨bc, 3, none⟩ = some (.slice a' l' c') := cellK gc 3
      have z4 : wc.cell? ⟨bc, 4, none⟩ = some (.string ⟨#[]⟩) := cellK gc 4
      have z5 : wc.cell? ⟨bc, 5, none⟩ = some (.int .i64 0) := cellK gc 5
      by_cases hz : a3 = wDash
      · have hzq : (a3.toList == [45]) = true := by rw [hz]; exact dash_yes
        have HZR : Hid (zoneR a3 = ⟨#[]⟩) := by rw [hz]; exact zoneR_dash
        clear hz
        have HZZ := hidK (show (⟨#[]⟩ : ByteArray).size ≤ 9223372036854775807 by decide)
        have hzs := zone_set (z' := ⟨#[]⟩) gc gv hrow' hown' hbx hbc
        clear gc gv hrow' hown' hbx
        obtain ⟨gc, gv, hrow', hown', hbx⟩ := hzs
        have HPT := hidK (spodText_any a1 (cpN a2) ⟨#[]⟩ a' l' c' zs ⟨#[]⟩ 0 (wc.setCell ⟨bc, 2, none⟩ (.string ⟨#[]⟩)) (HZ.out 1 a1 rfl) HZZ.out (by decide) hrow')
        have HRW := hidK hrow'
        have HOW := hidK hown'
        have HBX := hidK hbx
        clear hrow' hown' hbx
        go_wp2_with fail
        refine HPT.out.mono ?_
        rintro e w5 ⟨rfl, hb5⟩
        have gc5 := (hb5.block bc (lt_of_someP gc)).trans gc
        have gr5 := (hb5.block w.heap.size (lt_of_someP gv)).trans gv
        have k0 : w5.cell? ⟨bc, 0, none⟩ = some (.string a1) := cellK gc5 0
        have k1 : w5.cell? ⟨bc, 1, none⟩ = some (.int .i64 (cpN a2)) := cellK gc5 1
        have k2 : w5.cell? ⟨bc, 2, none⟩ = some (.string ⟨#[]⟩) := cellK gc5 2
        have k3 : w5.cell? ⟨bc, 3, none⟩ = some (.slice a' l' c') := cellK gc5 3
        have k4 : w5.cell? ⟨bc, 4, none⟩ = some (.string ⟨#[]⟩) := cellK gc5 4
        have k5 : w5.cell? ⟨bc, 5, none⟩ = some (.int .i64 0) := cellK gc5 5
        have r0 : w5.cell? ⟨w.heap.size, 0, none⟩ = some (.string ⟨#[]⟩) := cellK gr5 0
        have q0 : w5.frozen? ⟨w.heap.size, 0, none⟩ = false := frzP gr5 0
        have r1 : w5.cell? ⟨w.heap.size, 1, none⟩ = some (.int .i64 0) := cellK gr5 1
        have q1 : w5.frozen? ⟨w.heap.size, 1, none⟩ = false := frzP gr5 1
        have r2 : w5.cell? ⟨w.heap.size, 2, none⟩ = some (.string ⟨#[]⟩) := cellK gr5 2
        have q2 : w5.frozen? ⟨w.heap.size, 2, none⟩ = false := frzP gr5 2
        have r3 : w5.cell? ⟨w.heap.size, 3, none⟩ = some (.slice none 0 0) := cellK gr5 3
        have q3 : w5.frozen? ⟨w.heap.size, 3, none⟩ = false := frzP gr5 3
        have r4 : w5.cell? ⟨w.heap.size, 4, none⟩ = some (.string ⟨#[]⟩) := cellK gr5 4
        have q4 : w5.frozen? ⟨w.heap.size, 4, none⟩ = false := frzP gr5 4
        have r5 : w5.cell? ⟨w.heap.size, 5, none⟩ = some (.int .i64 0) := cellK gr5 5
        have q5 : w5.frozen? ⟨w.heap.size, 5, none⟩ = false := frzP gr5 5
        have r6 : w5.cell? ⟨w.heap.size, 6, none⟩ = some (.int .i64 0) := cellK gr5 6
        have q6 : w5.frozen? ⟨w.heap.size, 6, none⟩ = false := frzP gr5 6
        have HB5 := upB HBX hb5
        have HR5 := hidK (HRW.out.below hb5)
        have HO5 : Hid (zs = [] ∨ ∃ g cur, a' = some ⟨g, 0, none⟩ ∧ w.heap.size < g ∧ w5.heap[g]? = some (.cells cur 9 (0, 0))) := by
          rcases HOW.out with h | ⟨g', cur, h1, h2, h3⟩
          · exact .inl h
          · exact .inr ⟨g', cur, h1, h2, (hb5.block g' (lt_of_someP h3)).trans h3⟩
        clear hb5 gc gv gc5 gr5 z0 z1 z2x z2f z3 z4 z5 HPT
        by_cases hT : podX a1 (cpN a2) ⟨#[]⟩ zs ⟨#[]⟩ 0 = s
        · have hq : ((podX a1 (cpN a2) ⟨#[]⟩ zs ⟨#[]⟩ 0).toList == s.toList) = true := by rw [hT]; simp
          go_wp2_with fail
          exact bodyPost_ret (v := .agg #[.string a1, .int .i64 (cpN a2), .string ⟨#[]⟩, .slice a' l' c', .string ⟨#[]⟩, .int .i64 0, .int .i64 0]) (by simp [results, Tryz.results18, go_sem, *]) rfl
            (PodAns.good ⟨rfl, rfl, .inr (.inr ⟨hs8, rfl, podText_few hT (words_ne HF.out), a0, a1, a2, a3, HF.out, by rw [HZR.out]; exact hT, rfl, rfl, HZR.out.symm⟩)⟩ HR5.out HO5.out HB5.out)
        · have hq : ((podX a1 (cpN a2) ⟨#[]⟩ zs ⟨#[]⟩ 0).toList == s.toList) = false := tl_no hT
          go_wp2_with fail
          refine bodyPost_ret (v := .agg #[.string ⟨#[]⟩, .int .i64 0, .string ⟨#[]⟩, .slice none 0 0, .string ⟨#[]⟩, .int .i64 0, .int .i64 3]) (by simp [results, Tryz.results18, go_sem, *]) rfl
            (PodAns.bad ⟨rfl, rfl, .inr (.inl ⟨hs8, ?_, rfl, rfl, rfl, rfl, rfl⟩)⟩ (set_below7 (Nat.le_refl _) HB5.out))
          rintro ⟨b0, b1, b2, b3, bl, hw2, hx2⟩
          rw [HF.out] at hw2
          simp only [List.cons.injEq] at hw2
          obtain ⟨rfl, rfl, rfl, rfl, rfl⟩ := hw2
          rw [HZR.out] at hx2
          exact hT hx2
      · have hzq : (a3.toList == [45]) = false := dash_no hz
        have HZR : Hid (zoneR a3 = a3) := zoneR_no hz
        clear hz
        have HZZ := hidK (HZ.out 3 a3 rfl)
        have HPT := hidK (spodText_any a1 (cpN a2) a3 a' l' c' zs ⟨#[]⟩ 0 (wc) (HZ.out 1 a1 rfl) HZZ.out (by decide) hrow')
        have HRW := hidK hrow'
        have HOW := hidK hown'
        have HBX := hidK hbx
        clear hrow' hown' hbx
        go_wp2_with fail
        refine HPT.out.mono ?_
        rintro e w5 ⟨rfl, hb5⟩
        have gc5 := (hb5.block bc (lt_of_someP gc)).trans gc
        have gr5 := (hb5.block w.heap.size (lt_of_someP gv)).trans gv
        have k0 : w5.cell? ⟨bc, 0, none⟩ = some (.string a1) := cellK gc5 0
        have k1 : w5.cell? ⟨bc, 1, none⟩ = some (.int .i64 (cpN a2)) := cellK gc5 1
        have k2 : w5.cell? ⟨bc, 2, none⟩ = some (.string a3) := cellK gc5 2
        have k3 : w5.cell? ⟨bc, 3, none⟩ = some (.slice a' l' c') := cellK gc5 3
        have k4 : w5.cell? ⟨bc, 4, none⟩ = some (.string ⟨#[]⟩) := cellK gc5 4
        have k5 : w5.cell? ⟨bc, 5, none⟩ = some (.int .i64 0) := cellK gc5 5
        have r0 : w5.cell? ⟨w.heap.size, 0, none⟩ = some (.string ⟨#[]⟩) := cellK gr5 0
        have q0 : w5.frozen? ⟨w.heap.size, 0, none⟩ = false := frzP gr5 0
        have r1 : w5.cell? ⟨w.heap.size, 1, none⟩ = some (.int .i64 0) := cellK gr5 1
        have q1 : w5.frozen? ⟨w.heap.size, 1, none⟩ = false := frzP gr5 1
        have r2 : w5.cell? ⟨w.heap.size, 2, none⟩ = some (.string ⟨#[]⟩) := cellK gr5 2
        have q2 : w5.frozen? ⟨w.heap.size, 2, none⟩ = false := frzP gr5 2
        have r3 : w5.cell? ⟨w.heap.size, 3, none⟩ = some (.slice none 0 0) := cellK gr5 3
        have q3 : w5.frozen? ⟨w.heap.size, 3, none⟩ = false := frzP gr5 3
        have r4 : w5.cell? ⟨w.heap.size, 4, none⟩ = some (.string ⟨#[]⟩) := cellK gr5 4
        have q4 : w5.frozen? ⟨w.heap.size, 4, none⟩ = false := frzP gr5 4
        have r5 : w5.cell? ⟨w.heap.size, 5, none⟩ = some (.int .i64 0) := cellK gr5 5
        have q5 : w5.frozen? ⟨w.heap.size, 5, none⟩ = false := frzP gr5 5
        have r6 : w5.cell? ⟨w.heap.size, 6, none⟩ = some (.int .i64 0) := cellK gr5 6
        have q6 : w5.frozen? ⟨w.heap.size, 6, none⟩ = false := frzP gr5 6
        have HB5 := upB HBX hb5
        have HR5 := hidK (HRW.out.below hb5)
        have HO5 : Hid (zs = [] ∨ ∃ g cur, a' = some ⟨g, 0, none⟩ ∧ w.heap.size < g ∧ w5.heap[g]? = some (.cells cur 9 (0, 0))) := by
          rcases HOW.out with h | ⟨g', cur, h1, h2, h3⟩
          · exact .inl h
          · exact .inr ⟨g', cur, h1, h2, (hb5.block g' (lt_of_someP h3)).trans h3⟩
        clear hb5 gc gv gc5 gr5 z0 z1 z2x z2f z3 z4 z5 HPT
        by_cases hT : podX a1 (cpN a2) a3 zs ⟨#[]⟩ 0 = s
        · have hq : ((podX a1 (cpN a2) a3 zs ⟨#[]⟩ 0).toList == s.toList) = true := by rw [hT]; simp
          go_wp2_with fail
          exact bodyPost_ret (v := .agg #[.string a1, .int .i64 (cpN a2), .string a3, .slice a' l' c', .string ⟨#[]⟩, .int .i64 0, .int .i64 0]) (by simp [results, Tryz.results18, go_sem, *]) rfl
            (PodAns.good ⟨rfl, rfl, .inr (.inr ⟨hs8, rfl, podText_few hT (words_ne HF.out), a0, a1, a2, a3, HF.out, by rw [HZR.out]; exact hT, rfl, rfl, HZR.out.symm⟩)⟩ HR5.out HO5.out HB5.out)
        · have hq : ((podX a1 (cpN a2) a3 zs ⟨#[]⟩ 0).toList == s.toList) = false := tl_no hT
          go_wp2_with fail
          refine bodyPost_ret (v := .agg #[.string ⟨#[]⟩, .int .i64 0, .string ⟨#[]⟩, .slice none 0 0, .string ⟨#[]⟩, .int .i64 0, .int .i64 3]) (by simp [results, Tryz.results18, go_sem, *]) rfl
            (PodAns.bad ⟨rfl, rfl, .inr (.inl ⟨hs8, ?_, rfl, rfl, rfl, rfl, rfl⟩)⟩ (set_below7 (Nat.le_refl _) HB5.out))
          rintro ⟨b0, b1, b2, b3, bl, hw2, hx2⟩
          rw [HF.out] at hw2
          simp only [List.cons.injEq] at hw2
          obtain ⟨rfl, rfl, rfl, rfl, rfl⟩ := hw2
          rw [HZR.out] at hx2
          exact hT hx2
  · have hmb : ((m : Int) < 4) ∨ (7 < (m : Int)) := by omega
    have hn4 : ¬ ∃ a0 a1 a2 a3 l, wordsB s = a0 :: a1 :: a2 :: a3 :: l ∧ podX a1 (cpN a2) (zoneR a3) l ⟨#[]⟩ 0 = s := by
      rintro ⟨a0, a1, a2, a3, l, e, hx⟩
      have hl := hrow.1
      have hf := podText_few hx (words_ne e)
      rw [e] at hl
      simp at hl
      omega
    have HN := hidK hn4
    have r0 : w1.cell? ⟨w.heap.size, 0, none⟩ = some (.string ⟨#[]⟩) := cellK gr 0
    have q0 : w1.frozen? ⟨w.heap.size, 0, none⟩ = false := frzP gr 0
    have r1 : w1.cell? ⟨w.heap.size, 1, none⟩ = some (.int .i64 0) := cellK gr 1
    have q1 : w1.frozen? ⟨w.heap.size, 1, none⟩ = false := frzP gr 1
    have r2 : w1.cell? ⟨w.heap.size, 2, none⟩ = some (.string ⟨#[]⟩) := cellK gr 2
    have q2 : w1.frozen? ⟨w.heap.size, 2, none⟩ = false := frzP gr 2
    have r3 : w1.cell? ⟨w.heap.size, 3, none⟩ = some (.slice none 0 0) := cellK gr 3
    have q3 : w1.frozen? ⟨w.heap.size, 3, none⟩ = false := frzP gr 3
    have r4 : w1.cell? ⟨w.heap.size, 4, none⟩ = some (.string ⟨#[]⟩) := cellK gr 4
    have q4 : w1.frozen? ⟨w.heap.size, 4, none⟩ = false := frzP gr 4
    have r5 : w1.cell? ⟨w.heap.size, 5, none⟩ = some (.int .i64 0) := cellK gr 5
    have q5 : w1.frozen? ⟨w.heap.size, 5, none⟩ = false := frzP gr 5
    have r6 : w1.cell? ⟨w.heap.size, 6, none⟩ = some (.int .i64 0) := cellK gr 6
    have q6 : w1.frozen? ⟨w.heap.size, 6, none⟩ = false := frzP gr 6
    clear hrow hn4 gr
    rcases hmb with hmb | hmb
    all_goals
      go_wp2_with fail
      exact bodyPost_ret (v := .agg #[.string ⟨#[]⟩, .int .i64 0, .string ⟨#[]⟩, .slice none 0 0, .string ⟨#[]⟩, .int .i64 0, .int .i64 3]) (by simp [results, Tryz.results18, go_sem, *]) rfl
        (PodAns.bad ⟨rfl, rfl, .inr (.inl ⟨hs8, HN.out, rfl, rfl, rfl, rfl, rfl⟩)⟩ (set_below7 (Nat.le_refl _) HB.out))

def NamesAt (zs : List ByteArray) (W : World) (v : Value) (w : World) : Prop := ∃ a l c, v = .slice a l c ∧ TxRow w a l c zs ∧ (a = none → c = 0) ∧ (zs = [] ∨ ∃ g cur, a = some ⟨g, 0, none⟩ ∧ W.heap.size ≤ g ∧ w.heap[g]? = some (.cells cur 9 (0, 0)))
theorem NamesAt.mono (zs : List ByteArray) (W : World) : Fact.Mono (NamesAt zs W) := fun _ _ _ h hb => by
  obtain ⟨a, l, c, h1, h2, hn, h3⟩ := h
  refine ⟨a, l, c, h1, h2.below hb, hn, ?_⟩
  rcases h3 with h3 | ⟨g, cur, q1, q2, q3⟩
  · exact .inl h3
  · exact .inr ⟨g, cur, q1, q2, (hb.block _ (lt_of_someP q3)).trans q3⟩
theorem own_le {w4 : World} {zs : List ByteArray} {a : Option Addr} {X Y : Nat} {T : TypeId} (h : X ≤ Y) (ho : zs = [] ∨ ∃ g cur, a = some ⟨g, 0, none⟩ ∧ Y ≤ g ∧ w4.heap[g]? = some (.cells cur T (0, 0))) : zs = [] ∨ ∃ g cur, a = some ⟨g, 0, none⟩ ∧ X ≤ g ∧ w4.heap[g]? = some (.cells cur T (0, 0)) := by
  rcases ho with ho | ⟨g, cur, h1, h2, h3⟩
  · exact .inl ho
  · exact .inr ⟨g, cur, h1, Nat.le_trans h h2, h3⟩

def NilOk (e : Ending) : Prop := ∀ (n : ByteArray) (c : Int) (z : ByteArray) (a : Option Addr) (l cp : Nat) (d : ByteArray) (p k : Int), e = .returned (.agg #[.string n, .int .i64 c, .string z, .slice a l cp, .string d, .int .i64 p, .int .i64 k]) → a = none → cp = 0
def PodAnsN (s : ByteArray) (w : World) (e : Ending) (w' : World) : Prop := PodAns s w e w' ∧ NilOk e
theorem NilOk.mk {n : ByteArray} {c : Int} {z : ByteArray} {a : Option Addr} {l cp : Nat} {d : ByteArray} {p k : Int} (h : a = none → cp = 0) : NilOk (.returned (.agg #[.string n, .int .i64 c, .string z, .slice a l cp, .string d, .int .i64 p, .int .i64 k])) := by
  intro n' c' z' a' l' cp' d' p' k' e ha
  simp only [Ending.returned.injEq, Value.agg.injEq, Array.mk.injEq, List.cons.injEq, Value.slice.injEq] at e
  obtain ⟨-, -, -, ⟨rfl, -, rfl⟩, -⟩ := e
  exact h ha

set_option maxRecDepth 100000 in
set_option maxHeartbeats 6400000 in
theorem ipodReadN_any (s : ByteArray) (w : World) (hs : s.size ≤ 1048576) (ht : ptab w) (hmx : mxl w) :
    Calls Tryz.prog 11 #[.string s] w (PodAnsN s w) := by
  have HT := hidK ht
  have HM := hidK hmx
  clear ht hmx
  by_cases h8 : 8000 < s.size
  · go_enter Tryz.func11, Tryz.ntmps11
    go_wp2_with fail
    refine (tooLongP_any s _ (by omega)).mono ?_
    rintro e w1 ⟨r, rfl, hr, rfl⟩
    obtain rfl : r = true := hr.2 h8
    clear hr
    go_wp2_with fail
    exact bodyPost_ret (v := .agg #[.string ⟨#[]⟩, .int .i64 0, .string ⟨#[]⟩, .slice none 0 0, .string ⟨#[]⟩, .int .i64 0, .int .i64 2]) (by simp [results, Tryz.results11, go_sem]) rfl ⟨PodAns.bad ⟨rfl, rfl, .inl ⟨h8, rfl, rfl, rfl, rfl, rfl⟩⟩ (below1 _ _), NilOk.mk (fun _ => rfl)⟩
  have hs8 : s.size ≤ 8000 := by omega
  go_enter Tryz.func11, Tryz.ntmps11
  go_wp2_with (go_at_call 42; refine (tooLongP_any s _ (by omega)).mono ?_; rintro e w1 ⟨r, rfl, hr, rfl⟩; obtain rfl : r = false := Bool.eq_false_iff.2 (fun h => h8 (hr.1 h)); clear hr)
  refine (unworded_any s _ hs8 (HM.out.below (below1 _ _))).mono ?_
  rintro e w1 ⟨g, m, cp, rfl, hrow, hg, hb⟩
  have hgw : w.heap.size < g := by simp at hg; omega
  obtain ⟨gr, hb1, -⟩ := slotK hb
  have HB := hidK hb1
  have HG := hidK gr
  clear hb hb1 hg
  by_cases hm : 4 ≤ m
  · clear gr
    obtain ⟨a0, a1, a2, a3, zs, hw⟩ := four_of (l := wordsB s) (by rw [hrow.1]; exact hm)
    have hm8 : m ≤ 8001 := by
      have := wordsB_count s
      have := hrow.1
      omega
    rw [hw] at hrow
    obtain ⟨hlw, hmc, hcx, hsz, hc⟩ := hrow
    rcases hc with h | ⟨b, o, e, hgl, hc⟩
    · cases h
    cases e
    have c1 : w1.cell? ⟨g, 1, none⟩ = some (.string a1) := by simpa using hc 1 a1 rfl
    have c2 : w1.cell? ⟨g, 2, none⟩ = some (.string a2) := by simpa using hc 2 a2 rfl
    have c3 : w1.cell? ⟨g, 3, none⟩ = some (.string a3) := by simpa using hc 3 a3 rfl
    have z2 := hsz 2 a2 rfl
    have HL := hidK hgl
    have HF := hidK hw
    have HZ := hidK hsz
    have hsz' := hsz
    have HC := hidK hc
    clear hc hw hsz hgl
    have HTL := hidK (show ∀ x, Below w1.heap.size w1 x → TxRow x (some ⟨g, 4, none⟩) (m - 4) (cp - 4) zs from fun x hx => by
      refine ⟨by simp at hlw; omega, by omega, by omega, fun j y hy => hsz' (j + 4) y hy, ?_⟩
      exact .inr ⟨g, 4, rfl, Nat.lt_of_lt_of_le HL.out hx.size, fun j y hy => by
        have e := HC.out (j + 4) y hy
        rw [cell_below hx HL.out]
        rw [show 0 + (j + 4) = 4 + j from by omega] at e
        exact e⟩)
    clear hsz'
    have hN := numNP
    have i1 : (1 : Int) < (m : Int) := by omega
    have i2 : (2 : Int) < (m : Int) := by omega
    have i3 : (3 : Int) < (m : Int) := by omega
    have i4 : (4 : Int) ≤ (m : Int) := by omega
    have i5 : (m : Int) ≤ (cp : Int) := by omega
    have hzl : zs.length = m - 4 := by simp at hlw; omega
    have hg1 : ¬ g = w1.heap.size := Nat.ne_of_lt HL.out
    have hg0 : ¬ w1.heap.size = g := fun h => hg1 h.symm
    have HPA := hidK (fun x (hx : Below w1.heap.size w1 x) => HT.out.below (HB.out.trans (hx.mono HB.out.size)))
    go_wp2_with fail
    go_cut [4] from 14 to 29 (fun v wx => PMid w a1 (cpN a2) (zoneR a3) zs v wx)
    case first =>
      have hw1 := lt_of_someP HG.out
      refine wp_region_grow_last (by kernel_rfl) rfl rfl (by kernel_rfl) ?_
      refine' Grow.stepC _ rfl ?_ ?_
      rotate_left 1
      · refine Obl.plain rfl ?_
        intro a wg K hsz hW hf hK; clear hsz
        have e3 := hf 3 (by decide)
        simp [slotFact, List.lookup] at e3
        clear hf
        go_simp
        refine hK _ _ (Below.refl _ _) ?_
        with_reducible rfl
      refine' Grow.stepC _ rfl ?_ ?_
      rotate_left 1
      · refine Obl.plain rfl ?_
        intro a wg K hsz hW hf hK; clear hsz
        have e14 := hf 14 (by decide)
        simp [slotFact, List.lookup] at e14
        clear hf
        go_simp
        refine hK _ _ (Below.refl _ _) ?_
        with_reducible rfl
      refine' Grow.stepC _ rfl ?_ ?_
      rotate_left 1
      · refine Obl.plain rfl ?_
        intro a wg K hsz hW hf hK; clear hsz
        have e15 := hf 15 (by decide)
        simp [slotFact, List.lookup] at e15
        have c1x := (cell_below hW HL.out).trans c1
        clear hf
        go_simp
        refine hK _ _ (Below.refl _ _) ?_
        with_reducible rfl
      refine' Grow.stepC _ rfl ?_ ?_
      rotate_left 1
      · refine Obl.plain rfl ?_
        intro a wg K hsz hW hf hK; clear hsz
        have e3 := hf 3 (by decide)
        simp [slotFact, List.lookup] at e3
        clear hf
        go_simp
        refine hK _ _ (Below.refl _ _) ?_
        with_reducible rfl
      refine' Grow.stepC _ rfl ?_ ?_
      rotate_left 1
      · refine Obl.plain rfl ?_
        intro a wg K hsz hW hf hK; clear hsz
        have e17 := hf 17 (by decide)
        simp [slotFact, List.lookup] at e17
        clear hf
        go_simp
        refine hK _ _ (Below.refl _ _) ?_
        with_reducible rfl
      refine' Grow.stepC _ rfl ?_ ?_
      rotate_left 1
      · refine Obl.plain rfl ?_
        intro a wg K hsz hW hf hK; clear hsz
        have e18 := hf 18 (by decide)
        simp [slotFact, List.lookup] at e18
        have c2x := (cell_below hW HL.out).trans c2
        clear hf
        go_simp
        refine hK _ _ (Below.refl _ _) ?_
        with_reducible rfl
      refine Grow.step (fun v _ => ∃ qc : Int, v = .agg #[.int .i64 (cpN a2), .int .i64 0, .int .i64 qc]) rfl (fun _ _ _ h _ => h) ?_ ?_
      · refine Obl.plain rfl ?_
        intro a wg K hsz hW hf hK; clear hsz
        have e19 := hf 19 (by decide)
        simp [slotFact, List.lookup] at e19
        clear hf
        go_simp
        refine (iCpuRead_any a2 _ z2 (HPA.out _ hW)).mono ?_
        rintro e w2 ⟨q, qc, rfl, hq, hb2⟩
        obtain rfl := cpN_is hq
        exact hK _ _ hb2 ⟨qc, rfl⟩
      refine' Grow.stepC _ rfl ?_ ?_
      rotate_left 1
      · refine Obl.plain rfl ?_
        intro a wg K hsz hW hf hK; clear hsz
        have e20 := hf 20 (by decide)
        simp [slotFact, List.lookup] at e20
        obtain ⟨qc, e20⟩ := e20
        clear hf
        go_simp
        refine hK _ _ (Below.refl _ _) ?_
        with_reducible rfl
      refine' Grow.stepC _ rfl ?_ ?_
      rotate_left 1
      · refine Obl.plain rfl ?_
        intro a wg K hsz hW hf hK; clear hsz
        have e3 := hf 3 (by decide)
        simp [slotFact, List.lookup] at e3
        clear hf
        go_simp
        refine hK _ _ (Below.refl _ _) ?_
        with_reducible rfl
      refine' Grow.stepC _ rfl ?_ ?_
      rotate_left 1
      · refine Obl.plain rfl ?_
        intro a wg K hsz hW hf hK; clear hsz
        have e22 := hf 22 (by decide)
        simp [slotFact, List.lookup] at e22
        clear hf
        go_simp
        refine hK _ _ (Below.refl _ _) ?_
        with_reducible rfl
      refine' Grow.stepC _ rfl ?_ ?_
      rotate_left 1
      · refine Obl.plain rfl ?_
        intro a wg K hsz hW hf hK; clear hsz
        have e23 := hf 23 (by decide)
        simp [slotFact, List.lookup] at e23
        have c3x := (cell_below hW HL.out).trans c3
        clear hf
        go_simp
        refine hK _ _ (Below.refl _ _) ?_
        with_reducible rfl
      refine Grow.step (fun v _ => v = .string (zoneR a3)) rfl (Fact.mono_eq _) ?_ ?_
      · refine Obl.plain rfl ?_
        intro a wg K hsz hW hf hK; clear hsz
        have e24 := hf 24 (by decide)
        simp [slotFact, List.lookup] at e24
        clear hf
        go_simp
        refine (zoneRead_any a3 _).mono ?_
        rintro e w3 ⟨rfl, rfl⟩
        exact hK _ _ (Below.refl _ _) rfl
      refine' Grow.stepC _ rfl ?_ ?_
      rotate_left 1
      · refine Obl.plain rfl ?_
        intro a wg K hsz hW hf hK; clear hsz
        have e3 := hf 3 (by decide)
        simp [slotFact, List.lookup] at e3
        clear hf
        go_simp
        refine hK _ _ (Below.refl _ _) ?_
        with_reducible rfl
      refine Grow.step (fun v _ => ∃ ad, v = .slice (some ad) (m - 4) (cp - 4) ∧ ∀ x, Below w1.heap.size w1 x → TxRow x (some ad) (m - 4) (cp - 4) zs) rfl (fun _ _ _ h _ => h) ?_ ?_
      · refine Obl.plain rfl ?_
        intro a wg K hsz hW hf hK; clear hsz
        have e26 := hf 26 (by decide)
        simp [slotFact, List.lookup] at e26
        clear hf
        by_cases hcp : cp = 4
        · obtain rfl : m = 4 := by omega
          have hz0 : zs = [] := List.eq_nil_of_length_eq_zero (by omega)
          subst hcp
          go_simp
          exact hK _ _ (Below.refl _ _) ⟨_, rfl, fun x _ => row_none hz0 rfl (by omega)⟩
        · have hcp' : ¬ 4 = cp := fun h => hcp h.symm
          go_simp
          exact hK _ _ (Below.refl _ _) ⟨_, rfl, HTL.out⟩
      refine Grow.step (NamesAt zs w1) rfl (NamesAt.mono zs w1) ?_ ?_
      · refine Obl.plain rfl ?_
        intro a wg K hsz hW hf hK; clear hsz
        have e27 := hf 27 (by decide)
        simp [slotFact, List.lookup] at e27
        clear hf
        obtain ⟨ad, e27, hrx⟩ := e27
        go_simp
        refine (ownNames_any _ _ _ zs _ (hrx _ hW) (by omega)).mono ?_
        rintro e w4 ⟨a', l', c', rfl, hrow4, hnil4, hown4, hb4⟩
        exact hK _ _ hb4 ⟨a', l', c', rfl, hrow4, hnil4, own_le hW.size hown4⟩
      refine Grow.step (fun v w' => ∃ a' l' c', v = .agg #[.string a1, .int .i64 (cpN a2), .string (zoneR a3), .slice a' l' c', .string ⟨#[]⟩, .int .i64 0] ∧ NamesAt zs w1 (.slice a' l' c') w') rfl (fun _ _ _ h hb => h.imp fun _ h => h.imp fun _ h => h.imp fun _ h => ⟨h.1, NamesAt.mono zs w1 _ _ _ h.2 hb⟩) ?_ ?_
      · refine Obl.plain rfl ?_
        intro a wg K hsz hW hf hK; clear hsz
        have e16 := hf 16 (by decide)
        simp [slotFact, List.lookup] at e16
        have e21 := hf 21 (by decide)
        simp [slotFact, List.lookup] at e21
        have e25 := hf 25 (by decide)
        simp [slotFact, List.lookup] at e25
        have e28 := hf 28 (by decide)
        simp [slotFact, List.lookup] at e28
        clear hf
        obtain ⟨a', l', c', e28, hrx, hnx, hox⟩ := e28
        go_simp
        exact hK _ _ (Below.refl _ _) ⟨a', l', c', rfl, a', l', c', rfl, hrx, hnx, hox⟩
      refine Grow.step (fun v w' => ∃ b, v = .pointer (some ⟨b, 0, none⟩) ∧ w1.heap.size ≤ b ∧ w'.heap[b]? = some (.cells #[.string ⟨#[]⟩, .int .i64 0, .string ⟨#[]⟩, .slice none 0 0, .string ⟨#[]⟩, .int .i64 0] 28 (0, 0))) rfl (fun _ _ _ h hb => h.imp fun _ h => ⟨h.1, h.2.1, (hb.block _ (lt_of_someP h.2.2)).trans h.2.2⟩) ?_ ?_
      · refine Obl.plain rfl ?_
        intro a wg K hsz hW hf hK; clear hsz
        clear hf
        go_simp
        exact hK _ _ (below1 _ _) ⟨_, rfl, hW.size, heap_alloc_new _ _⟩
      refine Grow.done ?_
      intro x wz hW hf
      simp only [List.forall_mem_cons] at hf
      obtain ⟨⟨b, h4, hbW, hgb⟩, ⟨a', l', c', h29, a'', l'', c'', e', hrx, hnx, hox⟩, -⟩ := hf
      cases e'
      obtain ⟨⟨m0, f0⟩, ⟨m1, f1⟩, ⟨m2, f2⟩, ⟨m3, f3⟩, ⟨m4, f4⟩, ⟨m5, f5⟩⟩ := podZ_cells hgb
      have HE := hidK (PMid.T (a1 := a1) (c := cpN a2) (z := zoneR a3) hgb (Nat.lt_of_lt_of_le hw1 hbW) (HB.out.trans (hW.mono HB.out.size)) ((hW.block _ hw1).trans HG.out) hrx hnx (own_up hw1 hox)).1
      intro K hK
      rw [if_pos (by rfl)]
      simp only [putsAll, List.foldr, Act.put, List.setIfInBounds_toArray, List.set_cons_zero, List.set_cons_succ, h4, h29]
      simp only [List.getLast]
      go_simp
      refine hK _ _ ?_
      try go_wp2_with fail
      go_meet
      exact HE.out
    case rest =>
      obtain ⟨bc, a', l', c', rfl, gc, gv, hrow', hnil', hown', hbx, hbne⟩ := hcut
      have e0 : wc.cell? ⟨bc, 0, none⟩ = some (.string a1) := cellK gc 0
      have e1 : wc.cell? ⟨bc, 1, none⟩ = some (.int .i64 (cpN a2)) := cellK gc 1
      have e2 : wc.cell? ⟨bc, 2, none⟩ = some (.string (zoneR a3)) := cellK gc 2
      have e3 : wc.cell? ⟨bc, 3, none⟩ = some (.slice a' l' c') := cellK gc 3
      have e4 : wc.cell? ⟨bc, 4, none⟩ = some (.string ⟨#[]⟩) := cellK gc 4
      have e5 : wc.cell? ⟨bc, 5, none⟩ = some (.int .i64 0) := cellK gc 5
      have hbne' : ¬ w.heap.size = bc := fun h => hbne h.symm
      have HPT := hidK (ipodText_any a1 (cpN a2) (zoneR a3) a' l' c' zs ⟨#[]⟩ 0 wc (HZ.out 1 a1 rfl) (zoneR_size (HZ.out 3 a3 rfl)) (by decide) hrow' hnil' (HT.out.below hbx))
      have HRW := hidK hrow'
      have HNL := hidK hnil'
      have HOW := hidK hown'
      have HBX := hidK hbx
      clear hrow' hnil' hown' hbx c1 c2 c3 hN hg0 hg1 i1 i2 i3 HTL HPA
      go_wp2_with fail
      refine HPT.out.mono ?_
      rintro e w5 ⟨rfl, hb5⟩
      have gc5 := (hb5.block bc (lt_of_someP gc)).trans gc
      have gr5 := (hb5.block w.heap.size (lt_of_someP gv)).trans gv
      have k0 : w5.cell? ⟨bc, 0, none⟩ = some (.string a1) := cellK gc5 0
      have k1 : w5.cell? ⟨bc, 1, none⟩ = some (.int .i64 (cpN a2)) := cellK gc5 1
      have k2 : w5.cell? ⟨bc, 2, none⟩ = some (.string (zoneR a3)) := cellK gc5 2
      have k3 : w5.cell? ⟨bc, 3, none⟩ = some (.slice a' l' c') := cellK gc5 3
      have k4 : w5.cell? ⟨bc, 4, none⟩ = some (.string ⟨#[]⟩) := cellK gc5 4
      have k5 : w5.cell? ⟨bc, 5, none⟩ = some (.int .i64 0) := cellK gc5 5
      have r0 : w5.cell? ⟨w.heap.size, 0, none⟩ = some (.string ⟨#[]⟩) := cellK gr5 0
      have q0 : w5.frozen? ⟨w.heap.size, 0, none⟩ = false := frzP gr5 0
      have r1 : w5.cell? ⟨w.heap.size, 1, none⟩ = some (.int .i64 0) := cellK gr5 1
      have q1 : w5.frozen? ⟨w.heap.size, 1, none⟩ = false := frzP gr5 1
      have r2 : w5.cell? ⟨w.heap.size, 2, none⟩ = some (.string ⟨#[]⟩) := cellK gr5 2
      have q2 : w5.frozen? ⟨w.heap.size, 2, none⟩ = false := frzP gr5 2
      have r3 : w5.cell? ⟨w.heap.size, 3, none⟩ = some (.slice none 0 0) := cellK gr5 3
      have q3 : w5.frozen? ⟨w.heap.size, 3, none⟩ = false := frzP gr5 3
      have r4 : w5.cell? ⟨w.heap.size, 4, none⟩ = some (.string ⟨#[]⟩) := cellK gr5 4
      have q4 : w5.frozen? ⟨w.heap.size, 4, none⟩ = false := frzP gr5 4
      have r5 : w5.cell? ⟨w.heap.size, 5, none⟩ = some (.int .i64 0) := cellK gr5 5
      have q5 : w5.frozen? ⟨w.heap.size, 5, none⟩ = false := frzP gr5 5
      have r6 : w5.cell? ⟨w.heap.size, 6, none⟩ = some (.int .i64 0) := cellK gr5 6
      have q6 : w5.frozen? ⟨w.heap.size, 6, none⟩ = false := frzP gr5 6
      have HB5 := upB HBX hb5
      have HR5 := hidK (HRW.out.below hb5)
      have HO5 : Hid (zs = [] ∨ ∃ g cur, a' = some ⟨g, 0, none⟩ ∧ w.heap.size < g ∧ w5.heap[g]? = some (.cells cur 9 (0, 0))) := by
        rcases HOW.out with h | ⟨g', cur, h1, h2, h3⟩
        · exact .inl h
        · exact .inr ⟨g', cur, h1, h2, (hb5.block g' (lt_of_someP h3)).trans h3⟩
      clear hb5 gc gv gc5 gr5 e0 e1 e2 e3 e4 e5 HPT
      by_cases hT : podX a1 (cpN a2) (zoneR a3) zs ⟨#[]⟩ 0 = s
      · have hq : ((podX a1 (cpN a2) (zoneR a3) zs ⟨#[]⟩ 0).toList == s.toList) = true := by rw [hT]; simp
        go_wp2_with fail
        exact bodyPost_ret (v := .agg #[.string a1, .int .i64 (cpN a2), .string (zoneR a3), .slice a' l' c', .string ⟨#[]⟩, .int .i64 0, .int .i64 0]) (by simp [results, Tryz.results11, go_sem, *]) rfl
          ⟨PodAns.good ⟨rfl, rfl, .inr (.inr ⟨hs8, rfl, podText_few hT (words_ne HF.out), a0, a1, a2, a3, HF.out, hT, rfl, rfl, rfl⟩)⟩ HR5.out HO5.out HB5.out, NilOk.mk HNL.out⟩
      · have hq : ((podX a1 (cpN a2) (zoneR a3) zs ⟨#[]⟩ 0).toList == s.toList) = false := tl_no hT
        go_wp2_with fail
        refine bodyPost_ret (v := .agg #[.string ⟨#[]⟩, .int .i64 0, .string ⟨#[]⟩, .slice none 0 0, .string ⟨#[]⟩, .int .i64 0, .int .i64 3]) (by simp [results, Tryz.results11, go_sem, *]) rfl
          ⟨PodAns.bad ⟨rfl, rfl, .inr (.inl ⟨hs8, ?_, rfl, rfl, rfl, rfl, rfl⟩)⟩ (set_below7 (Nat.le_refl _) HB5.out), NilOk.mk (fun _ => rfl)⟩
        rintro ⟨b0, b1, b2, b3, bl, hw2, hx2⟩
        rw [HF.out] at hw2
        simp only [List.cons.injEq] at hw2
        obtain ⟨rfl, rfl, rfl, rfl, rfl⟩ := hw2
        exact hT hx2
  · have hmb : ((m : Int) < 4) := by omega
    have hn4 : ¬ ∃ a0 a1 a2 a3 l, wordsB s = a0 :: a1 :: a2 :: a3 :: l ∧ podX a1 (cpN a2) (zoneR a3) l ⟨#[]⟩ 0 = s := by
      rintro ⟨a0, a1, a2, a3, l, e, -⟩
      have := hrow.1
      rw [e] at this
      simp at this
      omega
    have HN := hidK hn4
    have r0 : w1.cell? ⟨w.heap.size, 0, none⟩ = some (.string ⟨#[]⟩) := cellK gr 0
    have q0 : w1.frozen? ⟨w.heap.size, 0, none⟩ = false := frzP gr 0
    have r1 : w1.cell? ⟨w.heap.size, 1, none⟩ = some (.int .i64 0) := cellK gr 1
    have q1 : w1.frozen? ⟨w.heap.size, 1, none⟩ = false := frzP gr 1
    have r2 : w1.cell? ⟨w.heap.size, 2, none⟩ = some (.string ⟨#[]⟩) := cellK gr 2
    have q2 : w1.frozen? ⟨w.heap.size, 2, none⟩ = false := frzP gr 2
    have r3 : w1.cell? ⟨w.heap.size, 3, none⟩ = some (.slice none 0 0) := cellK gr 3
    have q3 : w1.frozen? ⟨w.heap.size, 3, none⟩ = false := frzP gr 3
    have r4 : w1.cell? ⟨w.heap.size, 4, none⟩ = some (.string ⟨#[]⟩) := cellK gr 4
    have q4 : w1.frozen? ⟨w.heap.size, 4, none⟩ = false := frzP gr 4
    have r5 : w1.cell? ⟨w.heap.size, 5, none⟩ = some (.int .i64 0) := cellK gr 5
    have q5 : w1.frozen? ⟨w.heap.size, 5, none⟩ = false := frzP gr 5
    have r6 : w1.cell? ⟨w.heap.size, 6, none⟩ = some (.int .i64 0) := cellK gr 6
    have q6 : w1.frozen? ⟨w.heap.size, 6, none⟩ = false := frzP gr 6
    clear hrow hn4 gr
    go_wp2_with fail
    exact bodyPost_ret (v := .agg #[.string ⟨#[]⟩, .int .i64 0, .string ⟨#[]⟩, .slice none 0 0, .string ⟨#[]⟩, .int .i64 0, .int .i64 3]) (by simp [results, Tryz.results11, go_sem, *]) rfl
      ⟨PodAns.bad ⟨rfl, rfl, .inr (.inl ⟨hs8, HN.out, rfl, rfl, rfl, rfl, rfl⟩)⟩ (set_below7 (Nat.le_refl _) HB.out), NilOk.mk (fun _ => rfl)⟩

theorem ipodRead_any (s : ByteArray) (w : World) (hs : s.size ≤ 1048576) (ht : ptab w) (hmx : mxl w) :
    Calls Tryz.prog 11 #[.string s] w (PodAns s w) := (ipodReadN_any s w hs ht hmx).mono fun _ _ h => h.1

def IsRow (k : IntKind) (w : World) (a : Option Addr) (len cap : Nat) (zs : List Int) : Prop :=
  (a = none ∧ len = 0 ∧ cap = 0 ∧ zs = []) ∨
  ∃ x, a = some x ∧ len ≤ cap ∧ cap ≤ maxLen ∧ zs.length = cap ∧ (∀ i, i < zs.length → w.cell? (x.add i) = some (.int k (zs.getD i 0))) ∧ ∀ n ∈ zs, (Lit.int k n).wf = true
theorem IsRow.rowIn {w : World} {a : Option Addr} {len cap : Nat} {zs : List Int} (h : IsRow .u8 w a len cap zs) (hl : len ≤ 1048576) : RowIn w.heap.size w (.slice a len cap) len := by
  refine ⟨by omega, a, cap, rfl, fun j hj => ?_⟩
  rcases h with ⟨rfl, rfl, rfl, rfl⟩ | ⟨x, rfl, hlc, _, hz, hcell, hwf⟩
  · omega
  · obtain ⟨b, off, spot⟩ := x
    have hc := hcell j (by omega)
    have hspot : spot = none := by
      have h0 := hcell 0 (by omega)
      simpa [Addr.add] using World.cell?_spot h0
    subst hspot
    rw [Addr.add_lit] at hc
    have hb : b < w.heap.size := by
      rcases Nat.lt_or_ge b w.heap.size with h1 | h1
      · exact h1
      · simp [World.cell?, Array.getElem?_eq_none h1] at hc
    have hmem : zs.getD j 0 ∈ zs := by
      rw [List.getD_eq_getElem?_getD, List.getElem?_eq_getElem (by omega)]
      simp
    have hw := hwf _ hmem
    simp [Lit.wf, IntKind.min, IntKind.max, IntKind.signed, IntKind.bits] at hw
    have e : zs.getD j 0 = zs[j]?.getD 0 := List.getD_eq_getElem?_getD ..
    exact ⟨b, off, zs.getD j 0, rfl, hb, hc, by rw [e]; omega, by rw [e]; omega⟩

set_option maxHeartbeats 3200000 in
theorem ivol_any (n : ByteArray) (c : Int) (z k : ByteArray) (x : Bool) (m : ByteArray) (y : Bool) (a : Option Addr) (len cap : Nat) (zs : List ByteArray) (w : World) (hn : n.size ≤ 9223372036854775807) (hz : z.size ≤ 9223372036854775807) (hk : k.size ≤ 9223372036854775807) (hm : m.size ≤ 9223372036854775807) (hr : TxRow w a len cap zs) :
    Calls Tryz.prog 24 #[.agg #[.string n, .int .i64 c, .string z, .string k, .bool x, .string m, .bool y, .slice a len cap]] w (BoolB (VolOk n c z k x m y zs) w) := by
  have HR : Hid (TxRow w a len cap zs) := hr
  have hzl : zs.length = len := hr.1
  have hlc : len ≤ 9223372036854775807 := Nat.le_trans hr.2.1 hr.2.2.1
  clear hr
  cases y
  · have HY : Hid (false = true → m = ⟨#[]⟩) := fun h => (by cases h)
    by_cases p0 : NameOk n
    case neg =>
      have F0 : Hid (∀ w, Calls Tryz.prog 59 #[.string n] w fun e w' => e = .returned (.bool false) ∧ w' = w) := fun w => (iname_any n w hn).mono fun _ _ h => h.no p0
      have HP := hidK p0
      clear p0
      go_enter Tryz.func24, Tryz.ntmps24
      go_wp2_with fail
      go_quiet ((first | (go_at_call_of 59 (Value.string n); exact Calls.quiet_of_same (F0.out _))))
      go_wp2_with fail
      go_ret
      exact ⟨false, rfl, ⟨fun h => (by cases h), fun h => (HP.out (h.1)).elim⟩, below_drewN (below1 _ _) _⟩
    have F0 : Hid (∀ w, Calls Tryz.prog 59 #[.string n] w fun e w' => e = .returned (.bool true) ∧ w' = w) := fun w => (iname_any n w hn).mono fun _ _ h => h.yes p0
    by_cases p1 : Inn c 1 1048576
    case neg =>
      have F1 : Hid (∀ w, Calls Tryz.prog 60 #[.int .i64 c, .int .i64 1, .int .i64 1048576] w fun e w' => e = .returned (.bool false) ∧ w' = w) := fun w => (kwithin_any c 1 1048576 w).mono fun _ _ h => h.no p1
      have HP := hidK p1
      clear p1
      go_enter Tryz.func24, Tryz.ntmps24
      go_wp2_with fail
      go_quiet ((first | (go_at_call_of 59 (Value.string n); exact Calls.quiet_of_same (F0.out _)) | (go_at_call_of 60 (Value.int .i64 c); exact Calls.quiet_of_same (F1.out _))))
      go_wp2_with fail
      go_ret
      exact ⟨false, rfl, ⟨fun h => (by cases h), fun h => (HP.out (h.2.1)).elim⟩, below_drewN (below1 _ _) _⟩
    have F1 : Hid (∀ w, Calls Tryz.prog 60 #[.int .i64 c, .int .i64 1, .int .i64 1048576] w fun e w' => e = .returned (.bool true) ∧ w' = w) := fun w => (kwithin_any c 1 1048576 w).mono fun _ _ h => h.yes p1
    by_cases p2 : NameOk z
    case neg =>
      have F2 : Hid (∀ w, Calls Tryz.prog 59 #[.string z] w fun e w' => e = .returned (.bool false) ∧ w' = w) := fun w => (iname_any z w hz).mono fun _ _ h => h.no p2
      have HP := hidK p2
      clear p2
      go_enter Tryz.func24, Tryz.ntmps24
      go_wp2_with fail
      go_quiet ((first | (go_at_call_of 59 (Value.string n); exact Calls.quiet_of_same (F0.out _)) | (go_at_call_of 60 (Value.int .i64 c); exact Calls.quiet_of_same (F1.out _)) | (go_at_call_of 59 (Value.string z); exact Calls.quiet_of_same (F2.out _))))
      go_wp2_with fail
      go_ret
      exact ⟨false, rfl, ⟨fun h => (by cases h), fun h => (HP.out (h.2.2.1)).elim⟩, below_drewN (below1 _ _) _⟩
    have F2 : Hid (∀ w, Calls Tryz.prog 59 #[.string z] w fun e w' => e = .returned (.bool true) ∧ w' = w) := fun w => (iname_any z w hz).mono fun _ _ h => h.yes p2
    by_cases p3 : NameOk k
    case neg =>
      have F3 : Hid (∀ w, Calls Tryz.prog 59 #[.string k] w fun e w' => e = .returned (.bool false) ∧ w' = w) := fun w => (iname_any k w hk).mono fun _ _ h => h.no p3
      have HP := hidK p3
      clear p3
      go_enter Tryz.func24, Tryz.ntmps24
      go_wp2_with fail
      go_quiet ((first | (go_at_call_of 59 (Value.string n); exact Calls.quiet_of_same (F0.out _)) | (go_at_call_of 60 (Value.int .i64 c); exact Calls.quiet_of_same (F1.out _)) | (go_at_call_of 59 (Value.string z); exact Calls.quiet_of_same (F2.out _)) | (go_at_call_of 59 (Value.string k); exact Calls.quiet_of_same (F3.out _))))
      go_wp2_with fail
      go_ret
      exact ⟨false, rfl, ⟨fun h => (by cases h), fun h => (HP.out (h.2.2.2.1)).elim⟩, below_drewN (below1 _ _) _⟩
    have F3 : Hid (∀ w, Calls Tryz.prog 59 #[.string k] w fun e w' => e = .returned (.bool true) ∧ w' = w) := fun w => (iname_any k w hk).mono fun _ _ h => h.yes p3
    by_cases p4 : ZoneOk m
    case neg =>
      have F4 : Hid (∀ w, Calls Tryz.prog 67 #[.string m] w fun e w' => e = .returned (.bool false) ∧ w' = w) := fun w => (izone_any m w hm).mono fun _ _ h => h.no p4
      have HP := hidK p4
      clear p4
      go_enter Tryz.func24, Tryz.ntmps24
      go_wp2_with fail
      go_quiet ((first | (go_at_call_of 59 (Value.string n); exact Calls.quiet_of_same (F0.out _)) | (go_at_call_of 60 (Value.int .i64 c); exact Calls.quiet_of_same (F1.out _)) | (go_at_call_of 59 (Value.string z); exact Calls.quiet_of_same (F2.out _)) | (go_at_call_of 59 (Value.string k); exact Calls.quiet_of_same (F3.out _)) | (go_at_call_of 67 (Value.string m); exact Calls.quiet_of_same (F4.out _))))
      go_wp2_with fail
      go_ret
      exact ⟨false, rfl, ⟨fun h => (by cases h), fun h => (HP.out (h.2.2.2.2.1)).elim⟩, below_drewN (below1 _ _) _⟩
    have F4 : Hid (∀ w, Calls Tryz.prog 67 #[.string m] w fun e w' => e = .returned (.bool true) ∧ w' = w) := fun w => (izone_any m w hm).mono fun _ _ h => h.yes p4
    obtain ⟨q, hq⟩ : ∃ q : Int, q = if x = true then 1 else 6 := ⟨_, rfl⟩
    have HM : Hid (∀ w, Calls Tryz.prog 69 #[.agg #[.string n, .int .i64 c, .string z, .string k, .bool x, .string m, .bool false, .slice a len cap]] w fun e w' => e = .returned (.int .i64 q) ∧ Below w.heap.size w w') := fun w => by rw [hq]; exact mostOn_any n c z k x m false a len cap w
    have HQ : Hid (q = if x = true then 1 else 6) := hq
    clear hq
    go_enter Tryz.func24, Tryz.ntmps24
    go_wp2_with fail
    go_region_with (first | (go_at_call_of 59 (Value.string n); refine (F0.out _).mono ?_; rintro e w1 ⟨rfl, rfl⟩) | (go_at_call_of 60 (Value.int .i64 c); refine (F1.out _).mono ?_; rintro e w1 ⟨rfl, rfl⟩) | (go_at_call_of 59 (Value.string z); refine (F2.out _).mono ?_; rintro e w1 ⟨rfl, rfl⟩) | (go_at_call_of 59 (Value.string k); refine (F3.out _).mono ?_; rintro e w1 ⟨rfl, rfl⟩) | (go_at_call_of 67 (Value.string m); refine (F4.out _).mono ?_; rintro e w1 ⟨rfl, rfl⟩) | (go_at_call 69; refine (HM.out _).mono ?_; rintro e w1 ⟨rfl, hb⟩; have hc7 := cellK (slotKd hb).1 7; simp only [List.getElem?_toArray, List.getElem?_cons_succ, List.getElem?_cons_zero] at hc7) | (go_at_call 61; refine (inames_any a len cap zs _ _ (HR.out.below (slotKd hb).2.1)).mono ?_; rintro e w2 ⟨r, rfl, hr, rfl⟩))
    all_goals (
      go_wp2_with fail
      go_ret
      exact ⟨r, rfl, ⟨fun h => ⟨p0, p1, p2, p3, p4, HY.out, HQ.out ▸ hr.1 h⟩, fun h => hr.2 (HQ.out ▸ h.2.2.2.2.2.2)⟩, (slotKd hb).2.1⟩)
  by_cases hm0 : m = ⟨#[]⟩
  · subst hm0
    have HY : Hid True := trivial
    by_cases p0 : NameOk n
    case neg =>
      have F0 : Hid (∀ w, Calls Tryz.prog 59 #[.string n] w fun e w' => e = .returned (.bool false) ∧ w' = w) := fun w => (iname_any n w hn).mono fun _ _ h => h.no p0
      have HP := hidK p0
      clear p0
      go_enter Tryz.func24, Tryz.ntmps24
      go_wp2_with fail
      go_quiet ((first | (go_at_call_of 59 (Value.string n); exact Calls.quiet_of_same (F0.out _))))
      go_wp2_with fail
      go_ret
      exact ⟨false, rfl, ⟨fun h => (by cases h), fun h => (HP.out (h.1)).elim⟩, below_drewN (below1 _ _) _⟩
    have F0 : Hid (∀ w, Calls Tryz.prog 59 #[.string n] w fun e w' => e = .returned (.bool true) ∧ w' = w) := fun w => (iname_any n w hn).mono fun _ _ h => h.yes p0
    by_cases p1 : Inn c 1 1048576
    case neg =>
      have F1 : Hid (∀ w, Calls Tryz.prog 60 #[.int .i64 c, .int .i64 1, .int .i64 1048576] w fun e w' => e = .returned (.bool false) ∧ w' = w) := fun w => (kwithin_any c 1 1048576 w).mono fun _ _ h => h.no p1
      have HP := hidK p1
      clear p1
      go_enter Tryz.func24, Tryz.ntmps24
      go_wp2_with fail
      go_quiet ((first | (go_at_call_of 59 (Value.string n); exact Calls.quiet_of_same (F0.out _)) | (go_at_call_of 60 (Value.int .i64 c); exact Calls.quiet_of_same (F1.out _))))
      go_wp2_with fail
      go_ret
      exact ⟨false, rfl, ⟨fun h => (by cases h), fun h => (HP.out (h.2.1)).elim⟩, below_drewN (below1 _ _) _⟩
    have F1 : Hid (∀ w, Calls Tryz.prog 60 #[.int .i64 c, .int .i64 1, .int .i64 1048576] w fun e w' => e = .returned (.bool true) ∧ w' = w) := fun w => (kwithin_any c 1 1048576 w).mono fun _ _ h => h.yes p1
    by_cases p2 : NameOk z
    case neg =>
      have F2 : Hid (∀ w, Calls Tryz.prog 59 #[.string z] w fun e w' => e = .returned (.bool false) ∧ w' = w) := fun w => (iname_any z w hz).mono fun _ _ h => h.no p2
      have HP := hidK p2
      clear p2
      go_enter Tryz.func24, Tryz.ntmps24
      go_wp2_with fail
      go_quiet ((first | (go_at_call_of 59 (Value.string n); exact Calls.quiet_of_same (F0.out _)) | (go_at_call_of 60 (Value.int .i64 c); exact Calls.quiet_of_same (F1.out _)) | (go_at_call_of 59 (Value.string z); exact Calls.quiet_of_same (F2.out _))))
      go_wp2_with fail
      go_ret
      exact ⟨false, rfl, ⟨fun h => (by cases h), fun h => (HP.out (h.2.2.1)).elim⟩, below_drewN (below1 _ _) _⟩
    have F2 : Hid (∀ w, Calls Tryz.prog 59 #[.string z] w fun e w' => e = .returned (.bool true) ∧ w' = w) := fun w => (iname_any z w hz).mono fun _ _ h => h.yes p2
    by_cases p3 : NameOk k
    case neg =>
      have F3 : Hid (∀ w, Calls Tryz.prog 59 #[.string k] w fun e w' => e = .returned (.bool false) ∧ w' = w) := fun w => (iname_any k w hk).mono fun _ _ h => h.no p3
      have HP := hidK p3
      clear p3
      go_enter Tryz.func24, Tryz.ntmps24
      go_wp2_with fail
      go_quiet ((first | (go_at_call_of 59 (Value.string n); exact Calls.quiet_of_same (F0.out _)) | (go_at_call_of 60 (Value.int .i64 c); exact Calls.quiet_of_same (F1.out _)) | (go_at_call_of 59 (Value.string z); exact Calls.quiet_of_same (F2.out _)) | (go_at_call_of 59 (Value.string k); exact Calls.quiet_of_same (F3.out _))))
      go_wp2_with fail
      go_ret
      exact ⟨false, rfl, ⟨fun h => (by cases h), fun h => (HP.out (h.2.2.2.1)).elim⟩, below_drewN (below1 _ _) _⟩
    have F3 : Hid (∀ w, Calls Tryz.prog 59 #[.string k] w fun e w' => e = .returned (.bool true) ∧ w' = w) := fun w => (iname_any k w hk).mono fun _ _ h => h.yes p3
    by_cases p4 : ZoneOk (⟨#[]⟩ : ByteArray)
    case neg =>
      have F4 : Hid (∀ w, Calls Tryz.prog 67 #[.string (⟨#[]⟩ : ByteArray)] w fun e w' => e = .returned (.bool false) ∧ w' = w) := fun w => (izone_any (⟨#[]⟩ : ByteArray) w hm).mono fun _ _ h => h.no p4
      have HP := hidK p4
      clear p4
      go_enter Tryz.func24, Tryz.ntmps24
      go_wp2_with fail
      go_quiet ((first | (go_at_call_of 59 (Value.string n); exact Calls.quiet_of_same (F0.out _)) | (go_at_call_of 60 (Value.int .i64 c); exact Calls.quiet_of_same (F1.out _)) | (go_at_call_of 59 (Value.string z); exact Calls.quiet_of_same (F2.out _)) | (go_at_call_of 59 (Value.string k); exact Calls.quiet_of_same (F3.out _)) | (go_at_call_of 67 (Value.string (⟨#[]⟩ : ByteArray)); exact Calls.quiet_of_same (F4.out _))))
      go_wp2_with fail
      go_ret
      exact ⟨false, rfl, ⟨fun h => (by cases h), fun h => (HP.out (h.2.2.2.2.1)).elim⟩, below_drewN (below1 _ _) _⟩
    have F4 : Hid (∀ w, Calls Tryz.prog 67 #[.string (⟨#[]⟩ : ByteArray)] w fun e w' => e = .returned (.bool true) ∧ w' = w) := fun w => (izone_any (⟨#[]⟩ : ByteArray) w hm).mono fun _ _ h => h.yes p4
    obtain ⟨q, hq⟩ : ∃ q : Int, q = if x = true then 1 else 6 := ⟨_, rfl⟩
    have HM : Hid (∀ w, Calls Tryz.prog 69 #[.agg #[.string n, .int .i64 c, .string z, .string k, .bool x, .string (⟨#[]⟩ : ByteArray), .bool true, .slice a len cap]] w fun e w' => e = .returned (.int .i64 q) ∧ Below w.heap.size w w') := fun w => by rw [hq]; exact mostOn_any n c z k x (⟨#[]⟩ : ByteArray) true a len cap w
    have HQ : Hid (q = if x = true then 1 else 6) := hq
    clear hq
    go_enter Tryz.func24, Tryz.ntmps24
    go_wp2_with fail
    go_region_with (first | (go_at_call_of 59 (Value.string n); refine (F0.out _).mono ?_; rintro e w1 ⟨rfl, rfl⟩) | (go_at_call_of 60 (Value.int .i64 c); refine (F1.out _).mono ?_; rintro e w1 ⟨rfl, rfl⟩) | (go_at_call_of 59 (Value.string z); refine (F2.out _).mono ?_; rintro e w1 ⟨rfl, rfl⟩) | (go_at_call_of 59 (Value.string k); refine (F3.out _).mono ?_; rintro e w1 ⟨rfl, rfl⟩) | (go_at_call_of 67 (Value.string (⟨#[]⟩ : ByteArray)); refine (F4.out _).mono ?_; rintro e w1 ⟨rfl, rfl⟩) | (go_at_call 69; refine (HM.out _).mono ?_; rintro e w1 ⟨rfl, hb⟩; have hc7 := cellK (slotKd hb).1 7; simp only [List.getElem?_toArray, List.getElem?_cons_succ, List.getElem?_cons_zero] at hc7) | (go_at_call 61; refine (inames_any a len cap zs _ _ (HR.out.below (slotKd hb).2.1)).mono ?_; rintro e w2 ⟨r, rfl, hr, rfl⟩))
    all_goals (
      go_wp2_with fail
      go_ret
      exact ⟨r, rfl, ⟨fun h => ⟨p0, p1, p2, p3, p4, (fun _ => rfl), HQ.out ▸ hr.1 h⟩, fun h => hr.2 (HQ.out ▸ h.2.2.2.2.2.2)⟩, (slotKd hb).2.1⟩)
  have hq9 : m.toList.isEmpty = false := isE_no hm0
  go_enter Tryz.func24, Tryz.ntmps24
  go_wp2
  go_ret
  exact ⟨false, rfl, ⟨fun h => (by cases h), fun h => absurd (h.2.2.2.2.2.1 rfl) hm0⟩, below1 _ _⟩

end Go.Proofs.YtfhlhckjgdmgkaaGreatDoor
