/-
  The mathematics of reading a size or a share: one text for one number, and what is read of a text.
-/
import Derived.Test.YtbpnmhebhmakdaaDoorQuant
namespace Go.Proofs.YtbpnmhebhmakdaaDoor
open Go.RowKit

theorem bytes_append (a b : ByteArray) : (a ++ b).data.toList = a.data.toList ++ b.data.toList := by simp
theorem bytes_ext {a b : ByteArray} (h : a.data.toList = b.data.toList) : a = b := by
  apply ByteArray.ext
  exact Array.toList_inj.1 h
theorem dec_list (n : Int) : (dec n).data.toList = Lib.decDigits n.toNat := rfl
theorem dec_int_inj {a b : Int} (h0 : 0 ≤ a) (h1 : 0 ≤ b) (h : Lib.decDigits a.toNat = Lib.decDigits b.toNat) : a = b := by have := dec_inj h; omega
theorem mtext_pos {l m e : Int} {w0 w1 : ByteArray} {n : Int} (h : ¬ mtext l m e w0 w1 n = ⟨#[]⟩) : l ≤ n ∧ n ≤ m := by
  unfold mtext at h
  by_cases h1 : n < l ∨ m < n
  · rw [if_pos h1] at h; exact absurd rfl h
  · omega
/-- A number that these two words tell apart, and that are no digits at their ends. -/
theorem dig_word {a b : List UInt8} {x y : List UInt8} (ha : ∀ c ∈ a, isDig c) (hb : ∀ c ∈ b, isDig c) (hx : ∀ c ∈ x, ¬ isDig c) (hy : ∀ c ∈ y, ¬ isDig c) (h : a ++ x = b ++ y) : a = b ∧ x = y := by
  induction a generalizing b with
  | nil =>
    cases b with
    | nil => exact ⟨rfl, by simpa using h⟩
    | cons c b =>
      exfalso
      simp only [List.nil_append, List.cons_append] at h
      exact hx c (by rw [h]; simp) (hb c (by simp))
  | cons c a ih =>
    cases b with
    | nil =>
      exfalso
      simp only [List.nil_append, List.cons_append] at h
      exact hy c (by rw [← h]; simp) (ha c (by simp))
    | cons d b =>
      simp only [List.cons_append, List.cons.injEq] at h
      obtain ⟨rfl, h⟩ := h
      obtain ⟨rfl, rfl⟩ := ih (fun c hc => ha c (by simp [hc])) (fun c hc => hb c (by simp [hc])) h
      exact ⟨rfl, rfl⟩
def NoDig (w : ByteArray) : Prop := ∀ c ∈ w.data.toList, ¬ isDig c
theorem noDig_Ti : NoDig wTi := by unfold NoDig isDig wTi; decide
theorem noDig_Gi : NoDig wGi := by unfold NoDig isDig wGi; decide
theorem noDig_No : NoDig wNo := by unfold NoDig isDig wNo; decide
theorem noDig_M : NoDig wM := by unfold NoDig isDig wM; decide
theorem dec_word_inj {a b : Int} {x y : ByteArray} (h0 : 0 ≤ a) (h1 : 0 ≤ b) (hx : NoDig x) (hy : NoDig y) (h : dec a ++ x = dec b ++ y) : a = b ∧ x = y := by
  have h2 := congrArg (fun z : ByteArray => z.data.toList) h
  simp only [bytes_append, dec_list] at h2
  obtain ⟨h3, h4⟩ := dig_word (dec_dig _) (dec_dig _) hx hy h2
  exact ⟨dec_int_inj h0 h1 h3, bytes_ext h4⟩
theorem mtext_inj {l m e : Int} {w0 w1 : ByteArray} {a b : Int} (hl : 0 ≤ l) (he : 0 < e) (hw0 : NoDig w0) (hw1 : NoDig w1) (hne : ¬ w0 = w1) (h : mtext l m e w0 w1 a = mtext l m e w0 w1 b) (h2 : ¬ mtext l m e w0 w1 a = ⟨#[]⟩) : a = b := by
  have ha := mtext_pos h2
  have hb := mtext_pos (h ▸ h2)
  by_cases h3 : a % e = 0 <;> by_cases h4 : b % e = 0
  · rw [← mtext_great ha.1 ha.2 h3, ← mtext_great hb.1 hb.2 h4] at h
    obtain ⟨h5, _⟩ := dec_word_inj (Int.ediv_nonneg (by omega) (by omega)) (Int.ediv_nonneg (by omega) (by omega)) hw0 hw0 h
    have h6 := Int.mul_ediv_add_emod a e
    have h7 := Int.mul_ediv_add_emod b e
    rw [h5] at h6; omega
  · rw [← mtext_great ha.1 ha.2 h3, ← mtext_small hb.1 hb.2 h4] at h
    exact absurd (dec_word_inj (Int.ediv_nonneg (by omega) (by omega)) (by omega) hw0 hw1 h).2 hne
  · rw [← mtext_small ha.1 ha.2 h3, ← mtext_great hb.1 hb.2 h4] at h
    exact absurd (dec_word_inj (by omega) (Int.ediv_nonneg (by omega) (by omega)) hw1 hw0 h).2.symm hne
  · rw [← mtext_small ha.1 ha.2 h3, ← mtext_small hb.1 hb.2 h4] at h
    exact (dec_word_inj (by omega) (by omega) hw1 hw1 h).1
/-- What is read of a text s, t telling numbers: the number and the code. -/
def RdIs (t : Int → ByteArray) (s : ByteArray) (a c : Int) : Prop :=
  (8000 < s.size ∧ a = 0 ∧ c = 2) ∨ (s.size ≤ 8000 ∧ ¬ s = ⟨#[]⟩ ∧ t a = s ∧ c = 0) ∨ (s.size ≤ 8000 ∧ (∀ n, t n = s → s = ⟨#[]⟩) ∧ a = 0 ∧ c = 3)
theorem RdIs.same {t : Int → ByteArray} (hi : ∀ a b, t a = t b → ¬ t a = ⟨#[]⟩ → a = b) {s : ByteArray} {a c a' c' : Int} (h : RdIs t s a c) (h' : RdIs t s a' c') : a = a' ∧ c = c' := by
  rcases h with ⟨h1, h2, h3⟩ | ⟨h1, h2, h3, h4⟩ | ⟨h1, h2, h3, h4⟩ <;> rcases h' with ⟨k1, k2, k3⟩ | ⟨k1, k2, k3, k4⟩ | ⟨k1, k2, k3, k4⟩
  · omega
  · omega
  · omega
  · omega
  · exact ⟨hi _ _ (h3.trans k3.symm) (by rw [h3]; exact h2), by omega⟩
  · exact absurd (k2 _ h3) h2
  · omega
  · exact absurd (h2 _ k3) k2
  · omega
def szText : Int → ByteArray := mtext 1 1048576 1024 wTi wGi
def cpText : Int → ByteArray := mtext 0 1000000 1000 wNo wM
theorem sz_inj (a b : Int) (h : szText a = szText b) (h2 : ¬ szText a = ⟨#[]⟩) : a = b :=
  mtext_inj (by decide) (by decide) noDig_Ti noDig_Gi (by decide) h h2
theorem cp_inj (a b : Int) (h : cpText a = cpText b) (h2 : ¬ cpText a = ⟨#[]⟩) : a = b :=
  mtext_inj (by decide) (by decide) noDig_No noDig_M (by decide) h h2

end Go.Proofs.YtbpnmhebhmakdaaDoor
