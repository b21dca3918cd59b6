/-
  A sealed text with one byte turned is refused.
-/
import Derived.Test.YtbnchappillecaaSealMath
namespace Go.Proofs.Ytbnchappillecaa
open Go.RowKit

theorem sealed_list (t : ByteArray) (ht : t.size ≤ 7996) : (sealed t).data.toList = t.data.toList ++ four (crcOf 0 t.data.toList) := by
  unfold sealed
  rw [if_neg (by omega)]
  simp
theorem sealed_size (t : ByteArray) (ht : t.size ≤ 7996) : (sealed t).size = t.size + 4 := by
  have := congrArg List.length (sealed_list t ht)
  simp only [List.length_append, four_len] at this
  rw [← Lib.size_eq, ← Lib.size_eq] at this
  exact this
theorem inner_list (b : ByteArray) (n : Nat) (h : b.size = n + 4) : (inner b).data.toList = b.data.toList.take n := by
  unfold inner
  rw [h]
  simp
theorem tail_list (b : ByteArray) (n : Nat) (h : b.size = n + 4) : (tail4 b).data.toList = b.data.toList.drop n := by
  unfold tail4
  rw [h]
  simp
  have : b.data.toList.length = n + 4 := by rw [← h, Lib.size_eq]
  rw [List.take_of_length_le (by rw [List.length_drop]; omega)]
theorem good_iff (b : ByteArray) (n : Nat) (h : b.size = n + 4) : goodSeal b = true ↔ four (crcOf 0 (b.data.toList.take n)) = b.data.toList.drop n := by
  unfold goodSeal
  rw [ByteArray.toList_eq, ByteArray.toList_eq, inner_list b n h, tail_list b n h]
  simp
theorem good_sealed (t : ByteArray) (ht : t.size ≤ 7996) : goodSeal (sealed t) = true := by
  have hl : t.data.toList.length = t.size := (Lib.size_eq t).symm
  rw [good_iff _ t.size (sealed_size t ht), sealed_list t ht]
  rw [List.take_append_of_le_length (by omega), List.drop_append_of_le_length (by omega)]
  rw [List.take_of_length_le (by omega), List.drop_eq_nil_of_le (by omega)]
  rfl
theorem turned_bad (t b : ByteArray) (ht : t.size ≤ 7996) (i : Nat) (y : UInt8) (hb : b.data.toList = (sealed t).data.toList.set i y) (hi : i < (sealed t).data.toList.length) (hy : (sealed t).data.toList[i] ≠ y) : goodSeal b = false := by
  have hl : t.data.toList.length = t.size := (Lib.size_eq t).symm
  have hbs : b.size = t.size + 4 := by
    have := congrArg List.length hb
    rw [List.length_set, ← Lib.size_eq, ← Lib.size_eq, sealed_size t ht] at this
    exact this
  cases hg : goodSeal b with
  | false => rfl
  | true =>
    exfalso
    rw [good_iff b t.size hbs, hb] at hg
    have hy2 : ∀ h, (t.data.toList ++ four (crcOf 0 t.data.toList))[i]'h ≠ y := by
      intro h
      have e : (sealed t).data.toList[i] = (t.data.toList ++ four (crcOf 0 t.data.toList))[i]'h := by simp only [sealed_list t ht]
      rw [← e]; exact hy
    rw [sealed_list t ht] at hg hi
    generalize hL : t.data.toList = L at *
    have b0 := crcOf_bd 0 L
    by_cases hc : i < L.length
    · rw [List.set_append_left _ _ hc] at hg
      rw [List.take_append_of_le_length (by simp; omega), List.drop_append_of_le_length (by simp; omega)] at hg
      rw [List.take_of_length_le (by simp; omega), List.drop_eq_nil_of_le (by simp; omega), List.nil_append] at hg
      have b1 := crcOf_bd 0 (L.set i y)
      have h2 := four_inj _ _ b1.1 b1.2 b0.1 b0.2 hg
      have e1 : L.set i y = L.take i ++ y :: L.drop (i + 1) := List.set_eq_take_append_cons_drop .. |>.trans (if_pos hc)
      have e2 : L = L.take i ++ L[i] :: L.drop (i + 1) := by
        rw [← List.drop_eq_getElem_cons hc, List.take_append_drop]
      have h2' : crcOf 0 (L.take i ++ y :: L.drop (i + 1)) = crcOf 0 (L.take i ++ L[i] :: L.drop (i + 1)) := by rw [← e1, ← e2]; exact h2
      have h3 := hy2 (by simp; omega)
      rw [List.getElem_append_left hc] at h3
      exact h3 (crcOf_turned _ _ _ _ h2').symm
    · rw [List.set_append_right _ _ (by omega)] at hg
      rw [List.take_append_of_le_length (by omega), List.drop_append_of_le_length (by omega)] at hg
      rw [List.take_of_length_le (by omega), List.drop_eq_nil_of_le (by omega), List.nil_append] at hg
      have h3 := hy2 hi
      rw [List.getElem_append_right (by omega)] at h3
      apply h3
      have h4 : i - L.length < (four (crcOf 0 L)).length := by simp at hi; omega
      have h5 : (four (crcOf 0 L))[i - L.length]? = ((four (crcOf 0 L)).set (i - L.length) y)[i - L.length]? := by rw [← hg]
      rw [List.getElem?_set_self h4, List.getElem?_eq_getElem h4] at h5
      exact Option.some.inj h5

end Go.Proofs.Ytbnchappillecaa
