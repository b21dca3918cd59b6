/-
  What GetNum and GetText answer of what PutNum and PutText gave, and of bytes that end too early.
-/
import Derived.Test.YtbnchappillecaaDoorNumMath
import Derived.Test.YtbnchappillecaaDoorGetText
import Derived.Test.YtbnchappillecaaDoorLawPutText
namespace Go.Proofs.YtbnchappillecaaDoor
open Go.RowKit

theorem gn_put (n : Int) (h0 : -9223372036854775808 ≤ n) (h1 : n ≤ 9223372036854775807) (s : ByteArray) (a : Nat) (rest : List UInt8) (hs : s.data.toList.drop a = Lib.uvarint (zz n) ++ rest) (h8 : ¬ 8000 < s.size) :
    gn s (a : Int) = (n, ((a + (Lib.uvarint (zz n)).length : Nat) : Int), 0) := by
  have hr : rd (s.data.toList.drop a) 0 0 = (0, zz n, (Lib.uvarint (zz n)).length) := by rw [hs]; exact rd_num n h0 h1 rest
  rw [gn_ok h8 hr, unf_zz]
theorem gn_put_cut (n : Int) (h0 : -9223372036854775808 ≤ n) (h1 : n ≤ 9223372036854775807) (s : ByteArray) (hs : s.data.toList = (Lib.uvarint (zz n)).dropLast) (h8 : ¬ 8000 < s.size) : gn s 0 = (0, 0, 4) := by
  have hr : rd (s.data.toList.drop 0) 0 0 = (4, 0, 0) := by rw [List.drop_zero, hs]; exact rd_num_cut n h0 h1
  exact gn_bad (a := 0) h8 hr (by decide)
theorem putText_list (u : ByteArray) (hu : ¬ 8000 < u.size) : (putText u).data.toList = Lib.uvarint (zz u.size) ++ u.data.toList := by
  unfold putText; rw [if_neg hu]; simp
theorem gt_put (u s : ByteArray) (hu : ¬ 8000 < u.size) (c : UInt8) (hs : s.data.toList = c :: (putText u).data.toList) (h8 : ¬ 8000 < s.size) : gt s 1 = (u, ((putText u).size : Int) + 1, 0) := by
  have hb0 : -9223372036854775808 ≤ (u.size : Int) := by omega
  have hb1 : (u.size : Int) ≤ 9223372036854775807 := by omega
  have hd : s.data.toList.drop 1 = Lib.uvarint (zz u.size) ++ u.data.toList := by rw [hs, putText_list u hu]; rfl
  have hr : rd (s.data.toList.drop 1) 0 0 = (0, zz u.size, (Lib.uvarint (zz u.size)).length) := by rw [hd]; exact rd_num _ hb0 hb1 _
  have hps : (putText u).size = (Lib.uvarint (zz u.size)).length + u.size := by
    have := congrArg List.length (putText_list u hu)
    rw [List.length_append, ← Lib.size_eq, ← Lib.size_eq] at this
    exact this
  have hss : s.size = (putText u).size + 1 := by
    have := congrArg List.length hs
    rw [List.length_cons, ← Lib.size_eq, ← Lib.size_eq] at this
    exact this
  have e1 := gt_at (s := s) (a := 1) h8
  have hz := unf_zz (u.size : Int)
  have e2 := rt_ok hr (by rw [hz]; omega) (by rw [hz]; omega)
  rw [hz, Int.toNat_natCast] at e2
  have e3 : s.extract (1 + (Lib.uvarint (zz u.size)).length) (1 + (Lib.uvarint (zz u.size)).length + u.size) = u := by
    apply ByteArray.ext
    apply Array.toList_inj.1
    have hl : u.data.toList.length = u.size := (Lib.size_eq u).symm
    have : (s.extract (1 + (Lib.uvarint (zz u.size)).length) (1 + (Lib.uvarint (zz u.size)).length + u.size)).data.toList = ((s.data.toList.drop (1 + (Lib.uvarint (zz u.size)).length)).take u.size) := by
      simp
    rw [this, ← List.drop_drop, hd, List.drop_append_of_le_length (Nat.le_refl _), List.drop_eq_nil_of_le (Nat.le_refl _), List.nil_append, List.take_of_length_le (by omega)]
  rw [e3] at e2
  refine (show gt s 1 = rt s 1 from e1).trans (e2.trans ?_)
  rw [hps]
  simp only [Prod.mk.injEq, true_and, and_true]
  omega
theorem gt_put_cut (u s : ByteArray) (hu : ¬ 8000 < u.size) (hs : s.data.toList = (putText u).data.toList.dropLast) (h8 : ¬ 8000 < s.size) : gt s 0 = (⟨#[]⟩, 0, 4) := by
  have hb0 : -9223372036854775808 ≤ (u.size : Int) := by omega
  have hb1 : (u.size : Int) ≤ 9223372036854775807 := by omega
  have hl : u.data.toList.length = u.size := (Lib.size_eq u).symm
  have e1 : gt s 0 = rt s 0 := gt_at (s := s) (a := 0) h8
  rw [putText_list u hu] at hs
  by_cases h0 : u.size = 0
  · have hn : u.data.toList = [] := List.eq_nil_of_length_eq_zero (by omega)
    rw [hn, List.append_nil] at hs
    have hr : rd (s.data.toList.drop 0) 0 0 = (4, 0, 0) := by rw [List.drop_zero, hs]; exact rd_num_cut _ hb0 hb1
    exact e1.trans (rt_bad hr (by decide))
  · have hne : u.data.toList ≠ [] := fun e => by rw [e] at hl; simp at hl; omega
    rw [List.dropLast_append_of_ne_nil hne] at hs
    have hr : rd (s.data.toList.drop 0) 0 0 = (0, zz u.size, (Lib.uvarint (zz u.size)).length) := by rw [List.drop_zero, hs]; exact rd_num _ hb0 hb1 _
    have hss : s.size = (Lib.uvarint (zz u.size)).length + (u.size - 1) := by
      have := congrArg List.length hs
      rw [List.length_append, List.length_dropLast, ← Lib.size_eq, ← Lib.size_eq] at this
      exact this
    have hz := unf_zz (u.size : Int)
    exact e1.trans (rt_short hr (by rw [hz]; omega) (by rw [hz]; omega))

end Go.Proofs.YtbnchappillecaaDoor
