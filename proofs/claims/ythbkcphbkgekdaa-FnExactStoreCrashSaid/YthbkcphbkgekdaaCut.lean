/-
  cutOut of the program: a piece of a text; what Unseal answers, in the program and in the specification.
-/
import Derived.Test.YthbkcphbkgekdaaJoin
namespace Go.Proofs.Ythbkcphbkgekdaa
open Go.RowKit

set_option maxHeartbeats 800000 in
theorem cut_any (s : ByteArray) (f t : Nat) (w : World) (h0 : f ≤ t) (h1 : t ≤ s.size) (h2 : s.size ≤ 1073741824) :
    Calls Try.prog 16 #[.string s, .int .i64 (f : Int), .int .i64 (t : Int)] w fun e w' => e = .returned (.string (s.extract f t)) ∧ Below w.heap.size w w' := by
  obtain ⟨i0, hi, hz0, hz1, hz2⟩ := info_parts infoByteJ
  go_enter Try.func16, Try.ntmps16
  go_wp2_with (at_make; refine wpList_make_full _ rfl _ _ 37 rfl w.heap.size 5 i0 (.int .u8 0) 1 Try.underlying37 hi hz0 hz1 _ _ _ _ (t - f) rfl rfl (by omega) (by omega) (by rw [hz2]; omega) (by unfold maxLen; omega) (Nat.le_refl _) ?_)
  intro w1 hown hgrow
  obtain ⟨hg1, hz, -⟩ := full_row hown
  obtain ⟨Z, hZ⟩ : ∃ Z, Z = (madeCells #[Value.int IntKind.u8 0] (t - f)).toList := ⟨_, rfl⟩
  have hnx1 : Below w.heap.size w w1 := (Below.refl _ _).grown hgrow (Nat.le_refl _) (fun k hk => by cases hk)
  rw [← hZ] at hg1 hz
  have hx : (s.extract f t).size = t - f := by simp; omega
  obtain ⟨w2, hcp, HG2, hnx2⟩ := run_copy_text (P := Try.prog) 37 9 3 5 Try.underlying37 sizeByteJ (some ⟨w.heap.size, 0, none⟩) (t - f) (t - f) (s.extract f t) w.heap.size 0 Z 5 hg1 (by omega) (fun _ => rfl) (by omega) w.heap.size w hnx1 (Nat.le_refl _)
  have hs2 : splice Z 0 (Lib.byteCells (s.extract f t).data.toList) = Lib.byteCells (s.extract f t).data.toList := by
    unfold splice
    have h1 : List.drop (0 + (Lib.byteCells (s.extract f t).data.toList).length) Z = [] := List.drop_eq_nil_of_le (by rw [len_bytes]; omega)
    rw [h1]; simp
  rw [hs2] at HG2
  have hcv := conv_row (n := t - f) (cap := t - f) (s.extract f t).data.toList (by rw [← Lib.size_eq]; exact hx) HG2.out
  rw [bytes_of] at hcv
  rw [hx] at hcp
  clear hs2 hZ hown hgrow hg1 hi hz0 hz1 hz2 HG2 hnx1
  go_wp2
  go_ret
  exact ⟨rfl, hnx2⟩

theorem cut_int (s : ByteArray) (F T : Int) (f t : Nat) (w : World) (hF : F = f) (hT : T = t) (h0 : f ≤ t) (h1 : t ≤ s.size) (h2 : s.size ≤ 1073741824) :
    Calls Try.prog 16 #[.string s, .int .i64 F, .int .i64 T] w fun e w' => e = .returned (.string (s.extract f t)) ∧ Below w.heap.size w w' := by
  subst hF hT
  exact cut_any s f t w h0 h1 h2

end Go.Proofs.Ythbkcphbkgekdaa
