/-
  joined of the program: one text behind the other; cutOut: a piece of a text.
-/
import Derived.Test.YtjkgpkgbaapdmaaRows
import Derived.WalkKit
import Derived.WalkSpells
import Derived.OwnWalk
import Derived.Outline
import Derived.Lib.BufferWrite
import Derived.Laws.CopyOwn
import Derived.Laws.IdiomStrings
namespace Go.Proofs.Ytjkgpkgbaapdmaa
open Go.RowKit

theorem infoByteJ : (Try.prog.info? 5).map (fun i => (i.zero, i.size, i.bytes)) = some (some (.int .u8 0), 1, 1) := by kernel_rfl
theorem sizeByteJ : (Try.prog.info? 5).map (·.size) = some 1 := by kernel_rfl

/-- 'copy(dst, s)', s a text that fits, dst in a row of the call's own. -/
theorem run_copy_text {P : Program} {w : World} (dT sT ty : TypeId) (elem : TypeId) (hu : P.underlying dT = some (.slice elem)) (hsz : (P.info? elem).map (·.size) = some 1)
    (dp : Option Addr) (dLen dCap : Nat) (t : ByteArray)
    (g off : Nat) (cur : List Value) (e : TypeId) (hg : w.heap[g]? = some (.cells cur.toArray e (0, 0))) (hle : t.size ≤ dLen) (hpos : 0 < t.size → dp = some ⟨g, off, none⟩)
    (hfit : off + t.size ≤ cur.length) (B : Nat) (w0 : World) (hb : Below B w0 w) (hBg : B ≤ g) :
    ∃ w', (Builtin.copy_ #[dT, sT] ty #[.slice dp dLen dCap, .string t]).run P w = .ok (.int .i64 (t.size : Nat)) w' ∧
      Hid (w'.heap[g]? = some (.cells (splice cur off (Lib.byteCells t.data.toList)).toArray e (0, 0))) ∧ Below B w0 w' := by
  have hlen : (Lib.byteCells t.data.toList).length = t.size := by rw [Lib.byteCells_length, ← Lib.size_eq]
  by_cases h0 : t.size = 0
  · have hrun := Lib.run_copy_empty_string (P := P) w dT sT ty elem dp dLen dCap t hu (by rw [hsz]; rfl) h0
    have hc : Lib.byteCells t.data.toList = [] := List.eq_nil_of_length_eq_zero (by omega)
    rw [h0]
    exact ⟨w, hrun, show _ = _ by rw [hc]; simpa [splice] using hg, hb⟩
  · obtain rfl := hpos (by omega)
    have hrun := Lib.run_copy_row_string (P := P) w dT sT ty elem g off dLen dCap t cur.toArray e hu hsz hg hle (by simpa using hfit)
    refine ⟨_, hrun, ?_, below_setRow hb hBg _⟩
    show _ = _
    rw [setRow_heap w g _ _ e _ hg]
    simp [splice, hlen]

theorem full_row {w : World} {B g n : Nat} {e : TypeId} {xs : List Value} (h : w.ownsRow B e 1 (.slice (some ⟨g, 0, none⟩) n n) n xs) :
    w.heap[g]? = some (.cells xs.toArray e (0, 0)) ∧ xs.length = n ∧ B ≤ g := by
  obtain ⟨h1, h2⟩ := h
  rcases h2 with ⟨h3, _⟩ | ⟨g', cap, cur, hv, hB, hh, _, _, hsz, htk⟩
  · cases h3
  · simp only [Value.slice.injEq, Option.some.injEq, Addr.mk.injEq] at hv
    obtain ⟨⟨rfl, _, _⟩, _, rfl⟩ := hv
    have hl : cur.toList.length ≤ n * 1 := by simp [hsz]
    rw [List.take_of_length_le hl] at htk
    subst htk
    exact ⟨by simpa using hh, by simpa using hsz, hB⟩

theorem splice_two {Z X Y : List Value} (h : Z.length = X.length + Y.length) : splice (splice Z 0 X) X.length Y = X ++ Y := by
  unfold splice
  have h1 : List.drop (X.length + Y.length) Z = [] := List.drop_eq_nil_of_le (by omega)
  simp [← List.append_assoc, h1]

theorem conv_row {w : World} {g : Nat} (l : List UInt8) {n cap : Nat} (hn : l.length = n) (h : w.heap[g]? = some (.cells (Lib.byteCells l).toArray 5 (0, 0))) :
    (convert 22 9 (.slice (some ⟨g, 0, none⟩) n cap)).run Try.prog w = .ok (.string ⟨l.toArray⟩) w := by
  subst hn
  exact run_convert_bytes_back (P := Try.prog) w 22 9 5 ⟨g, 0, none⟩ cap l Try.underlying22 Try.underlying5 Try.underlying9 (fun j hj => by
    rw [Addr.add_lit]
    simp [World.cell?, h, Lib.byteCells, hj])
theorem len_bytes (s : ByteArray) : (Lib.byteCells s.data.toList).length = s.size := by rw [Lib.byteCells_length, ← Lib.size_eq]
theorem bytes_of (s : ByteArray) : (⟨s.data.toList.toArray⟩ : ByteArray) = s := rfl

set_option maxHeartbeats 1600000 in
theorem joined_none (x : ByteArray) (w : World) (h : x.size ≤ 1073741824) :
    Calls Try.prog 54 #[.string x, .string ByteArray.empty] w fun e w' => e = .returned (.string x) ∧ Below w.heap.size w w' := by
  obtain ⟨i0, hi, hz0, hz1, hz2⟩ := info_parts infoByteJ
  go_enter Try.func54, Try.ntmps54
  go_wp2_with (at_make; refine wpList_make_full _ rfl _ _ 22 rfl w.heap.size 5 i0 (.int .u8 0) 1 Try.underlying22 hi hz0 hz1 _ _ _ _ x.size rfl rfl (by omega) (by omega) (by rw [hz2]; omega) (by unfold maxLen; omega) (Nat.le_refl _) ?_)
  intro w1 hown hgrow
  obtain ⟨hg1, hz, -⟩ := full_row hown
  obtain ⟨Z, hZ⟩ : ∃ Z, Z = (madeCells #[Value.int IntKind.u8 0] x.size).toList := ⟨_, rfl⟩
  have hnx1 : Below w.heap.size w w1 := (Below.refl _ _).grown hgrow (Nat.le_refl _) (fun k hk => by cases hk)
  rw [← hZ] at hg1 hz
  obtain ⟨w2, hcp, HG2, hnx2⟩ := run_copy_text (P := Try.prog) 22 9 3 5 Try.underlying22 sizeByteJ (some ⟨w.heap.size, 0, none⟩) x.size x.size x w.heap.size 0 Z 5 hg1 (by omega) (fun _ => rfl) (by omega) w.heap.size w hnx1 (Nat.le_refl _)
  have hs2 : splice Z 0 (Lib.byteCells x.data.toList) = Lib.byteCells x.data.toList := by
    unfold splice
    have h1 : List.drop (0 + (Lib.byteCells x.data.toList).length) Z = [] := List.drop_eq_nil_of_le (by rw [len_bytes]; omega)
    rw [h1]; simp
  rw [hs2] at HG2
  have hcp2 := Lib.run_copy_empty_string (P := Try.prog) w2 22 9 3 5 (some ⟨w.heap.size, 0, none⟩) 0 0 ByteArray.empty Try.underlying22 (by kernel_rfl) rfl
  have hcv := conv_row (cap := x.size) x.data.toList (Lib.size_eq x).symm HG2.out
  clear hs2 hZ hown hgrow hg1 hi hz0 hz1 hz2 HG2 hnx1
  go_wp2
  go_ret
  exact ⟨rfl, hnx2⟩

set_option maxHeartbeats 1600000 in
theorem joined_some (x y : ByteArray) (w : World) (h : x.size + y.size ≤ 1073741824) (hy : ¬ y = ByteArray.empty) :
    Calls Try.prog 54 #[.string x, .string y] w fun e w' => e = .returned (.string ⟨(x.data.toList ++ y.data.toList).toArray⟩) ∧ Below w.heap.size w w' := by
  obtain ⟨i0, hi, hz0, hz1, hz2⟩ := info_parts infoByteJ
  go_enter Try.func54, Try.ntmps54
  go_wp2_with (at_make; refine wpList_make_full _ rfl _ _ 22 rfl w.heap.size 5 i0 (.int .u8 0) 1 Try.underlying22 hi hz0 hz1 _ _ _ _ (x.size + y.size) rfl rfl (by omega) (by omega) (by rw [hz2]; omega) (by unfold maxLen; omega) (Nat.le_refl _) ?_)
  intro w1 hown hgrow
  obtain ⟨hg1, hz, -⟩ := full_row hown
  obtain ⟨Z, hZ⟩ : ∃ Z, Z = (madeCells #[Value.int IntKind.u8 0] (x.size + y.size)).toList := ⟨_, rfl⟩
  have hnx1 : Below w.heap.size w w1 := (Below.refl _ _).grown hgrow (Nat.le_refl _) (fun k hk => by cases hk)
  rw [← hZ] at hg1 hz
  obtain ⟨w2, hcp, HG2, hnx2⟩ := run_copy_text (P := Try.prog) 22 9 3 5 Try.underlying22 sizeByteJ (some ⟨w.heap.size, 0, none⟩) (x.size + y.size) (x.size + y.size) x w.heap.size 0 Z 5 hg1 (by omega) (fun _ => rfl) (by omega) w.heap.size w hnx1 (Nat.le_refl _)
  obtain ⟨w3, hcp2, HG3, hnx3⟩ := run_copy_text (P := Try.prog) 22 9 3 5 Try.underlying22 sizeByteJ (some ⟨w.heap.size, x.size, none⟩) y.size y.size y w.heap.size x.size _ 5 HG2.out (by omega) (fun _ => rfl) (by rw [length_splice _ _ _ (by rw [len_bytes]; omega)]; omega) w.heap.size w hnx2 (Nat.le_refl _)
  have hs2 : splice (splice Z 0 (Lib.byteCells x.data.toList)) x.size (Lib.byteCells y.data.toList) = Lib.byteCells (x.data.toList ++ y.data.toList) := by
    have h1 := splice_two (Z := Z) (X := Lib.byteCells x.data.toList) (Y := Lib.byteCells y.data.toList) (by rw [len_bytes, len_bytes]; exact hz)
    rw [len_bytes] at h1
    rw [h1, Lib.byteCells_append]
  rw [hs2] at HG3
  have hcv := conv_row (n := x.size + y.size) (cap := x.size + y.size) (x.data.toList ++ y.data.toList) (by rw [List.length_append, ← Lib.size_eq, ← Lib.size_eq]) HG3.out
  clear hs2 hZ hown hgrow hg1 hi hz0 hz1 hz2 HG2 hnx1 HG3
  go_wp2
  go_ret
  exact ⟨rfl, hnx3⟩

theorem append_bytes (x y : ByteArray) : x ++ y = ⟨(x.data.toList ++ y.data.toList).toArray⟩ := by
  apply ByteArray.ext
  simp

/-- joined: one text behind the other; nothing that was there has turned. -/
theorem joined_any (x y : ByteArray) (w : World) (h : x.size + y.size ≤ 1073741824) :
    Calls Try.prog 54 #[.string x, .string y] w fun e w' => e = .returned (.string (x ++ y)) ∧ Below w.heap.size w w' := by
  by_cases hy : y = ByteArray.empty
  · subst hy
    have := joined_none x w (by omega)
    rw [show x ++ ByteArray.empty = x from by simp]
    exact this
  · rw [append_bytes]
    exact joined_some x y w h hy

end Go.Proofs.Ytjkgpkgbaapdmaa
