/-
  What Unseal answers, in the program and in the specification.
-/
import Derived.Test.YtbnchappillecaaCut
import Derived.Test.YtbnchappillecaaSeal
import Derived.Test.YtbnchappillecaaSlot
import Derived.Deep.RegionWith
namespace Go.Proofs.Ytbnchappillecaa
open Go.RowKit

/-- The text within, its last four bytes. -/
def inner (s : ByteArray) : ByteArray := s.extract 0 (s.size - 4)
def tail4 (s : ByteArray) : ByteArray := s.extract (s.size - 4) s.size
/-- What Unseal answers: a text, the place 0, a code. -/
def goodSeal (s : ByteArray) : Bool := (ByteArray.mk (four (crcOf 0 (inner s).data.toList)).toArray).toList == (tail4 s).toList
def unsText (s : ByteArray) : ByteArray := if 8000 < s.size ∨ s.size < 4 ∨ goodSeal s = false then ⟨#[]⟩ else inner s
def unsCode (s : ByteArray) : Int := if 8000 < s.size then 2 else if s.size < 4 then 4 else if goodSeal s = false then 5 else 0
theorem uns_long {s : ByteArray} (h : 8000 < s.size) : unsText s = ⟨#[]⟩ ∧ unsCode s = 2 := by unfold unsText unsCode; simp [h]
theorem uns_short {s : ByteArray} (h : ¬ 8000 < s.size) (h4 : s.size < 4) : unsText s = ⟨#[]⟩ ∧ unsCode s = 4 := by unfold unsText unsCode; simp [h, h4]
theorem uns_bad {s : ByteArray} (h : ¬ 8000 < s.size) (h4 : ¬ s.size < 4) (hg : goodSeal s = false) : unsText s = ⟨#[]⟩ ∧ unsCode s = 5 := by unfold unsText unsCode; simp [h, h4, hg]
theorem uns_good {s : ByteArray} (h : ¬ 8000 < s.size) (h4 : ¬ s.size < 4) (hg : goodSeal s = true) : unsText s = inner s ∧ unsCode s = 0 := by unfold unsText unsCode; simp [h, h4, hg]
def unsAns (s : ByteArray) : Value := .agg #[.string (unsText s), .int .i64 0, .int .i64 (unsCode s)]
theorem ret_agg {s : ByteArray} {t : ByteArray} {c : Int} (h : unsText s = t ∧ unsCode s = c) : Ending.returned (.agg #[.string t, .int .i64 0, .int .i64 c]) = .returned (unsAns s) := by
  unfold unsAns; rw [h.1, h.2]

theorem parts4 (s : ByteArray) : s = inner s ++ tail4 s := by
  unfold inner tail4
  apply ByteArray.ext
  simp
theorem seal_same (s : ByteArray) (h : ¬ 8000 < s.size) (h4 : ¬ s.size < 4) : ((sealed (inner s)).toList == s.toList) = goodSeal s := by
  have hn : (inner s).size = s.size - 4 := by unfold inner; simp
  have e1 : sealed (inner s) = inner s ++ ⟨(four (crcOf 0 (inner s).data.toList)).toArray⟩ := by unfold sealed; rw [if_neg (by omega)]
  have e2 : s.toList = (inner s).data.toList ++ (tail4 s).data.toList := by
    rw [ByteArray.toList_eq]
    conv => lhs; rw [parts4 s]
    simp
  unfold goodSeal
  rw [e1, e2, ByteArray.toList_eq, ByteArray.toList_eq, ByteArray.toList_eq, Bool.eq_iff_iff]
  simp

set_option maxHeartbeats 3200000 in
theorem iunseal_any (s : ByteArray) (w : World) :
    Calls Try.prog 8 #[.string s] w fun e w' => e = .returned (unsAns s) ∧ Below w.heap.size w w' := by
  by_cases h : 8000 < s.size
  · go_enter Try.func8, Try.ntmps8
    go_wp2_with (go_at_call 21; refine (long_yes s _ h).mono ?_; rintro e w1 ⟨rfl, rfl⟩)
    exact bodyPost_ret (v := .agg #[.string ⟨#[]⟩, .int .i64 0, .int .i64 2]) (by simp [results, Try.results8, go_sem]) rfl ⟨ret_agg (uns_long h), (Below.refl _ _).alloc (Nat.le_refl _) _⟩
  by_cases h4 : s.size < 4
  · go_enter Try.func8, Try.ntmps8
    go_wp2_with (go_at_call 21; refine (long_no s _ h).mono ?_; rintro e w1 ⟨rfl, rfl⟩)
    exact bodyPost_ret (v := .agg #[.string ⟨#[]⟩, .int .i64 0, .int .i64 4]) (by simp [results, Try.results8, go_sem]) rfl ⟨ret_agg (uns_short h h4), (Below.refl _ _).alloc (Nat.le_refl _) _⟩
  have hn : (inner s).size = s.size - 4 := by unfold inner; simp
  have hq0 := seal_same s h h4
  have HB : Hid (goodSeal s = false → unsText s = ⟨#[]⟩ ∧ unsCode s = 5) := uns_bad h h4
  have HG : Hid (goodSeal s = true → unsText s = inner s ∧ unsCode s = 0) := uns_good h h4
  have hS := fun w => iseal_any (inner s) w
  have hK := fun w => cut_int s 0 ((s.size : Int) - 4) 0 (s.size - 4) w rfl (by omega) (by omega) (by omega) (by omega)
  rw [show s.extract 0 (s.size - 4) = inner s from rfl] at hK
  generalize sealed (inner s) = p at *
  have HS : Hid (∀ w, Calls Try.prog 5 #[.string (inner s)] w fun e w' => e = .returned (.string p) ∧ Below w.heap.size w w') := hS
  have HK : Hid (∀ w, Calls Try.prog 22 #[.string s, .int .i64 0, .int .i64 ((s.size : Int) - 4)] w fun e w' => e = .returned (.string (inner s)) ∧ Below w.heap.size w w') := hK
  clear hS hK
  cases hq : goodSeal s
  · have HB' : Hid (unsText s = ⟨#[]⟩ ∧ unsCode s = 5) := HB.out hq
    rw [hq] at hq0
    clear HB HG hq
    go_enter Try.func8, Try.ntmps8
    go_wp2_with (first | (go_at_call 21; refine (long_no s _ h).mono ?_; rintro e w1 ⟨rfl, rfl⟩) | (go_at_call 22; refine (HK.out _).mono ?_; rintro e w1 ⟨rfl, hb1⟩) | (go_at_call 5; refine (HS.out _).mono ?_; rintro e w2 ⟨rfl, hb2⟩; obtain ⟨c0, c1, c2, f0, f1, f2, hb, hz⟩ := slot3 (w := w) (x := w.alloc (.cells #[.string ⟨#[]⟩, .int .i64 0, .int .i64 0] 27)) (w1 := w2) rfl rfl rfl rfl (hb1.trans (hb2.mono hb1.size))))
    exact bodyPost_ret (v := .agg #[.string ⟨#[]⟩, .int .i64 0, .int .i64 5]) (by simp [results, Try.results8, go_sem, *]) rfl ⟨ret_agg HB'.out, ((hb.setCell (Nat.le_refl _) _).setCell (Nat.le_refl _) _).setCell (Nat.le_refl _) _⟩
  · have HB' : Hid (unsText s = inner s ∧ unsCode s = 0) := HG.out hq
    rw [hq] at hq0
    clear HB HG hq
    go_enter Try.func8, Try.ntmps8
    go_wp2_with (first | (go_at_call 21; refine (long_no s _ h).mono ?_; rintro e w1 ⟨rfl, rfl⟩) | (go_at_call 22; refine (HK.out _).mono ?_; rintro e w1 ⟨rfl, hb1⟩) | (go_at_call 5; refine (HS.out _).mono ?_; rintro e w2 ⟨rfl, hb2⟩; obtain ⟨c0, c1, c2, f0, f1, f2, hb, hz⟩ := slot3 (w := w) (x := w.alloc (.cells #[.string ⟨#[]⟩, .int .i64 0, .int .i64 0] 27)) (w1 := w2) rfl rfl rfl rfl (hb1.trans (hb2.mono hb1.size))))
    exact bodyPost_ret (v := .agg #[.string (inner s), .int .i64 0, .int .i64 0]) (by simp [results, Try.results8, go_sem, *]) rfl ⟨ret_agg HB'.out, ((hb.setCell (Nat.le_refl _) _).setCell (Nat.le_refl _) _).setCell (Nat.le_refl _) _⟩

end Go.Proofs.Ytbnchappillecaa
