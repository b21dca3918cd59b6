/-
  spoil: a text changed a little.
-/
import Derived.Test.YtbeocggeakhnnaaDoorDraw6
namespace Go.Proofs.YtbeocggeakhnnaaDoor
open Go.RowKit

theorem conv_byte (w : World) (x : UInt8) : (convert 22 9 (.slice (some ⟨w.heap.size, 0, none⟩) 1 1)).run Tryd.prog (w.alloc (.cells #[.int .u8 (x.toNat : Int)] 5)) = .ok (.string ⟨#[x]⟩) (w.alloc (.cells #[.int .u8 (x.toNat : Int)] 5)) :=
  run_convert_bytes_back (P := Tryd.prog) _ 22 9 5 ⟨w.heap.size, 0, none⟩ 1 [x] Tryd.underlying22 Tryd.underlying5 Tryd.underlying9 (fun j hj => by
    simp at hj
    subst hj
    simp [Addr.add])

theorem size_app2 (a b : ByteArray) : (a ++ b).size = a.size + b.size := by rw [Lib.size_eq, bytes_append, List.length_append, ← Lib.size_eq, ← Lib.size_eq]
theorem ext_size (t : ByteArray) (a b : Nat) : (t.extract a b).size ≤ t.size := by rw [ByteArray.size_extract]; omega
theorem end_size (t : ByteArray) (x : UInt8) (h : t.size ≤ 45) : (t ++ ⟨#[x]⟩).size ≤ 100 := by
  rw [size_app2]
  have : (⟨#[x]⟩ : ByteArray).size = 1 := rfl
  omega
theorem Src.drew {B : Nat} {w0 : World} {p : Nat} {v : Value} {len : Nat} {w : World} (h : Src B w0 p v len w) : Src B w0 p v len w.drew :=
  h.keep (row := none) ⟨rfl, rfl, rfl, Nat.le_refl _, fun _ _ _ => rfl⟩ (by simp) (fun k hk => by cases hk)
theorem three_size (t : ByteArray) (a b c d : Nat) (x : UInt8) (h : t.size ≤ 45) : (t.extract a b ++ ⟨#[x]⟩ ++ t.extract c d).size ≤ 100 := by
  rw [size_app2, size_app2]
  have := ext_size t a b
  have := ext_size t c d
  have : (⟨#[x]⟩ : ByteArray).size = 1 := rfl
  omega
theorem two_size (t : ByteArray) (a b c d : Nat) (h : t.size ≤ 45) : (t.extract a b ++ t.extract c d).size ≤ 100 := by
  rw [size_app2]
  have := ext_size t a b
  have := ext_size t c d
  omega

set_option maxHeartbeats 1600000 in
theorem spoil_any {B : Nat} {w0 : World} {p : Nat} {v : Value} {len : Nat} {w : World} (h : Src B w0 p v len w) (t : ByteArray) (ht : t.size ≤ 45) :
    Calls Tryd.prog 28 #[.pointer (some ⟨p, 0, none⟩), .string t] w (DrewS B w0 p v len w 100) := by
  have HS : Hid (Src B w0 p v len w) := h
  clear h
  go_enter Tryd.func28, Tryd.ntmps28
  go_wp2_with fail
  refine (HS.out.n ((t.size : Int) + 1) (by omega)).mono ?_
  rintro e w1 ⟨r, rfl, r0, r1, hS1, hg1⟩
  obtain ⟨k, rfl⟩ := Int.eq_ofNat_of_zero_le r0
  have hk : k ≤ t.size := by omega
  have HS1 : Hid (Src B w0 p v len w1) := hS1
  have HG1 : Hid (w.grownBy w1 (some p)) := hg1
  clear hS1 hg1 HS r1 r0
  go_wp2_with fail
  refine (HS1.out.n 17 (by decide)).mono ?_
  rintro e w2 ⟨r, rfl, r0, r1, hS2, hg2⟩
  obtain ⟨j, rfl⟩ := Int.eq_ofNat_of_zero_le r0
  have hj : j < 17 := by omega
  have HS2 : Hid (Src B w0 p v len w2) := hS2
  have HG2 : Hid (w.grownBy w2 (some p)) := grown_trans HG1.out hg2
  clear hS2 hg2 HS1 HG1 r1 r0
  have hcv := fun x => conv_byte w2 x
  have hS3 := fun o => HS2.out.keep (grown_alloc w2 o none) (by simp) (fun k hk => by cases hk)
  have HS3 : Hid (∀ o, Src B w0 p v len (w2.alloc o)) := hS3
  have HG3 : Hid (∀ o, w.grownBy (w2.alloc o) (some p)) := fun o => grown_trans HG2.out (grown_alloc w2 o _)
  clear hS3 HS2 HG2
  by_cases hks : k = t.size
  · have hkb : ((k : Int) == (t.size : Int)) = true := by simp [hks]
    have hx1 : ∀ x, (t.extract 0 k).size + (⟨#[x]⟩ : ByteArray).size ≤ 9223372036854775807 := fun x => by
      have := ext_size t 0 k
      have : (⟨#[x]⟩ : ByteArray).size = 1 := rfl
      omega
    have hx2 : ∀ x, (t.extract 0 k ++ ⟨#[x]⟩).size + (t.extract (k) t.size).size ≤ 9223372036854775807 := fun x => by
      rw [size_app2]
      have := ext_size t 0 k
      have := ext_size t (k) t.size
      have : (⟨#[x]⟩ : ByteArray).size = 1 := rfl
      omega
    have HS4 := HS3
    have HG4 := HG3
    go_wp2_with fail
    go_region
    all_goals (go_wp2_with fail; go_ret; exact ⟨_, rfl, end_size t _ ht, (HS4.out _).drew, grown_drew (HG4.out _)⟩)
  · have hkb : ((k : Int) == (t.size : Int)) = false := by simp; omega
    have hkl : k < t.size := by omega
    clear hks
    go_wp2_with fail
    refine (one_any (HS3.out _) 3 (by decide)).mono ?_
    rintro e w3 ⟨he, hS4, hg4⟩
    have HS4 : Hid (Src B w0 p v len w3) := hS4
    have HG4 : Hid (w.grownBy w3 (some p)) := grown_trans (HG3.out _) hg4
    clear hS4 hg4 HS3 HG3 hcv
    rcases he with rfl | rfl
    · have hx1 : ∀ x, (t.extract 0 k).size + (⟨#[x]⟩ : ByteArray).size ≤ 9223372036854775807 := fun x => by
        have := ext_size t 0 k
        have : (⟨#[x]⟩ : ByteArray).size = 1 := rfl
        omega
      have hx2 : ∀ x, (t.extract 0 k ++ ⟨#[x]⟩).size + (t.extract (k) t.size).size ≤ 9223372036854775807 := fun x => by
        rw [size_app2]
        have := ext_size t 0 k
        have := ext_size t (k) t.size
        have : (⟨#[x]⟩ : ByteArray).size = 1 := rfl
        omega
      go_wp2_with fail
      go_region
      all_goals (go_wp2_with fail; go_ret; exact ⟨_, rfl, three_size t _ _ _ _ _ ht, HS4.out.drew, grown_drew HG4.out⟩)
    · go_wp2_with fail
      refine (one_any HS4.out 2 (by decide)).mono ?_
      rintro e w4 ⟨he, hS5, hg5⟩
      have HS5 : Hid (Src B w0 p v len w4) := hS5
      have HG5 : Hid (w.grownBy w4 (some p)) := grown_trans HG4.out hg5
      clear hS5 hg5 HS4 HG4
      rcases he with rfl | rfl
      · have hx1 : (t.extract 0 k).size + (t.extract (k + 1) t.size).size ≤ 9223372036854775807 := by
          have := ext_size t 0 k
          have := ext_size t (k + 1) t.size
          omega
        go_wp2_with fail
        go_region
        all_goals (go_wp2_with fail; go_ret; exact ⟨_, rfl, two_size t _ _ _ _ ht, HS5.out.drew, grown_drew HG5.out⟩)
      · have hx1 : ∀ x, (t.extract 0 k).size + (⟨#[x]⟩ : ByteArray).size ≤ 9223372036854775807 := fun x => by
          have := ext_size t 0 k
          have : (⟨#[x]⟩ : ByteArray).size = 1 := rfl
          omega
        have hx2 : ∀ x, (t.extract 0 k ++ ⟨#[x]⟩).size + (t.extract (k + 1) t.size).size ≤ 9223372036854775807 := fun x => by
          rw [size_app2]
          have := ext_size t 0 k
          have := ext_size t (k + 1) t.size
          have : (⟨#[x]⟩ : ByteArray).size = 1 := rfl
          omega
        go_wp2_with fail
        go_region
        all_goals (go_wp2_with fail; go_ret; exact ⟨_, rfl, three_size t _ _ _ _ _ ht, HS5.out.drew, grown_drew HG5.out⟩)

end Go.Proofs.YtbeocggeakhnnaaDoor
