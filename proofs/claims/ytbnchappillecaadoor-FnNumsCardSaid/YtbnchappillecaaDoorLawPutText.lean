/-
  The law FnExactPutText, walked: it returns true at every text.
-/
import Derived.Test.YtbnchappillecaaDoorPut
import Derived.Test.YtbnchappillecaaDoorJoin
import Derived.Test.YtbnchappillecaaDoorCrc
namespace Go.Proofs.YtbnchappillecaaDoor
open Go.RowKit

/-- What PutText answers. -/
def putText (t : ByteArray) : ByteArray := if 8000 < t.size then ⟨#[]⟩ else ⟨(Lib.uvarint (zz t.size)).toArray⟩ ++ t
theorem ret_str {a b : ByteArray} (h : a = b) : Ending.returned (.string a) = .returned (.string b) := by rw [h]

set_option maxHeartbeats 800000 in
theorem sputText_any (t : ByteArray) (w : World) :
    Calls Tryd.prog 10 #[.string t] w fun e w' => e = .returned (.string (putText t)) ∧ Below w.heap.size w w' := by
  by_cases h1 : 8000 < t.size
  · have HM : Hid (putText t = ⟨#[]⟩) := by unfold putText; exact if_pos h1
    go_enter Tryd.func10, Tryd.ntmps10
    go_wp2
    go_ret
    exact ⟨ret_str HM.out.symm, Below.refl _ _⟩
  have HM : Hid (putText t = ⟨(Lib.uvarint (zz t.size)).toArray⟩ ++ t) := by unfold putText; exact if_neg h1
  have HC : Hid (∀ w, Calls Tryd.prog 6 #[.int .i64 (t.size : Int)] w fun e w' => e = .returned (.string ⟨(Lib.uvarint (zz t.size)).toArray⟩) ∧ Below w.heap.size w w') := fun w => sput_any _ w (by omega) (by omega)
  have hlen := Lib.uvarint_length64 (zz_bd t.size (by omega) (by omega))
  have hp : (ByteArray.mk (Lib.uvarint (zz t.size)).toArray).size ≤ 10 := hlen
  generalize ByteArray.mk (Lib.uvarint (zz t.size)).toArray = p at *
  clear hlen
  go_enter Tryd.func10, Tryd.ntmps10
  go_wp2_with (go_at_call 6; refine (HC.out _).mono ?_; rintro e w1 ⟨rfl, hb1⟩)
  go_ret
  exact ⟨ret_str HM.out.symm, hb1⟩

set_option maxHeartbeats 800000 in
theorem iputText_any (t : ByteArray) (w : World) :
    Calls Tryd.prog 9 #[.string t] w fun e w' => e = .returned (.string (putText t)) ∧ Below w.heap.size w w' := by
  by_cases h1 : 8000 < t.size
  · have HM : Hid (putText t = ⟨#[]⟩) := by unfold putText; exact if_pos h1
    go_enter Tryd.func9, Tryd.ntmps9
    go_wp2_with (go_at_call 16; refine (long_yes t _ h1).mono ?_; rintro e w1 ⟨rfl, rfl⟩)
    go_ret
    exact ⟨ret_str HM.out.symm, Below.refl _ _⟩
  have HM : Hid (putText t = ⟨(Lib.uvarint (zz t.size)).toArray⟩ ++ t) := by unfold putText; exact if_neg h1
  have HC : Hid (∀ w, Calls Tryd.prog 5 #[.int .i64 (t.size : Int)] w fun e w' => e = .returned (.string ⟨(Lib.uvarint (zz t.size)).toArray⟩) ∧ Below w.heap.size w w') := fun w => iput_any _ w (by omega) (by omega)
  have hlen := Lib.uvarint_length64 (zz_bd t.size (by omega) (by omega))
  have hp : (ByteArray.mk (Lib.uvarint (zz t.size)).toArray).size ≤ 10 := hlen
  generalize ByteArray.mk (Lib.uvarint (zz t.size)).toArray = p at *
  clear hlen
  have HJ : Hid (∀ w, Calls Tryd.prog 22 #[.string p, .string t] w fun e w' => e = .returned (.string (p ++ t)) ∧ Below w.heap.size w w') := fun w => joined_any p t w (by omega)
  go_enter Tryd.func9, Tryd.ntmps9
  go_wp2_with (first | (go_at_call 16; refine (long_no t _ h1).mono ?_; rintro e w1 ⟨rfl, rfl⟩) | (go_at_call 5; refine (HC.out _).mono ?_; rintro e w1 ⟨rfl, hb1⟩) | (go_at_call 22; refine (HJ.out _).mono ?_; rintro e w2 ⟨rfl, hb2⟩))
  go_ret
  exact ⟨ret_str HM.out.symm, hb1.trans (hb2.mono hb1.size)⟩

end Go.Proofs.YtbnchappillecaaDoor
