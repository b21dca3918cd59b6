/-
  SizeRead and CpuRead of the program; two answers held against each other.
-/
import Derived.Test.YtbpnmhebhmakdaaDoorIRead
namespace Go.Proofs.YtbpnmhebhmakdaaDoor
open Go.RowKit

set_option maxHeartbeats 400000 in
theorem iCpuRead_any (s : ByteArray) (w : World) (hs : s.size ≤ 9223372036854775807) (ht : ptab w) :
    Calls Tryd.prog 14 #[.string s] w (RdAns cpText s w) := by
  have HT : Hid (ptab w) := ht
  clear ht
  go_enter Tryd.func14, Tryd.ntmps14
  go_wp2_with fail
  refine (icpu_meas _).mono ?_
  rintro e w1 ⟨rfl, hb1⟩
  go_wp2_with fail
  refine (icpuread_any s _ hs (HT.out.below (((Below.refl _ _).alloc (Nat.le_refl _) _).trans (hb1.mono (by simp))))).mono ?_
  rintro e w2 ⟨a, c, rfl, hr, hb2⟩
  have HR : Hid (RdIs cpText s a c) := hr
  obtain ⟨c0, c1, c2, f0, f1, f2, hb, hz⟩ := slot3 (w := w) (w1 := w2) rfl rfl rfl rfl (hb1.trans (hb2.mono hb1.size))
  clear hr hb1 hb2
  go_wp2_with fail
  exact bodyPost_ret (v := .agg #[.int .i64 a, .int .i64 0, .int .i64 c]) (by simp [results, Tryd.results14, go_sem, *]) rfl ⟨_, _, rfl, HR.out, ((hb.setCell (Nat.le_refl _) _).setCell (Nat.le_refl _) _).setCell (Nat.le_refl _) _⟩

end Go.Proofs.YtbpnmhebhmakdaaDoor
