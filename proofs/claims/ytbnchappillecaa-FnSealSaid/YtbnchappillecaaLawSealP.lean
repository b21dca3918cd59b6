/-
  The law FnSeal, walked: whatever bytes are drawn from, it returns true.
-/
import Derived.Test.YtbnchappillecaaSealTurn
import Derived.Test.YtbnchappillecaaDraw3
namespace Go.Proofs.Ytbnchappillecaa
open Go.RowKit

theorem RowIn.go {w w' : World} {v : Value} {len : Nat} (h : RowIn w.heap.size w v len) (hb : Below w.heap.size w w') : RowIn w'.heap.size w' v len := by
  obtain ⟨hl, a0, cap, hv, hc⟩ := h.below hb
  refine ⟨hl, a0, cap, hv, fun j hj => ?_⟩
  obtain ⟨b, off, z, h1, h2, h3⟩ := hc j hj
  exact ⟨b, off, z, h1, Nat.lt_of_lt_of_le h2 hb.size, h3⟩

/-- A number of the code: below most, or 0. -/
def LwAns (most : Int) (w : World) (e : Ending) (w' : World) : Prop := ∃ r : Nat, e = .returned (.int .i64 (r : Int)) ∧ ((r : Int) < most ∨ r = 0) ∧ w = w'

set_option maxHeartbeats 800000 in
theorem lwAt_in (b off len cap idx : Nat) (A most z : Int) (w : World) (hA : A % (len : Int) = (idx : Int)) (A0 : 0 ≤ A) (A1 : A ≤ 1) (hlen : len ≤ 140737488355328) (hi : idx < len) (hm : 1 < most) (hm2 : most ≤ 1048576) (hz : w.cell? ⟨b, off + idx, none⟩ = some (.int .u8 z)) (z0 : 0 ≤ z) (z1 : z ≤ 255) :
    Calls Try.prog 7 #[.slice (some ⟨b, off, none⟩) len cap, .int .i64 A, .int .i64 most] w (LwAns most w) := by
  have h0b : ((len : Int) == 0) = false := by simp; omega
  have hl0 : 0 < (len : Int) := by omega
  go_enter Try.func7, Try.ntmps7
  go_wp2
  go_ret
  refine ⟨(z % most).toNat, ?_, .inl ?_, rfl⟩
  · have := Int.emod_nonneg z (show most ≠ 0 by omega)
    rw [Int.toNat_of_nonneg this]
    rfl
  · have h2 := Int.emod_nonneg z (show most ≠ 0 by omega)
    have h3 := Int.emod_lt_of_pos z (show 0 < most by omega)
    omega

set_option maxHeartbeats 800000 in
theorem lwAt_any (B : Nat) (v : Value) (len : Nat) (A most : Int) (w : World) (hR : RowIn B w v len) (A0 : 0 ≤ A) (A1 : A ≤ 1) (hm : most ≤ 1048576) :
    Calls Try.prog 7 #[v, .int .i64 A, .int .i64 most] w (LwAns most w) := by
  obtain ⟨hl, a0, cap, rfl, hc⟩ := hR
  by_cases h1 : most ≤ 1
  · clear hc
    go_enter Try.func7, Try.ntmps7
    go_wp2
    go_ret
    exact ⟨0, rfl, .inr rfl, rfl⟩
  by_cases h0 : len = 0
  · clear hc
    have h0b : ((len : Int) == 0) = true := by simp [h0]
    go_enter Try.func7, Try.ntmps7
    go_wp2
    go_ret
    exact ⟨0, rfl, .inr rfl, rfl⟩
  have hn := Int.emod_nonneg A (show (len : Int) ≠ 0 by omega)
  have hlt := Int.emod_lt_of_pos A (show 0 < (len : Int) by omega)
  obtain ⟨idx, hidx⟩ := Int.eq_ofNat_of_zero_le hn
  obtain ⟨b, off, z, rfl, _, hz, z0, z1⟩ := hc idx (by omega)
  exact lwAt_in b off len cap idx A most z w hidx A0 A1 hl (by omega) (by omega) hm hz z0 z1

end Go.Proofs.Ytbnchappillecaa
