/-
  What DrawPutNum and DrawPutText give: some number, some text.
-/
import Derived.Test.YtbnchappillecaaDoorDraw3
namespace Go.Proofs.YtbnchappillecaaDoor
open Go.RowKit

set_option maxHeartbeats 800000 in
theorem any_any {B : Nat} {w0 : World} {p : Nat} {v : Value} {len : Nat} {w : World} (h : Src B w0 p v len w) :
    Calls Tryd.prog 13 #[.pointer (some ⟨p, 0, none⟩)] w (DrewEdge B w0 p v len w) := by
  have H1 : Hid (Calls Tryd.prog 19 #[.pointer (some ⟨p, 0, none⟩), .int .i64 4] w (DrewBool B w0 p v len w)) := one_any h 4 (by decide)
  clear h
  go_enter Tryd.func13, Tryd.ntmps13
  go_wp2_with fail
  refine H1.out.mono ?_
  rintro e w1 ⟨he, hS1, hg1⟩
  have HS1 : Hid (Src B w0 p v len w1) := hS1
  have HG1 : Hid (w.grownBy w1 (some p)) := hg1
  clear hS1 hg1 H1
  rcases he with rfl | rfl
  · go_wp2_with fail
    refine (edge_any HS1.out).mono ?_
    rintro e w2 ⟨x, rfl, x0, x1, hS2, hg2⟩
    have HS2 : Hid (Src B w0 p v len w2) := hS2
    have HG2 : Hid (w.grownBy w2 (some p)) := grown_trans HG1.out hg2
    clear hS2 hg2 HS1 HG1
    go_wp2
    go_ret
    exact ⟨x, rfl, x0, x1, HS2.out, HG2.out⟩
  · go_wp2_with fail
    refine (HS1.out.n 1099511627776 (by decide)).mono ?_
    rintro e w2 ⟨r, rfl, r0, r1, hS2, hg2⟩
    have HS2 : Hid (Src B w0 p v len w2) := hS2
    have HG2 : Hid (w.grownBy w2 (some p)) := grown_trans HG1.out hg2
    have hr : r ≤ 1099511627776 := by omega
    clear hS2 hg2 HS1 HG1 r1
    go_wp2
    go_ret
    exact ⟨r - 1048576, rfl, by omega, by omega, HS2.out, HG2.out⟩

/-- A number was drawn. -/
def DrewN (w : World) (e : Ending) (w' : World) : Prop := ∃ n : Int, e = .returned (.int .i64 n) ∧ -9223372036854775808 ≤ n ∧ n ≤ 9223372036854775807 ∧ Below w.heap.size w w'

set_option maxHeartbeats 800000 in
theorem drawPutNum_any (v : Value) (len : Nat) (w : World) (hR : RowIn w.heap.size w v len) :
    Calls Tryd.prog 4 #[v] w (DrewN w) := by
  have HL : Hid (Calls Tryd.prog 12 #[v] w (Laid w v len)) := source_any v len w hR
  clear hR
  go_enter Tryd.func4, Tryd.ntmps4
  go_wp2_with fail
  refine HL.out.mono ?_
  rintro e w1 ⟨p, rfl, hS1⟩
  have H1 : Hid (Src w.heap.size w p v len w1) := hS1
  clear hS1 HL
  go_wp2_with fail
  refine (any_any H1.out).mono ?_
  rintro e w2 ⟨x, rfl, x0, x1, hS2, -⟩
  have HB : Hid (Below w.heap.size w w2) := hS2.2.2.1
  clear hS2 H1
  go_wp2
  go_ret
  exact ⟨x, rfl, x0, x1, HB.out⟩

set_option maxHeartbeats 1600000 in
theorem drawPutText_any (v : Value) (len : Nat) (w : World) (hR : RowIn w.heap.size w v len) :
    Calls Tryd.prog 8 #[v] w (DrewT w 20004) := by
  have HL : Hid (Calls Tryd.prog 12 #[v] w (Laid w v len)) := source_any v len w hR
  go_enter Tryd.func8, Tryd.ntmps8
  go_wp2_with fail
  refine HL.out.mono ?_
  rintro e w1 ⟨p, rfl, hS1⟩
  have H1 : Hid (Calls Tryd.prog 19 #[.pointer (some ⟨p, 0, none⟩), .int .i64 8] w1 (DrewBool w.heap.size w p v len w1)) := one_any hS1 8 (by decide)
  clear hS1 HL hR
  go_wp2_with fail
  refine H1.out.mono ?_
  rintro e w2 ⟨he, hS2, -⟩
  have HS2 : Hid (Src w.heap.size w p v len w2) := hS2
  clear hS2 H1
  rcases he with rfl | rfl
  · go_wp2_with fail
    refine (HS2.out.n 3 (by decide)).mono ?_
    rintro e w3 ⟨r, rfl, r0, r1, hS3, -⟩
    have hb3 := hS3.2.2.1
    have hsz := hb3.size
    clear hS3 HS2
    obtain ⟨k, rfl⟩ := Int.eq_ofNat_of_zero_le r0
    obtain ⟨i0, hi, hz0, hz1, hz2⟩ := info_parts infoByteD
    go_wp2_with (at_make; refine wpList_make_full _ rfl _ _ 22 rfl w.heap.size 5 i0 (.int .u8 0) 1 Tryd.underlying22 hi hz0 hz1 _ _ _ _ (19999 + k) rfl rfl (by omega) (by omega) (by rw [hz2]; omega) (by unfold maxLen; omega) (by omega) ?_)
    intro w4 hown hgrow
    obtain ⟨hg4, hz, -⟩ := full_row hown
    have hnx : Below w.heap.size w w4 := hb3.grown hgrow hsz (fun k hk => by cases hk)
    have em := made_zero (19999 + k)
    rw [em] at hg4
    have hcv := conv_row (cap := 19999 + k) (List.replicate (19999 + k) 0) (List.length_replicate ..) hg4
    clear hg4 hown hgrow hi hz0 hz1 hz2 em hz
    obtain ⟨t, ht⟩ : ∃ t : ByteArray, t = ⟨(List.replicate (19999 + k) (0 : UInt8)).toArray⟩ := ⟨_, rfl⟩
    have hts : t.size = 19999 + k := by rw [ht]; show (List.replicate (19999 + k) (0 : UInt8)).toArray.size = _; simp
    rw [← ht] at hcv
    clear ht
    go_wp2
    go_ret
    exact ⟨t, rfl, by omega, hnx⟩
  · go_wp2_with fail
    refine (HS2.out.n 20 (by decide)).mono ?_
    rintro e w3 ⟨r, rfl, r0, r1, hS3, -⟩
    have H3 : Hid (Calls Tryd.prog 21 #[.pointer (some ⟨p, 0, none⟩), .int .i64 r] w3 (DrewText w.heap.size w p v len w3 r)) := bytes_any hS3 r r0 (by omega)
    clear hS3
    go_wp2_with fail
    refine H3.out.mono ?_
    rintro e w4 ⟨t, rfl, ht, hS4, -⟩
    have HB : Hid (Below w.heap.size w w4) := hS4.2.2.1
    clear hS4 H3
    go_wp2
    go_ret
    exact ⟨t, rfl, by omega, HB.out⟩

end Go.Proofs.YtbnchappillecaaDoor
