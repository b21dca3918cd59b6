/-
  What DrawSeal and DrawCrcMore give: some text, some number.
-/
import Derived.Test.YtbnchappillecaaDraw2
import Derived.Test.YtbnchappillecaaCrc
import Derived.Test.YtbnchappillecaaJoin
import Derived.Deep.RegionWith
namespace Go.Proofs.Ytbnchappillecaa
open Go.RowKit

theorem made_zero (n : Nat) : (madeCells #[Value.int IntKind.u8 0] n).toList = Lib.byteCells (List.replicate n 0) := by
  apply List.ext_getElem
  · simp [madeCells, Lib.byteCells]
  · intro i h1 h2
    simp [madeCells, Lib.byteCells, Nat.mod_one]
def edgeL : List Int := [0, 1, -1, 2, 1000, 1001, 2147483648, 2147483647, -2147483648, 4611686018427387904, 9223372036854775807, -9223372036854775808, 1000000, 1000001]
theorem edge_at (k : Nat) (h : k < 14) : ∃ x : Int, (edgeL.map (Value.int .i64))[k]? = some (.int .i64 x) ∧ -9223372036854775808 ≤ x ∧ x ≤ 9223372036854775807 := by
  have hl : k < edgeL.length := h
  have hall : ∀ x ∈ edgeL, -9223372036854775808 ≤ x ∧ x ≤ 9223372036854775807 := by decide
  exact ⟨edgeL[k], by simp [hl], hall _ (List.getElem_mem hl)⟩

/-- A number at an edge was drawn. -/
def DrewEdge (B : Nat) (w0 : World) (p : Nat) (v : Value) (len : Nat) (w : World) (e : Ending) (w' : World) : Prop := ∃ x : Int, e = .returned (.int .i64 x) ∧ -9223372036854775808 ≤ x ∧ x ≤ 9223372036854775807 ∧ Src B w0 p v len w' ∧ w.grownBy w' (some p)

set_option maxHeartbeats 1600000 in
theorem edge_any {B : Nat} {w0 : World} {p : Nat} {v : Value} {len : Nat} {w : World} (h : Src B w0 p v len w) :
    Calls Try.prog 23 #[.pointer (some ⟨p, 0, none⟩)] w (DrewEdge B w0 p v len w) := by
  have HS : Hid (Src B w0 p v len w) := h
  clear h
  go_enter Try.func23, Try.ntmps23
  go_wp2_with fail
  have hS0 := HS.out.keep (grown_alloc w (.cells (edgeL.map (Value.int .i64)).toArray 2) none) (by simp) (fun k hk => by cases hk)
  refine (hS0.n 14 (by decide)).mono ?_
  rintro e w1 ⟨r, rfl, r0, r1, hS1, hg1⟩
  obtain ⟨k, rfl⟩ := Int.eq_ofNat_of_zero_le r0
  have hk : k < 14 := by omega
  obtain ⟨x, hx, x0, x1⟩ := edge_at k hk
  have hpw : p < w.heap.size := HS.out.plt
  have hblk : w1.heap[w.heap.size]? = some (.cells (edgeL.map (Value.int .i64)).toArray 2 (0, 0)) := by
    rw [hg1.block w.heap.size (by simp) (fun e => by simp at e; omega)]
    show (w.heap.push _)[w.heap.size]? = _
    simp
  have hc : w1.cell? ⟨w.heap.size, k, none⟩ = some (.int .i64 x) := by
    simp only [World.cell?, hblk]
    simpa using hx
  have HS1 : Hid (Src B w0 p v len w1) := hS1
  have HG : Hid (w.grownBy w1 (some p)) := grown_trans (grown_alloc w _ _) hg1
  have hki : (k : Int) < 14 := by omega
  clear hS0 hS1 hg1 hblk hx HS r1 r0
  go_wp2
  go_ret
  exact ⟨x, rfl, x0, x1, HS1.out, HG.out⟩

/-- A text was drawn. -/
def DrewT (w : World) (most : Nat) (e : Ending) (w' : World) : Prop := ∃ t : ByteArray, e = .returned (.string t) ∧ t.size ≤ most ∧ Below w.heap.size w w'

set_option maxHeartbeats 1600000 in
theorem drawSeal_any (v : Value) (len : Nat) (w : World) (hR : RowIn w.heap.size w v len) :
    Calls Try.prog 4 #[v] w (DrewT w 20000) := by
  have HL : Hid (Calls Try.prog 13 #[v] w (Laid w v len)) := source_any v len w hR
  go_enter Try.func4, Try.ntmps4
  go_wp2_with fail
  refine HL.out.mono ?_
  rintro e w1 ⟨p, rfl, hS1⟩
  have H1 : Hid (Calls Try.prog 14 #[.pointer (some ⟨p, 0, none⟩), .int .i64 30] w1 (DrewBool w.heap.size w p v len w1)) := one_any hS1 30 (by decide)
  clear hS1 HL hR
  go_wp2_with fail
  refine H1.out.mono ?_
  rintro e w2 ⟨he, hS2, -⟩
  have HS2 : Hid (Src w.heap.size w p v len w2) := hS2
  clear hS2 H1
  rcases he with rfl | rfl
  · go_wp2_with fail
    refine (HS2.out.n 3 (by decide)).mono ?_
    rintro e w3 ⟨r, rfl, r0, r1, hS3, -⟩
    have hb3 := hS3.2.2.1
    have hsz := hb3.size
    clear hS3 HS2
    obtain ⟨k, rfl⟩ := Int.eq_ofNat_of_zero_le r0
    obtain ⟨i0, hi, hz0, hz1, hz2⟩ := info_parts infoByteD
    go_wp2_with (at_make; refine wpList_make_full _ rfl _ _ 22 rfl w.heap.size 5 i0 (.int .u8 0) 1 Try.underlying22 hi hz0 hz1 _ _ _ _ (19995 + k) rfl rfl (by omega) (by omega) (by rw [hz2]; omega) (by unfold maxLen; omega) (by omega) ?_)
    intro w4 hown hgrow
    obtain ⟨hg4, hz, -⟩ := full_row hown
    have hnx : Below w.heap.size w w4 := hb3.grown hgrow hsz (fun k hk => by cases hk)
    have em := made_zero (19995 + k)
    rw [em] at hg4
    have hcv := conv_row (cap := 19995 + k) (List.replicate (19995 + k) 0) (List.length_replicate ..) hg4
    clear hg4 hown hgrow hi hz0 hz1 hz2 em hz
    obtain ⟨t, ht⟩ : ∃ t : ByteArray, t = ⟨(List.replicate (19995 + k) (0 : UInt8)).toArray⟩ := ⟨_, rfl⟩
    have hts : t.size = 19995 + k := by rw [ht]; show (List.replicate (19995 + k) (0 : UInt8)).toArray.size = _; simp
    rw [← ht] at hcv
    clear ht
    go_wp2
    go_ret
    exact ⟨t, rfl, by omega, hnx⟩
  · go_wp2_with fail
    refine (HS2.out.n 20 (by decide)).mono ?_
    rintro e w3 ⟨r, rfl, r0, r1, hS3, -⟩
    have H3 : Hid (Calls Try.prog 16 #[.pointer (some ⟨p, 0, none⟩), .int .i64 r] w3 (DrewText w.heap.size w p v len w3 r)) := bytes_any hS3 r r0 (by omega)
    clear hS3
    go_wp2_with fail
    refine H3.out.mono ?_
    rintro e w4 ⟨t, rfl, ht, hS4, -⟩
    have HB : Hid (Below w.heap.size w w4) := hS4.2.2.1
    clear hS4 H3
    go_wp2
    go_ret
    exact ⟨t, rfl, by omega, HB.out⟩

/-- A number and a text were drawn. -/
def DrewCT (w : World) (e : Ending) (w' : World) : Prop := ∃ (c : Int) (t : ByteArray), e = .returned (.tuple #[.int .i64 c, .string t]) ∧ -9223372036854775808 ≤ c ∧ c ≤ 9223372036854775807 ∧ t.size ≤ 8 ∧ Below w.heap.size w w'

set_option maxHeartbeats 1600000 in
theorem drawCrcMore_any (v : Value) (len : Nat) (w : World) (hR : RowIn w.heap.size w v len) :
    Calls Try.prog 9 #[v] w (DrewCT w) := by
  have HL : Hid (Calls Try.prog 13 #[v] w (Laid w v len)) := source_any v len w hR
  go_enter Try.func9, Try.ntmps9
  go_wp2_with fail
  refine HL.out.mono ?_
  rintro e w1 ⟨p, rfl, hS1⟩
  have H1 : Hid (Src w.heap.size w p v len w1) := hS1
  clear hS1 HL hR
  go_wp2_with fail
  refine (H1.out.n 9 (by decide)).mono ?_
  rintro e w2 ⟨r, rfl, r0, r1, hS2, -⟩
  have H2 : Hid (Calls Try.prog 16 #[.pointer (some ⟨p, 0, none⟩), .int .i64 r] w2 (DrewText w.heap.size w p v len w2 r)) := bytes_any hS2 r r0 (by omega)
  clear hS2 H1
  go_wp2_with fail
  refine H2.out.mono ?_
  rintro e w3 ⟨t, rfl, ht, hS3, -⟩
  have ht8 : t.size ≤ 8 := by omega
  have H3 : Hid (Calls Try.prog 14 #[.pointer (some ⟨p, 0, none⟩), .int .i64 5] w3 (DrewBool w.heap.size w p v len w3)) := one_any hS3 5 (by decide)
  clear hS3 H2 ht r1 r0
  go_wp2_with fail
  refine H3.out.mono ?_
  rintro e w4 ⟨he, hS4, -⟩
  have H4 : Hid (Src w.heap.size w p v len w4) := hS4
  clear hS4 H3
  rcases he with rfl | rfl
  · have H5 : Hid (Calls Try.prog 23 #[.pointer (some ⟨p, 0, none⟩)] w4 (DrewEdge w.heap.size w p v len w4)) := edge_any H4.out
    go_wp2_with fail
    refine H5.out.mono ?_
    rintro e w5 ⟨c, rfl, c0, c1, hS5, -⟩
    have HB : Hid (Below w.heap.size w w5) := hS5.2.2.1
    clear hS5 H5 H4
    go_wp2
    go_ret2
    exact ⟨c, t, rfl, c0, c1, ht8, HB.out⟩
  · go_wp2_with fail
    refine (H4.out.n 9 (by decide)).mono ?_
    rintro e w5 ⟨r', rfl, r0, r1, hS5, -⟩
    have H5 : Hid (Calls Try.prog 16 #[.pointer (some ⟨p, 0, none⟩), .int .i64 r'] w5 (DrewText w.heap.size w p v len w5 r')) := bytes_any hS5 r' r0 (by omega)
    clear hS5 H4
    go_wp2_with fail
    refine H5.out.mono ?_
    rintro e w6 ⟨u, rfl, hu, hS6, -⟩
    have HB : Hid (Below w.heap.size w w6) := hS6.2.2.1
    clear hS6 H5
    go_wp2_with fail
    refine (scrc_any u _).mono ?_
    rintro e w7 ⟨rfl, rfl⟩
    have hcm := crcMore_bd 0 u
    go_wp2
    go_ret2
    exact ⟨crcMore 0 u, t, rfl, by omega, by omega, ht8, HB.out⟩

end Go.Proofs.Ytbnchappillecaa
