/-
  What the draws of sizes, shares and their texts give: some number, some text.
-/
import Derived.Test.YtbeocggeakhnnaaDoorDraw2
import Derived.Test.YtbeocggeakhnnaaDoorQText
import Derived.Deep.RegionWith
namespace Go.Proofs.YtbeocggeakhnnaaDoor
open Go.RowKit

/-- Some number was drawn. -/
def DrewI (B : Nat) (w0 : World) (p : Nat) (v : Value) (len : Nat) (w : World) (e : Ending) (w' : World) : Prop := ∃ x : Int, e = .returned (.int .i64 x) ∧ -9223372036854775808 ≤ x ∧ x ≤ 9223372036854775807 ∧ Src B w0 p v len w' ∧ w.grownBy w' (some p)
theorem grown_of_below {w w' : World} (h : Below w.heap.size w w') : w.grownBy w' none := ⟨h.os, h.tape, h.output, h.size, fun k hk _ => h.block k hk⟩
theorem ints_at (l : List Int) (hall : ∀ x ∈ l, -9223372036854775808 ≤ x ∧ x ≤ 9223372036854775807) (k : Nat) (h : k < l.length) : ∃ x : Int, (l.map (Value.int .i64))[k]? = some (.int .i64 x) ∧ -9223372036854775808 ≤ x ∧ x ≤ 9223372036854775807 :=
  ⟨l[k], by simp [h], hall _ (List.getElem_mem h)⟩
def sizeL : List Int := [0, 1, 1023, 1024, 2048, 1048576, 1048577, -1024]
def cpuL : List Int := [-1, 0, 1000, 1000000, 1000001]

set_option maxHeartbeats 1600000 in
theorem l02Size_any {B : Nat} {w0 : World} {p : Nat} {v : Value} {len : Nat} {w : World} (h : Src B w0 p v len w) :
    Calls Tryd.prog 22 #[.pointer (some ⟨p, 0, none⟩)] w (DrewI B w0 p v len w) := by
  have H1 : Hid (Calls Tryd.prog 35 #[.pointer (some ⟨p, 0, none⟩), .int .i64 6] w (DrewBool B w0 p v len w)) := one_any h 6 (by decide)
  clear h
  go_enter Tryd.func22, Tryd.ntmps22
  go_wp2_with fail
  refine H1.out.mono ?_
  rintro e w1 ⟨he, hS1, hg1⟩
  have HS1 : Hid (Src B w0 p v len w1) := hS1
  have HG1 : Hid (w.grownBy w1 (some p)) := hg1
  clear hS1 hg1 H1
  rcases he with rfl | rfl
  · go_wp2_with fail
    have hS0 := HS1.out.keep (grown_alloc w1 (.cells (sizeL.map (Value.int .i64)).toArray 2) none) (by simp) (fun k hk => by cases hk)
    refine (hS0.n 8 (by decide)).mono ?_
    rintro e w2 ⟨r, rfl, r0, r1, hS2, hg2⟩
    obtain ⟨k, rfl⟩ := Int.eq_ofNat_of_zero_le r0
    have hk : k < 8 := by omega
    obtain ⟨x, hx, x0, x1⟩ := ints_at sizeL (by decide) k hk
    have hpw : p < w1.heap.size := HS1.out.plt
    have hblk : w2.heap[w1.heap.size]? = some (.cells (sizeL.map (Value.int .i64)).toArray 2 (0, 0)) := by
      rw [hg2.block w1.heap.size (by simp) (fun e => by simp at e; omega)]
      show (w1.heap.push _)[w1.heap.size]? = _
      simp
    have hc : w2.cell? ⟨w1.heap.size, k, none⟩ = some (.int .i64 x) := by
      simp only [World.cell?, hblk]
      simpa using hx
    have HS2 : Hid (Src B w0 p v len w2) := hS2
    have HG : Hid (w.grownBy w2 (some p)) := grown_trans HG1.out (grown_trans (grown_alloc w1 _ _) hg2)
    have hki : (k : Int) < 8 := by omega
    clear hS0 hS2 hg2 hblk hx HS1 HG1 r1 r0
    go_wp2
    go_ret
    exact ⟨x, rfl, x0, x1, HS2.out, HG.out⟩
  · go_wp2_with fail
    refine (HS1.out.n 90 (by decide)).mono ?_
    rintro e w2 ⟨r, rfl, r0, r1, hS2, hg2⟩
    have HS2 : Hid (Src B w0 p v len w2) := hS2
    have HG2 : Hid (w.grownBy w2 (some p)) := grown_trans HG1.out hg2
    have hr : r ≤ 90 := by omega
    clear hS2 hg2 HS1 HG1 r1
    go_wp2
    go_ret
    exact ⟨1 + r, rfl, by omega, by omega, HS2.out, HG2.out⟩

/-- Some number was drawn out of code. -/
def DrewISize (w : World) (e : Ending) (w' : World) : Prop := ∃ n : Int, e = .returned (.int .i64 n) ∧ -9223372036854775808 ≤ n ∧ n ≤ 9223372036854775807 ∧ Below w.heap.size w w'
set_option maxHeartbeats 800000 in
theorem drawSizeText_any (v : Value) (len : Nat) (w : World) (hR : RowIn w.heap.size w v len) :
    Calls Tryd.prog 8 #[v] w (DrewISize w) := by
  have HL : Hid (Calls Tryd.prog 21 #[v] w (Laid w v len)) := source_any v len w hR
  clear hR
  go_enter Tryd.func8, Tryd.ntmps8
  go_wp2_with fail
  refine HL.out.mono ?_
  rintro e w1 ⟨p, rfl, hS1⟩
  have H1 : Hid (Src w.heap.size w p v len w1) := hS1
  clear hS1 HL
  go_wp2_with fail
  refine (l02Size_any H1.out).mono ?_
  rintro e w2 ⟨x, rfl, x0, x1, hS2, -⟩
  have HB : Hid (Below w.heap.size w w2) := hS2.2.2.1
  clear hS2 H1
  go_wp2
  go_ret
  exact ⟨x, rfl, x0, x1, HB.out⟩

set_option maxHeartbeats 1600000 in
theorem l02Cpu_any {B : Nat} {w0 : World} {p : Nat} {v : Value} {len : Nat} {w : World} (h : Src B w0 p v len w) :
    Calls Tryd.prog 23 #[.pointer (some ⟨p, 0, none⟩)] w (DrewI B w0 p v len w) := by
  have H1 : Hid (Calls Tryd.prog 35 #[.pointer (some ⟨p, 0, none⟩), .int .i64 6] w (DrewBool B w0 p v len w)) := one_any h 6 (by decide)
  clear h
  go_enter Tryd.func23, Tryd.ntmps23
  go_wp2_with fail
  refine H1.out.mono ?_
  rintro e w1 ⟨he, hS1, hg1⟩
  have HS1 : Hid (Src B w0 p v len w1) := hS1
  have HG1 : Hid (w.grownBy w1 (some p)) := hg1
  clear hS1 hg1 H1
  rcases he with rfl | rfl
  · go_wp2_with fail
    have hS0 := HS1.out.keep (grown_alloc w1 (.cells (cpuL.map (Value.int .i64)).toArray 2) none) (by simp) (fun k hk => by cases hk)
    refine (hS0.n 5 (by decide)).mono ?_
    rintro e w2 ⟨r, rfl, r0, r1, hS2, hg2⟩
    obtain ⟨k, rfl⟩ := Int.eq_ofNat_of_zero_le r0
    have hk : k < 5 := by omega
    obtain ⟨x, hx, x0, x1⟩ := ints_at cpuL (by decide) k hk
    have hpw : p < w1.heap.size := HS1.out.plt
    have hblk : w2.heap[w1.heap.size]? = some (.cells (cpuL.map (Value.int .i64)).toArray 2 (0, 0)) := by
      rw [hg2.block w1.heap.size (by simp) (fun e => by simp at e; omega)]
      show (w1.heap.push _)[w1.heap.size]? = _
      simp
    have hc : w2.cell? ⟨w1.heap.size, k, none⟩ = some (.int .i64 x) := by
      simp only [World.cell?, hblk]
      simpa using hx
    have HS2 : Hid (Src B w0 p v len w2) := hS2
    have HG : Hid (w.grownBy w2 (some p)) := grown_trans HG1.out (grown_trans (grown_alloc w1 _ _) hg2)
    have hki : (k : Int) < 5 := by omega
    clear hS0 hS2 hg2 hblk hx HS1 HG1 r1 r0
    go_wp2
    go_ret
    exact ⟨x, rfl, x0, x1, HS2.out, HG.out⟩
  · go_wp2_with fail
    refine (HS1.out.n 90 (by decide)).mono ?_
    rintro e w2 ⟨r, rfl, r0, r1, hS2, hg2⟩
    have HS2 : Hid (Src B w0 p v len w2) := hS2
    have HG2 : Hid (w.grownBy w2 (some p)) := grown_trans HG1.out hg2
    have hr : r ≤ 90 := by omega
    clear hS2 hg2 HS1 HG1 r1
    go_wp2
    go_ret
    exact ⟨50 * r, rfl, by omega, by omega, HS2.out, HG2.out⟩

/-- Some number was drawn out of code. -/
def DrewICpu (w : World) (e : Ending) (w' : World) : Prop := ∃ n : Int, e = .returned (.int .i64 n) ∧ -9223372036854775808 ≤ n ∧ n ≤ 9223372036854775807 ∧ Below w.heap.size w w'
set_option maxHeartbeats 800000 in
theorem drawCpuText_any (v : Value) (len : Nat) (w : World) (hR : RowIn w.heap.size w v len) :
    Calls Tryd.prog 9 #[v] w (DrewICpu w) := by
  have HL : Hid (Calls Tryd.prog 21 #[v] w (Laid w v len)) := source_any v len w hR
  clear hR
  go_enter Tryd.func9, Tryd.ntmps9
  go_wp2_with fail
  refine HL.out.mono ?_
  rintro e w1 ⟨p, rfl, hS1⟩
  have H1 : Hid (Src w.heap.size w p v len w1) := hS1
  clear hS1 HL
  go_wp2_with fail
  refine (l02Cpu_any H1.out).mono ?_
  rintro e w2 ⟨x, rfl, x0, x1, hS2, -⟩
  have HB : Hid (Below w.heap.size w w2) := hS2.2.2.1
  clear hS2 H1
  go_wp2
  go_ret
  exact ⟨x, rfl, x0, x1, HB.out⟩

end Go.Proofs.YtbeocggeakhnnaaDoor
