/-
  What the draws of texts of sizes and shares give: some text.
-/
import Derived.Test.YtbeocggeakhnnaaDoorDraw7
namespace Go.Proofs.YtbeocggeakhnnaaDoor
open Go.RowKit

/-- Some text was drawn. -/
def DrewST (w : World) (e : Ending) (w' : World) : Prop := ∃ t : ByteArray, e = .returned (.string t) ∧ t.size ≤ 100 ∧ Below w.heap.size w w'
theorem mtext_le {l m e : Int} {w0 w1 : ByteArray} {n : Int} (h : m ≤ 1048576 ∧ 0 < e ∧ 0 ≤ l) (hw : w0.size ≤ 2 ∧ w1.size ≤ 2) : (mtext l m e w0 w1 n).size ≤ 45 := by
  unfold mtext
  split
  · show 0 ≤ 45; omega
  · rename_i h1
    split
    · rw [size_app2]
      have h2 : n / e ≤ n := Int.ediv_le_self _ (by omega)
      have := dec_size (n := n / e) (by omega)
      omega
    · rw [size_app2]
      have := dec_size (n := n) (by omega)
      omega
def pickSize : List ByteArray := [⟨#[]⟩, ⟨#[71, 105]⟩, ⟨#[48, 71, 105]⟩, ⟨#[49, 48, 50, 52, 71, 105]⟩, ⟨#[49, 84, 105]⟩, ⟨#[48, 49, 71, 105]⟩, ⟨#[53]⟩, ⟨#[53, 103, 105]⟩, ⟨#[49, 48, 50, 52, 84, 105]⟩, ⟨#[49, 48, 50, 53, 84, 105]⟩]
def pickCpu : List ByteArray := [⟨#[]⟩, ⟨#[109]⟩, ⟨#[48, 109]⟩, ⟨#[49, 48, 48, 48, 109]⟩, ⟨#[49]⟩, ⟨#[48, 49]⟩, ⟨#[53, 48, 48, 109]⟩, ⟨#[49, 48, 48, 48]⟩, ⟨#[49, 48, 48, 49]⟩]

set_option maxHeartbeats 1600000 in
theorem drawSizeRead_any (v : Value) (len : Nat) (w : World) (hR : RowIn w.heap.size w v len) :
    Calls Tryd.prog 12 #[v] w (DrewST w) := by
  have HL : Hid (Calls Tryd.prog 21 #[v] w (Laid w v len)) := source_any v len w hR
  clear hR
  go_enter Tryd.func12, Tryd.ntmps12
  go_wp2_with fail
  refine HL.out.mono ?_
  rintro e w1 ⟨p, rfl, hS1⟩
  have H1 : Hid (Src w.heap.size w p v len w1) := hS1
  clear hS1 HL
  go_wp2_with fail
  refine (l02Size_any H1.out).mono ?_
  rintro e w2 ⟨x, rfl, x0, x1, hS2, -⟩
  have H2 : Hid (Src w.heap.size w p v len w2) := hS2
  clear hS2 H1 x0 x1
  go_wp2_with fail
  refine (ssizetext_any _ _).mono ?_
  rintro e w3 ⟨rfl, hb3⟩
  have H3 : Hid (Src w.heap.size w p v len w3) := H2.out.keep (grown_of_below hb3) (by simp) (fun k hk => by cases hk)
  have ht : (szText x).size ≤ 45 := mtext_le (by decide) (by decide)
  clear H2 hb3
  generalize szText x = t at ht
  go_wp2_with fail
  refine (H3.out.n 4 (by decide)).mono ?_
  rintro e w4 ⟨r, rfl, r0, r1, hS4, -⟩
  have H4 : Hid (Src w.heap.size w p v len w4) := hS4
  clear hS4 H3
  rcases (show r = 0 ∨ r = 1 ∨ r = 2 ∨ r = 3 by omega) with rfl | rfl | rfl | rfl
  · go_wp2_with fail
    refine (spoil_any H4.out t ht).mono ?_
    rintro e w5 ⟨u, rfl, hu, hS5, -⟩
    have HB : Hid (Below w.heap.size w w5) := hS5.2.2.1
    clear hS5 H4
    go_wp2_with fail
    go_ret
    exact ⟨u, rfl, hu, HB.out⟩
  · go_wp2_with fail
    have hS5 := H4.out.keep (grown_alloc w4 (.cells (pickSize.map Value.string).toArray 9) none) (by simp) (fun k hk => by cases hk)
    refine (pick_any hS5 w4.heap.size 10 pickSize 9 (by show (w4.heap.push _)[w4.heap.size]? = _; simp) (by have := H4.out.plt; omega) rfl (by decide) (by decide) (by decide)).mono ?_
    rintro e w5 ⟨u, rfl, hu, hS6, -⟩
    have HB : Hid (Below w.heap.size w w5) := hS6.2.2.1
    clear hS5 hS6 H4
    go_wp2_with fail
    go_ret
    exact ⟨u, rfl, hu, HB.out⟩
  all_goals
    have HB : Hid (Below w.heap.size w w4) := H4.out.2.2.1
    clear H4
    go_wp2_with fail
    go_ret
    exact ⟨t, rfl, by omega, HB.out⟩

set_option maxHeartbeats 1600000 in
theorem drawCpuRead_any (v : Value) (len : Nat) (w : World) (hR : RowIn w.heap.size w v len) :
    Calls Tryd.prog 13 #[v] w (DrewST w) := by
  have HL : Hid (Calls Tryd.prog 21 #[v] w (Laid w v len)) := source_any v len w hR
  clear hR
  go_enter Tryd.func13, Tryd.ntmps13
  go_wp2_with fail
  refine HL.out.mono ?_
  rintro e w1 ⟨p, rfl, hS1⟩
  have H1 : Hid (Src w.heap.size w p v len w1) := hS1
  clear hS1 HL
  go_wp2_with fail
  refine (l02Cpu_any H1.out).mono ?_
  rintro e w2 ⟨x, rfl, x0, x1, hS2, -⟩
  have H2 : Hid (Src w.heap.size w p v len w2) := hS2
  clear hS2 H1 x0 x1
  go_wp2_with fail
  refine (scputext_any _ _).mono ?_
  rintro e w3 ⟨rfl, hb3⟩
  have H3 : Hid (Src w.heap.size w p v len w3) := H2.out.keep (grown_of_below hb3) (by simp) (fun k hk => by cases hk)
  have ht : (cpText x).size ≤ 45 := mtext_le (by decide) (by decide)
  clear H2 hb3
  generalize cpText x = t at ht
  go_wp2_with fail
  refine (H3.out.n 4 (by decide)).mono ?_
  rintro e w4 ⟨r, rfl, r0, r1, hS4, -⟩
  have H4 : Hid (Src w.heap.size w p v len w4) := hS4
  clear hS4 H3
  rcases (show r = 0 ∨ r = 1 ∨ r = 2 ∨ r = 3 by omega) with rfl | rfl | rfl | rfl
  · go_wp2_with fail
    refine (spoil_any H4.out t ht).mono ?_
    rintro e w5 ⟨u, rfl, hu, hS5, -⟩
    have HB : Hid (Below w.heap.size w w5) := hS5.2.2.1
    clear hS5 H4
    go_wp2_with fail
    go_ret
    exact ⟨u, rfl, hu, HB.out⟩
  · go_wp2_with fail
    have hS5 := H4.out.keep (grown_alloc w4 (.cells (pickCpu.map Value.string).toArray 9) none) (by simp) (fun k hk => by cases hk)
    refine (pick_any hS5 w4.heap.size 9 pickCpu 9 (by show (w4.heap.push _)[w4.heap.size]? = _; simp) (by have := H4.out.plt; omega) rfl (by decide) (by decide) (by decide)).mono ?_
    rintro e w5 ⟨u, rfl, hu, hS6, -⟩
    have HB : Hid (Below w.heap.size w w5) := hS6.2.2.1
    clear hS5 hS6 H4
    go_wp2_with fail
    go_ret
    exact ⟨u, rfl, hu, HB.out⟩
  all_goals
    have HB : Hid (Below w.heap.size w w4) := H4.out.2.2.1
    clear H4
    go_wp2_with fail
    go_ret
    exact ⟨t, rfl, by omega, HB.out⟩

end Go.Proofs.YtbeocggeakhnnaaDoor
