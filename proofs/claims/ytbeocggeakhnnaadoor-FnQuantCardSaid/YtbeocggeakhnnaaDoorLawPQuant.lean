/-
  The law FnQuant, walked: it returns true at whatever two slices of bytes.
-/
import Derived.Test.YtbeocggeakhnnaaDoorJRead
import Derived.Test.YtbeocggeakhnnaaDoorDraw8
import Derived.Test.YtbeocggeakhnnaaDoorIsRow
import Derived.Deep.Cut
import Derived.Deep.CutRange
namespace Go.Proofs.YtbeocggeakhnnaaDoor
open Go.RowKit

theorem RowIn.up {B B' : Nat} {w : World} {v : Value} {len : Nat} (h : RowIn B w v len) (hB : B ≤ B') : RowIn B' w v len := by
  obtain ⟨h1, a0, cap, h2, h3⟩ := h
  exact ⟨h1, a0, cap, h2, fun j hj => by obtain ⟨b, off, z, h4, h5, h6⟩ := h3 j hj; exact ⟨b, off, z, h4, by omega, h6⟩⟩
/-- What stands behind each call: nothing old has turned. -/
structure Stand (w wr : World) : Prop where
  hb : Below w.heap.size w wr
theorem Stand.next {w wr wx : World} (h : Stand w wr) (hb : Below wr.heap.size wr wx) : Stand w wx := ⟨h.hb.trans (hb.mono h.hb.size)⟩
theorem Stand.row {w wr : World} (h : Stand w wr) {v : Value} {len : Nat} (hR : RowIn w.heap.size w v len) : RowIn wr.heap.size wr v len := (hR.below h.hb).up h.hb.size
theorem Stand.tab {w wr : World} (h : Stand w wr) (ht : ptab w) : ptab wr := ht.below h.hb

/-- The two answers lie at bx and behind it. -/
structure XY (bx : Nat) (xa xc ya yc : Int) (w wr : World) : Prop where
  st : Stand w wr
  hx : wr.heap[bx]? = some (.cells #[.int .i64 xa, .int .i64 0, .int .i64 xc] 27 (0, 0))
  hy : wr.heap[bx + 1]? = some (.cells #[.int .i64 ya, .int .i64 0, .int .i64 yc] 27 (0, 0))
  hsz : bx + 2 ≤ wr.heap.size
theorem XY.next {bx : Nat} {xa xc ya yc : Int} {w wr wx : World} (h : XY bx xa xc ya yc w wr) (hb : Below wr.heap.size wr wx) : XY bx xa xc ya yc w wx := by
  have h1 := h.hsz
  have h2 := hb.size
  exact ⟨h.st.next hb, by rw [hb.block _ (by omega)]; exact h.hx, by rw [hb.block _ (by omega)]; exact h.hy, by omega⟩
theorem XY.start {w wr : World} (h : Stand w wr) (xa xc ya yc : Int) : XY wr.heap.size xa xc ya yc w ((wr.alloc (.cells #[.int .i64 xa, .int .i64 0, .int .i64 xc] 27)).alloc (.cells #[.int .i64 ya, .int .i64 0, .int .i64 yc] 27)) := by
  refine ⟨(h.next ((Below.refl _ _).alloc (Nat.le_refl _) _)).next ((Below.refl _ _).alloc (Nat.le_refl _) _), ?_, ?_, by simp⟩
  · rw [Below.heap_alloc _ _ _ (by simp)]
    show (wr.heap.push _)[wr.heap.size]? = _
    simp
  · show ((wr.heap.push _).push _)[wr.heap.size + 1]? = _
    rw [Array.getElem?_push, if_pos (by simp)]
theorem XY.cells {bx : Nat} {xa xc ya yc : Int} {w wr : World} (h : XY bx xa xc ya yc w wr) :
    wr.cell? ⟨bx, 0, none⟩ = some (.int .i64 xa) ∧ wr.cell? ⟨bx, 1, none⟩ = some (.int .i64 0) ∧ wr.cell? ⟨bx, 2, none⟩ = some (.int .i64 xc) ∧
    wr.cell? ⟨bx + 1, 0, none⟩ = some (.int .i64 ya) ∧ wr.cell? ⟨bx + 1, 1, none⟩ = some (.int .i64 0) ∧ wr.cell? ⟨bx + 1, 2, none⟩ = some (.int .i64 yc) :=
  ⟨cell_of h.hx 0, cell_of h.hx 1, cell_of h.hx 2, cell_of h.hy 0, cell_of h.hy 1, cell_of h.hy 2⟩
theorem ne_size {s : ByteArray} (h : ¬ s = ⟨#[]⟩) : 0 < s.size := by
  rcases Nat.eq_zero_or_pos s.size with h1 | h1
  · exact absurd (bytes_ext (List.eq_nil_of_length_eq_zero (by rw [← Lib.size_eq]; exact h1))) h
  · exact h1
theorem rd_back {t : Int → ByteArray} (hi : ∀ a b, t a = t b → ¬ t a = ⟨#[]⟩ → a = b) {a x c : Int} (hs : (t a).size ≤ 8000) (hne : ¬ t a = ⟨#[]⟩) (h : RdIs t (t a) x c) : a = x ∧ 0 = c :=
  RdIs.same hi (rd_yes hs hne rfl) h
theorem rd_code {t : Int → ByteArray} {s : ByteArray} {a c : Int} (h : RdIs t s a c) (hc : c = 0) : t a = s := by
  rcases h with ⟨_, _, h⟩ | ⟨_, _, h, _⟩ | ⟨_, _, _, h⟩
  · omega
  · exact h
  · omega

set_option maxHeartbeats 3200000 in
theorem fnQuant_go (c m : Value) (n0 n1 : Nat) (w : World) (hc : ∃ a cap, c = .slice a n0 cap) (hm : ∃ a cap, m = .slice a n1 cap) (R0 : RowIn w.heap.size w c n0) (R1 : RowIn w.heap.size w m n1) (h0 : n0 ≤ 1048576) (h1 : n1 ≤ 1048576) (ht : ptab w) :
    Calls Tryd.prog 3 #[c, m] w fun e w' => e = .returned (.bool true) ∧ Below w.heap.size w w' := by
  obtain ⟨ac, cc, rfl⟩ := hc
  obtain ⟨am, cm, rfl⟩ := hm
  have HR0 : Hid (RowIn w.heap.size w (.slice ac n0 cc) n0) := R0
  have HR1 : Hid (RowIn w.heap.size w (.slice am n1 cm) n1) := R1
  have HT : Hid (ptab w) := ht
  clear R0 R1 ht
  go_enter Tryd.func3, Tryd.ntmps3
  go_wp2_with fail
  refine (drawSizeText_any _ n0 _ HR0.out).mono ?_
  rintro e w1 ⟨a, rfl, a0, a1, hb⟩
  have S1 : Hid (Stand w w1) := ⟨hb⟩
  clear hb
  go_wp2_with fail
  refine (drawCpuText_any _ n0 _ (S1.out.row HR0.out)).mono ?_
  rintro e w2 ⟨b, rfl, b0, b1, hb⟩
  have S2 : Hid (Stand w w2) := S1.out.next hb
  clear hb S1 a0 a1 b0 b1
  go_wp2_with fail
  refine (isizeText_any a _ (S2.out.tab HT.out)).mono ?_
  rintro e w3 ⟨rfl, hb⟩
  have S3 : Hid (Stand w w3) := S2.out.next hb
  clear hb S2
  go_wp2_with fail
  refine (icpuText_any b _ (S3.out.tab HT.out)).mono ?_
  rintro e w4 ⟨rfl, hb⟩
  have S4 : Hid (Stand w w4) := S3.out.next hb
  clear hb S3
  go_wp2_with fail
  refine (drawSizeRead_any _ n1 _ (S4.out.row HR1.out)).mono ?_
  rintro e w5 ⟨tv, rfl, htv, hb⟩
  have S5 : Hid (Stand w w5) := S4.out.next hb
  clear hb S4
  go_wp2_with fail
  refine (drawCpuRead_any _ n1 _ (S5.out.row HR1.out)).mono ?_
  rintro e w6 ⟨tw, rfl, htw, hb⟩
  have S6 : Hid (Stand w w6) := S5.out.next hb
  clear hb S5
  go_wp2_with fail
  refine (iSizeRead_any tv _ (by omega) (S6.out.tab HT.out)).mono ?_
  rintro e w7 ⟨xa, xc, rfl, hx, hb⟩
  have HX : Hid (RdIs szText tv xa xc) := hx
  have S7 : Hid (Stand w w7) := S6.out.next hb
  clear hb S6 hx
  go_wp2_with fail
  refine (iCpuRead_any tw _ (by omega) (S7.out.tab HT.out)).mono ?_
  rintro e w8 ⟨ya, yc, rfl, hy, hb⟩
  have HY : Hid (RdIs cpText tw ya yc) := hy
  have S8 : Hid (Stand w w8) := S7.out.next hb
  clear hb S7 hy HR0 HR1
  go_wp2_with fail
  have hX9 := XY.start S8.out xa xc ya yc
  refine wp_forget (XY w8.heap.size xa xc ya yc w) hX9 ?_
  clear hX9 S8
  intro w9 h9
  generalize w8.heap.size = bx at *
  have H9 : Hid (XY bx xa xc ya yc w w9) := h9
  obtain ⟨p0, p1, p2, q0, q1, q2⟩ := h9.cells
  clear h9
  go_cut [58] from 37 to 58 (fun r wx => r = .bool false ∧ XY bx xa xc ya yc w wx)
  case first =>
    go_region_with (first
      | (go_at_call 16; refine (ssizetext_any a _).mono ?_; rintro e wA ⟨rfl, hbA⟩; have hA := H9.out.next (below_of_drew hbA); have HA : Hid (XY bx xa xc ya yc w wA) := hA; clear hbA; obtain ⟨a0, a1, a2, d0, d1, d2⟩ := hA.cells; clear hA)
      | (go_at_call 17; refine (scputext_any b _).mono ?_; rintro e wB ⟨rfl, hbB⟩; have hB := HA.out.next hbB; have HB : Hid (XY bx xa xc ya yc w wB) := hB; clear hbB; obtain ⟨a0, a1, a2, d0, d1, d2⟩ := hB.cells; clear hB)
      | (go_at_call 18; refine (ssizeread_any tv _ (by omega)).mono ?_; rintro e wC ⟨xa', xc', rfl, hr, hbC⟩; obtain ⟨rfl, rfl⟩ := HX.out.same sz_inj hr; clear hr; have hC := HB.out.next hbC; have HC : Hid (XY bx xa xc ya yc w wC) := hC; clear hbC; obtain ⟨a0, a1, a2, d0, d1, d2⟩ := hC.cells; clear hC)
      | (go_at_call 19; refine (scpuread_any tw _ (by omega)).mono ?_; rintro e wD ⟨ya', yc', rfl, hr, hbD⟩; obtain ⟨rfl, rfl⟩ := HY.out.same cp_inj hr; clear hr; have hD := HC.out.next hbD; have HD : Hid (XY bx xa xc ya yc w wD) := hD; clear hbD; obtain ⟨a0, a1, a2, d0, d1, d2⟩ := hD.cells; clear hD))
    all_goals (try go_wp2_with fail)
    all_goals go_meet
    all_goals exact ⟨rfl, HD.out⟩
  case rest =>
    obtain ⟨rfl, hX⟩ := hcut
    have HC0 : Hid (XY bx xa xc ya yc w wc) := hX
    obtain ⟨p0, p1, p2, q0, q1, q2⟩ := hX.cells
    have hta : (szText a).size ≤ 8000 := Nat.le_trans (mtext_le (by decide) (by decide)) (by decide)
    have hub : (cpText b).size ≤ 8000 := Nat.le_trans (mtext_le (by decide) (by decide)) (by decide)
    have hxa := rd_code HX.out
    have hya := rd_code HY.out
    clear hX H9 HX HY
    by_cases ct : szText a = ⟨#[]⟩ <;> by_cases cu : cpText b = ⟨#[]⟩ <;> by_cases cx : xc = 0 <;> by_cases cy : yc = 0
    all_goals try (have et := emp_yes ct)
    all_goals try (have et := toList_ne (ne_size ct))
    all_goals try (have eu := emp_yes cu)
    all_goals try (have eu := toList_ne (ne_size cu))
    all_goals try (have ex : (xc != 0) = false := by simp [cx])
    all_goals try (have ex : (xc != 0) = true := by simp [cx])
    all_goals try (have ey : (yc != 0) = false := by simp [cy])
    all_goals try (have ey : (yc != 0) = true := by simp [cy])
    all_goals try (have fx := beq_yes (hxa cx))
    all_goals try (have fy := beq_yes (hya cy))
    all_goals clear hxa hya
    all_goals try (have HCT : Hid (¬ szText a = ⟨#[]⟩) := ct)
    all_goals try (have HCU : Hid (¬ cpText b = ⟨#[]⟩) := cu)
    all_goals clear ct cu cx cy
    all_goals
      go_wp2_with (first
        | (go_at_call 14; refine (iSizeRead_any _ _ (Nat.le_trans hta (by decide)) (by first | exact HQ3.out.st.tab HT.out | exact HQ2.out.st.tab HT.out | exact HQ1.out.st.tab HT.out | exact HC0.out.st.tab HT.out)).mono ?_; rintro e wA ⟨xx, cc, rfl, hr, hb⟩; obtain ⟨rfl, rfl⟩ := rd_back sz_inj hta HCT.out hr; clear hr; have hA : XY bx xa xc ya yc w wA := (by first | exact HQ3.out.next hb | exact HQ2.out.next hb | exact HQ1.out.next hb | exact HC0.out.next hb); have HQ1 : Hid (XY bx xa xc ya yc w wA) := hA; clear hb; obtain ⟨a0, a1, a2, d0, d1, d2⟩ := hA.cells; clear hA)
        | (go_at_call 15; refine (iCpuRead_any _ _ (Nat.le_trans hub (by decide)) (by first | exact HQ3.out.st.tab HT.out | exact HQ2.out.st.tab HT.out | exact HQ1.out.st.tab HT.out | exact HC0.out.st.tab HT.out)).mono ?_; rintro e wB ⟨xx, cc, rfl, hr, hb⟩; obtain ⟨rfl, rfl⟩ := rd_back cp_inj hub HCU.out hr; clear hr; have hA : XY bx xa xc ya yc w wB := (by first | exact HQ3.out.next hb | exact HQ2.out.next hb | exact HQ1.out.next hb | exact HC0.out.next hb); have HQ2 : Hid (XY bx xa xc ya yc w wB) := hA; clear hb; obtain ⟨a0, a1, a2, d0, d1, d2⟩ := hA.cells; clear hA)
        | (go_at_call 10; refine (isizeText_any _ _ (by first | exact HQ3.out.st.tab HT.out | exact HQ2.out.st.tab HT.out | exact HQ1.out.st.tab HT.out | exact HC0.out.st.tab HT.out)).mono ?_; rintro e wC ⟨rfl, hb⟩; have hA : XY bx xa xc ya yc w wC := (by first | exact HQ3.out.next hb | exact HQ2.out.next hb | exact HQ1.out.next hb | exact HC0.out.next hb); have HQ3 : Hid (XY bx xa xc ya yc w wC) := hA; clear hb; obtain ⟨a0, a1, a2, d0, d1, d2⟩ := hA.cells; clear hA)
        | (go_at_call 11; refine (icpuText_any _ _ (by first | exact HQ3.out.st.tab HT.out | exact HQ2.out.st.tab HT.out | exact HQ1.out.st.tab HT.out | exact HC0.out.st.tab HT.out)).mono ?_; rintro e wD ⟨rfl, hb⟩; have hA : XY bx xa xc ya yc w wD := (by first | exact HQ3.out.next hb | exact HQ2.out.next hb | exact HQ1.out.next hb | exact HC0.out.next hb); have HQ4 : Hid (XY bx xa xc ya yc w wD) := hA; clear hb; clear hA))
      all_goals (go_ret; exact ⟨rfl, (by first | exact HQ4.out.st.hb | exact HQ3.out.st.hb | exact HQ2.out.st.hb | exact HQ1.out.st.hb | exact HC0.out.st.hb)⟩)

set_option maxHeartbeats 800000 in
theorem fnQuant_walk (a0 : Option Addr) (len0 cap0 : Nat) (z0 : List Int) (a1 : Option Addr) (len1 cap1 : Nat) (z1 : List Int) (w : World) (w0 : IsRow .u8 w a0 len0 cap0 z0) (w1 : IsRow .u8 w a1 len1 cap1 z1) (ht : ptab w) :
    Calls Tryd.prog 3 #[.slice a0 len0 cap0, .slice a1 len1 cap1] w fun e w' => e = .returned (.bool true) ∧ Below w.heap.size w w' := by
  by_cases h0 : 1048576 < len0
  · clear w0 w1 ht
    go_enter Tryd.func3, Tryd.ntmps3
    go_wp2
    go_ret
    exact ⟨rfl, Below.refl _ _⟩
  by_cases h1 : 1048576 < len1
  · clear w0 w1 ht
    go_enter Tryd.func3, Tryd.ntmps3
    go_wp2
    go_ret
    exact ⟨rfl, Below.refl _ _⟩
  exact fnQuant_go _ _ len0 len1 w ⟨_, _, rfl⟩ ⟨_, _, rfl⟩ (w0.rowIn (by omega)) (w1.rowIn (by omega)) (by omega) (by omega) ht

end Go.Proofs.YtbeocggeakhnnaaDoor
