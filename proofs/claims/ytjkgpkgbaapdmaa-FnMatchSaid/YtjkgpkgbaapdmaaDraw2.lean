/-
  A source is laid; a bool, some bytes, a number at an edge are drawn from it.
-/
import Derived.Test.YtjkgpkgbaapdmaaDraw
import Derived.Lib.VarintMem
import Derived.Lib.Hide
import Derived.Lib.Slices
import Derived.Laws.IdiomStrings
namespace Go.Proofs.Ytjkgpkgbaapdmaa
open Go.RowKit

/-- A source was laid: its block is new. -/
def Laid (w : World) (v : Value) (len : Nat) (e : Ending) (w' : World) : Prop := ∃ p, e = .returned (.pointer (some ⟨p, 0, none⟩)) ∧ Src w.heap.size w p v len w'

theorem SrcBlk.set3 {w : World} {p : Nat} {b : Value} {k : Nat} {m sz : Int} (h : SrcBlk w p b k m sz) (s : Int) : SrcBlk (w.setCell ⟨p, 3, none⟩ (.int .i64 s)) p b k m s := Go.heap_setCell_same w p 3 _ _ _ h
theorem SrcBlk.lt {w : World} {p : Nat} {b : Value} {k : Nat} {m sz : Int} (h : SrcBlk w p b k m sz) : p < w.heap.size := by
  unfold SrcBlk at h
  rcases Nat.lt_or_ge p w.heap.size with h1 | h1
  · exact h1
  · simp [Array.getElem?_eq_none h1] at h
theorem src_fin {w wr : World} {v : Value} {len : Nat} {m sz : Int} (h : SrcBlk wr w.heap.size v 0 m sz) (hb : Below w.heap.size w wr) (hR : RowIn w.heap.size w v len) (m0 : 0 ≤ m) (m1 : m ≤ 18446744073709551615) (s0 : 0 ≤ sz) (s1 : sz ≤ 12) : Src w.heap.size w w.heap.size v len wr :=
  ⟨Nat.le_refl _, Nat.le_refl _, hb, h.lt, hR.below hb, 0, m, sz, Nat.zero_le _, m0, m1, s0, s1, h⟩
theorem wrap64u_bd (x : Int) : 0 ≤ IntKind.u64.wrap x ∧ IntKind.u64.wrap x ≤ 18446744073709551615 := by
  have e : IntKind.u64.wrap x = x % 18446744073709551616 := by simp [IntKind.wrap, IntKind.bits, IntKind.signed]
  rw [e]; omega

set_option maxHeartbeats 1600000 in
theorem source_any (v : Value) (len : Nat) (w : World) (hR : RowIn w.heap.size w v len) :
    Calls Try.prog 36 #[v] w (Laid w v len) := by
  have HR : Hid (RowIn w.heap.size w v len) := hR
  obtain ⟨hl, a0, cap, rfl, hc⟩ := hR
  go_enter Try.func36, Try.ntmps36
  go_wp2
  go_loopw [4] (fun vi wr => ∃ (i : Nat) (m : Int), i ≤ len ∧ vi = .int .i64 (i : Int) ∧ 0 ≤ m ∧ m ≤ 18446744073709551615 ∧ SrcBlk wr w.heap.size (.slice a0 len cap) 0 m 0 ∧ Below w.heap.size w wr) (fun vi _ => len - (intOf vi).toNat)
  case atStart => exact ⟨0, 88172645463325252, by omega, rfl, by decide, by decide, by unfold SrcBlk; show (w.heap.push _)[w.heap.size]? = _; simp, (Below.refl _ _).alloc (Nat.le_refl _) _⟩
  case round =>
    obtain ⟨i, m, hi, rfl, m0, m1, hb, hnx⟩ := hrel
    obtain ⟨c0, c1, c2, c3, f0, f1, f2, f3⟩ := hb.cells
    have HB : Hid (SrcBlk wr w.heap.size (.slice a0 len cap) 0 m 0) := hb
    have HX : Hid (Below w.heap.size w wr) := hnx
    clear hb hnx
    by_cases hlt : i < len
    · by_cases h64 : i < 64
      · obtain ⟨b, off, z, rfl, hbB, hz, z0, z1⟩ := hc i hlt
        have hz' : wr.cell? ⟨b, off + i, none⟩ = some (.int .u8 z) := (HX.out.cell (p := ⟨b, off + i, none⟩) hbB).trans hz
        have HZ : Hid (∀ j, j < len → ∃ (b' off' : Nat) (z : Int), some (⟨b, off, none⟩ : Addr) = some ⟨b', off', none⟩ ∧ b' < w.heap.size ∧ w.cell? ⟨b', off' + j, none⟩ = some (.int .u8 z) ∧ 0 ≤ z ∧ z ≤ 255) := hc
        clear hc hz
        go_wp2
        go_region
        go_wp2
        go_roundw
        case rel => exact ⟨i + 1, _, by omega, by go_num, (wrap64u_bd _).1, (wrap64u_bd _).2, HB.out.set2 _, (HX.out.setCell (Nat.le_refl _) _).drew⟩
        case measure => simp [intOf]; omega
      · clear hc
        by_cases h20 : 12 < (len : Int) / 20
        · go_wp2
          go_ret
          exact ⟨_, rfl, src_fin ((HB.out.set3 _).set3 _) ((HX.out.setCell (Nat.le_refl _) _).setCell (Nat.le_refl _) _) HR.out m0 m1 (by decide) (by decide)⟩
        · go_wp2
          go_ret
          exact ⟨_, rfl, src_fin (HB.out.set3 _) (HX.out.setCell (Nat.le_refl _) _) HR.out m0 m1 (by omega) (by omega)⟩
    · clear hc
      by_cases h20 : 12 < (len : Int) / 20
      · go_wp2
        go_ret
        exact ⟨_, rfl, src_fin ((HB.out.set3 _).set3 _) ((HX.out.setCell (Nat.le_refl _) _).setCell (Nat.le_refl _) _) HR.out m0 m1 (by decide) (by decide)⟩
      · go_wp2
        go_ret
        exact ⟨_, rfl, src_fin (HB.out.set3 _) (HX.out.setCell (Nat.le_refl _) _) HR.out m0 m1 (by omega) (by omega)⟩

/-- A bool was drawn. -/
def DrewBool (B : Nat) (w0 : World) (p : Nat) (v : Value) (len : Nat) (w : World) (e : Ending) (w' : World) : Prop := (e = .returned (.bool true) ∨ e = .returned (.bool false)) ∧ Src B w0 p v len w' ∧ w.grownBy w' (some p)

set_option maxHeartbeats 800000 in
theorem one_any {B : Nat} {w0 : World} {p : Nat} {v : Value} {len : Nat} {w : World} (h : Src B w0 p v len w) (of : Int) (hm2 : of ≤ 4611686018427387904) :
    Calls Try.prog 40 #[.pointer (some ⟨p, 0, none⟩), .int .i64 of] w (DrewBool B w0 p v len w) := by
  have HN : Hid (Calls Try.prog 38 #[.pointer (some ⟨p, 0, none⟩), .int .i64 of] w (Drew B w0 p v len w of)) := h.n of hm2
  clear h
  go_enter Try.func40, Try.ntmps40
  go_wp2_with fail
  refine HN.out.mono ?_
  rintro e w1 ⟨r, rfl, r0, r1, hS, hg⟩
  have HS : Hid (Src B w0 p v len w1) := hS
  have HG : Hid (w.grownBy w1 (some p)) := hg
  clear hS hg
  cases hr : (r == 0)
  all_goals
    go_wp2
    go_ret
  · exact ⟨.inr rfl, HS.out, HG.out⟩
  · exact ⟨.inl rfl, HS.out, HG.out⟩

/-- Some bytes were drawn. -/
def DrewText (B : Nat) (w0 : World) (p : Nat) (v : Value) (len : Nat) (w : World) (n : Int) (e : Ending) (w' : World) : Prop := ∃ t : ByteArray, e = .returned (.string t) ∧ (t.size : Int) ≤ n ∧ Src B w0 p v len w' ∧ w.grownBy w' (some p)

theorem infoByteD : (Try.prog.info? 5).map (fun i => (i.zero, i.size, i.bytes)) = some (some (.int .u8 0), 1, 1) := by kernel_rfl
theorem grown_alloc (w : World) (o : Obj) (row : Option Nat) : w.grownBy (w.alloc o) row := ⟨rfl, rfl, rfl, by simp, fun k hk _ => Below.heap_alloc _ _ _ hk⟩
theorem grown_app {w w1 w2 : World} {p : Nat} {row : Option Nat} (h : w.grownBy w1 (some p)) (hg : w1.grownBy w2 row) (hr : ∀ k, row = some k → w.heap.size ≤ k) : w.grownBy w2 (some p) :=
  ⟨hg.os.trans h.os, hg.tape.trans h.tape, hg.output.trans h.output, Nat.le_trans h.size hg.size, fun k hk hne => (hg.block k (Nat.lt_of_lt_of_le hk h.size) (fun e => by have := hr k e.symm; omega)).trans (h.block k hk hne)⟩
theorem Src.keep {B : Nat} {w0 : World} {p : Nat} {v : Value} {len : Nat} {w w' : World} {row : Option Nat} (h : Src B w0 p v len w) (hg : w.grownBy w' row) (hr : row ≠ some p) (hB : ∀ k, row = some k → B ≤ k) : Src B w0 p v len w' := by
  obtain ⟨h1, h2, h3, h4, h5, k, m, sz, h6, h7, h8, h9, h10, h11⟩ := h
  have hb : Below B w w' := ⟨hg.os, hg.tape, hg.output, hg.size, fun k hk => hg.block k (by have := h3.size; omega) (fun e => by have := hB k e.symm; omega)⟩
  refine ⟨h1, h2, h3.trans hb, Nat.lt_of_lt_of_le h4 hg.size, h5.below hb, k, m, sz, h6, h7, h8, h9, h10, ?_⟩
  unfold SrcBlk at h11 ⊢
  rw [hg.block p h4 (fun e => hr e.symm)]
  exact h11
theorem Src.plt {B : Nat} {w0 : World} {p : Nat} {v : Value} {len : Nat} {w : World} (h : Src B w0 p v len w) : p < w.heap.size := h.2.2.2.1
theorem Src.base {B : Nat} {w0 : World} {p : Nat} {v : Value} {len : Nat} {w : World} (h : Src B w0 p v len w) : B ≤ w.heap.size := Nat.le_trans h.2.1 h.2.2.1.size

end Go.Proofs.Ytjkgpkgbaapdmaa
