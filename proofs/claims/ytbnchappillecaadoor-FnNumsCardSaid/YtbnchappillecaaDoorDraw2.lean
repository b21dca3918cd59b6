/-
  A source is laid; a bool, some bytes, a number at an edge are drawn from it.
-/
import Derived.Test.YtbnchappillecaaDoorDraw
import Derived.Lib.VarintMem
import Derived.Lib.Hide
import Derived.Lib.Slices
import Derived.Laws.IdiomStrings
namespace Go.Proofs.YtbnchappillecaaDoor
open Go.RowKit

/-- A source was laid: its block is new. -/
def Laid (w : World) (v : Value) (len : Nat) (e : Ending) (w' : World) : Prop := ∃ p, e = .returned (.pointer (some ⟨p, 0, none⟩)) ∧ Src w.heap.size w p v len w'

theorem SrcBlk.set3 {w : World} {p : Nat} {b : Value} {k : Nat} {m sz : Int} (h : SrcBlk w p b k m sz) (s : Int) : SrcBlk (w.setCell ⟨p, 3, none⟩ (.int .i64 s)) p b k m s := Go.heap_setCell_same w p 3 _ _ _ h
theorem SrcBlk.lt {w : World} {p : Nat} {b : Value} {k : Nat} {m sz : Int} (h : SrcBlk w p b k m sz) : p < w.heap.size := by
  unfold SrcBlk at h
  rcases Nat.lt_or_ge p w.heap.size with h1 | h1
  · exact h1
  · simp [Array.getElem?_eq_none h1] at h
theorem src_fin {w wr : World} {v : Value} {len : Nat} {m sz : Int} (h : SrcBlk wr w.heap.size v 0 m sz) (hb : Below w.heap.size w wr) (hR : RowIn w.heap.size w v len) (m0 : 0 ≤ m) (m1 : m ≤ 18446744073709551615) (s0 : 0 ≤ sz) (s1 : sz ≤ 12) : Src w.heap.size w w.heap.size v len wr :=
  ⟨Nat.le_refl _, Nat.le_refl _, hb, h.lt, hR.below hb, 0, m, sz, Nat.zero_le _, m0, m1, s0, s1, h⟩
theorem wrap64u_bd (x : Int) : 0 ≤ IntKind.u64.wrap x ∧ IntKind.u64.wrap x ≤ 18446744073709551615 := by
  have e : IntKind.u64.wrap x = x % 18446744073709551616 := by simp [IntKind.wrap, IntKind.bits, IntKind.signed]
  rw [e]; omega

set_option maxHeartbeats 1600000 in
theorem source_any (v : Value) (len : Nat) (w : World) (hR : RowIn w.heap.size w v len) :
    Calls Tryd.prog 12 #[v] w (Laid w v len) := by
  have HR : Hid (RowIn w.heap.size w v len) := hR
  obtain ⟨hl, a0, cap, rfl, hc⟩ := hR
  go_enter Tryd.func12, Tryd.ntmps12
  go_wp2
  go_loopw [4] (fun vi wr => ∃ (i : Nat) (m : Int), i ≤ len ∧ vi = .int .i64 (i : Int) ∧ 0 ≤ m ∧ m ≤ 18446744073709551615 ∧ SrcBlk wr w.heap.size (.slice a0 len cap) 0 m 0 ∧ Below w.heap.size w wr) (fun vi _ => len - (intOf vi).toNat)
  case atStart => exact ⟨0, 88172645463325252, by omega, rfl, by decide, by decide, by unfold SrcBlk; show (w.heap.push _)[w.heap.size]? = _; simp, (Below.refl _ _).alloc (Nat.le_refl _) _⟩
  case round =>
    obtain ⟨i, m, hi, rfl, m0, m1, hb, hnx⟩ := hrel
    obtain ⟨c0, c1, c2, c3, f0, f1, f2, f3⟩ := hb.cells
    have HB : Hid (SrcBlk wr w.heap.size (.slice a0 len cap) 0 m 0) := hb
    have HX : Hid (Below w.heap.size w wr) := hnx
    clear hb hnx
    by_cases hlt : i < len
    · by_cases h64 : i < 64
      · obtain ⟨b, off, z, rfl, hbB, hz, z0, z1⟩ := hc i hlt
        have hz' : wr.cell? ⟨b, off + i, none⟩ = some (.int .u8 z) := (HX.out.cell (p := ⟨b, off + i, none⟩) hbB).trans hz
        have HZ : Hid (∀ j, j < len → ∃ (b' off' : Nat) (z : Int), some (⟨b, off, none⟩ : Addr) = some ⟨b', off', none⟩ ∧ b' < w.heap.size ∧ w.cell? ⟨b', off' + j, none⟩ = some (.int .u8 z) ∧ 0 ≤ z ∧ z ≤ 255) := hc
        clear hc hz
        go_wp2
        go_region
        go_wp2
        go_roundw
        case rel => exact ⟨i + 1, _, by omega, by go_num, (wrap64u_bd _).1, (wrap64u_bd _).2, HB.out.set2 _, (HX.out.setCell (Nat.le_refl _) _).drew⟩
        case measure => simp [intOf]; omega
      · clear hc
        by_cases h20 : 12 < (len : Int) / 20
        · go_wp2
          go_ret
          exact ⟨_, rfl, src_fin ((HB.out.set3 _).set3 _) ((HX.out.setCell (Nat.le_refl _) _).setCell (Nat.le_refl _) _) HR.out m0 m1 (by decide) (by decide)⟩
        · go_wp2
          go_ret
          exact ⟨_, rfl, src_fin (HB.out.set3 _) (HX.out.setCell (Nat.le_refl _) _) HR.out m0 m1 (by omega) (by omega)⟩
    · clear hc
      by_cases h20 : 12 < (len : Int) / 20
      · go_wp2
        go_ret
        exact ⟨_, rfl, src_fin ((HB.out.set3 _).set3 _) ((HX.out.setCell (Nat.le_refl _) _).setCell (Nat.le_refl _) _) HR.out m0 m1 (by decide) (by decide)⟩
      · go_wp2
        go_ret
        exact ⟨_, rfl, src_fin (HB.out.set3 _) (HX.out.setCell (Nat.le_refl _) _) HR.out m0 m1 (by omega) (by omega)⟩

/-- A bool was drawn. -/
def DrewBool (B : Nat) (w0 : World) (p : Nat) (v : Value) (len : Nat) (w : World) (e : Ending) (w' : World) : Prop := (e = .returned (.bool true) ∨ e = .returned (.bool false)) ∧ Src B w0 p v len w' ∧ w.grownBy w' (some p)

set_option maxHeartbeats 800000 in
theorem one_any {B : Nat} {w0 : World} {p : Nat} {v : Value} {len : Nat} {w : World} (h : Src B w0 p v len w) (of : Int) (hm2 : of ≤ 4611686018427387904) :
    Calls Tryd.prog 19 #[.pointer (some ⟨p, 0, none⟩), .int .i64 of] w (DrewBool B w0 p v len w) := by
  have HN : Hid (Calls Tryd.prog 20 #[.pointer (some ⟨p, 0, none⟩), .int .i64 of] w (Drew B w0 p v len w of)) := h.n of hm2
  clear h
  go_enter Tryd.func19, Tryd.ntmps19
  go_wp2_with fail
  refine HN.out.mono ?_
  rintro e w1 ⟨r, rfl, r0, r1, hS, hg⟩
  have HS : Hid (Src B w0 p v len w1) := hS
  have HG : Hid (w.grownBy w1 (some p)) := hg
  clear hS hg
  cases hr : (r == 0)
  all_goals
    go_wp2
    go_ret
  · exact ⟨.inr rfl, HS.out, HG.out⟩
  · exact ⟨.inl rfl, HS.out, HG.out⟩

/-- Some bytes were drawn. -/
def DrewText (B : Nat) (w0 : World) (p : Nat) (v : Value) (len : Nat) (w : World) (n : Int) (e : Ending) (w' : World) : Prop := ∃ t : ByteArray, e = .returned (.string t) ∧ (t.size : Int) ≤ n ∧ Src B w0 p v len w' ∧ w.grownBy w' (some p)

theorem infoByteD : (Tryd.prog.info? 5).map (fun i => (i.zero, i.size, i.bytes)) = some (some (.int .u8 0), 1, 1) := by kernel_rfl
theorem grown_alloc (w : World) (o : Obj) (row : Option Nat) : w.grownBy (w.alloc o) row := ⟨rfl, rfl, rfl, by simp, fun k hk _ => Below.heap_alloc _ _ _ hk⟩
theorem grown_app {w w1 w2 : World} {p : Nat} {row : Option Nat} (h : w.grownBy w1 (some p)) (hg : w1.grownBy w2 row) (hr : ∀ k, row = some k → w.heap.size ≤ k) : w.grownBy w2 (some p) :=
  ⟨hg.os.trans h.os, hg.tape.trans h.tape, hg.output.trans h.output, Nat.le_trans h.size hg.size, fun k hk hne => (hg.block k (Nat.lt_of_lt_of_le hk h.size) (fun e => by have := hr k e.symm; omega)).trans (h.block k hk hne)⟩
theorem Src.keep {B : Nat} {w0 : World} {p : Nat} {v : Value} {len : Nat} {w w' : World} {row : Option Nat} (h : Src B w0 p v len w) (hg : w.grownBy w' row) (hr : row ≠ some p) (hB : ∀ k, row = some k → B ≤ k) : Src B w0 p v len w' := by
  obtain ⟨h1, h2, h3, h4, h5, k, m, sz, h6, h7, h8, h9, h10, h11⟩ := h
  have hb : Below B w w' := ⟨hg.os, hg.tape, hg.output, hg.size, fun k hk => hg.block k (by have := h3.size; omega) (fun e => by have := hB k e.symm; omega)⟩
  refine ⟨h1, h2, h3.trans hb, Nat.lt_of_lt_of_le h4 hg.size, h5.below hb, k, m, sz, h6, h7, h8, h9, h10, ?_⟩
  unfold SrcBlk at h11 ⊢
  rw [hg.block p h4 (fun e => hr e.symm)]
  exact h11
theorem Src.plt {B : Nat} {w0 : World} {p : Nat} {v : Value} {len : Nat} {w : World} (h : Src B w0 p v len w) : p < w.heap.size := h.2.2.2.1
theorem Src.base {B : Nat} {w0 : World} {p : Nat} {v : Value} {len : Nat} {w : World} (h : Src B w0 p v len w) : B ≤ w.heap.size := Nat.le_trans h.2.1 h.2.2.1.size

set_option maxHeartbeats 1600000 in
set_option maxRecDepth 100000 in
theorem bytes_any {B : Nat} {w0 : World} {p : Nat} {v : Value} {len : Nat} {w : World} (h : Src B w0 p v len w) (n : Int) (hn0 : 0 ≤ n) (hn : n ≤ 1048576) :
    Calls Tryd.prog 21 #[.pointer (some ⟨p, 0, none⟩), .int .i64 n] w (DrewText B w0 p v len w n) := by
  obtain ⟨i0, hi, hz0, hz1, hz2⟩ := info_parts infoByteD
  have HS : Hid (Src B w0 p v len w) := h
  have hpw := h.plt
  have hBw := h.base
  clear h
  go_enter Tryd.func21, Tryd.ntmps21
  go_wp2
  go_loopw [5, 6] (fun vb vi wr => ∃ l : List UInt8, (l.length : Int) ≤ n ∧ vi = .int .i64 (l.length : Int) ∧ wr.ownsRow w.heap.size 5 1 vb l.length (Lib.byteCells l) ∧ Src B w0 p v len wr ∧ w.grownBy wr (some p)) (fun _ vi _ => n.toNat - (intOf vi).toNat)
  case atStart => exact ⟨[], by simpa using hn0, rfl, World.ownsRow_made _ #[] 0 (Nat.le_refl _) (by unfold maxLen; omega) rfl, HS.out.keep (grown_alloc w _ none) (by simp) (fun k hk => by cases hk), grown_alloc w _ _⟩
  case round =>
    obtain ⟨l, hl, rfl, hown, hS, hg⟩ := hrel
    have hws := hg.size
    have HW : Hid (w.grownBy wr (some p)) := hg
    by_cases hlt : (l.length : Int) < n
    · have HN : Hid (Calls Tryd.prog 20 #[.pointer (some ⟨p, 0, none⟩), .int .i64 256] wr (Drew B w0 p v len wr 256)) := hS.n 256 (by decide)
      clear hS hg
      go_wp2_with (go_at_call 20; refine HN.out.mono ?_; rintro e w1 ⟨r, rfl, r0, r1, hS1, hg1⟩; refine Hid.out ?_)
      refine Lib.hid ?_
      have hr : r ≤ 255 := by omega
      have hw1 := hg1.size
      have hown1 : w1.ownsRow w.heap.size 5 1 _ l.length (Lib.byteCells l) := hown.kept hg1 (.inr (fun e => by have := (hown.lt _ e).1; omega))
      have HG1 : Hid (wr.grownBy w1 (some p)) := hg1
      have HS1 : Hid (Src B w0 p v len w1) := hS1
      clear hg1 hS1 hown
      go_wp2_with (at_builtin; refine wpList_append_own _ rfl _ _ 22 rfl w.heap.size 5 i0 (.int .u8 0) 1 1 Tryd.underlying22 hi hz0 hz1 hz2 rfl (by decide) _ _ _ rfl (hown1.alloc _) ⟨w1.heap.size, 0, none⟩ 1 1 [Value.int .u8 r] rfl rfl ?c1 ?c2 ?c3 ?c4 ?c5 ?_)
      case c1 =>
        intro j u hj
        match j, hj with
        | 0, hj => simp at hj; subst hj; simp [Addr.add]
      case c2 => intro u hu; simp at hu; subst hu; rfl
      case c3 => unfold maxLen; omega
      case c4 => omega
      case c5 => simp; omega
      intro v' w2 hown' hgrow _
      have hg2 := grown_trans (grown_alloc w1 _ _) hgrow
      have HW2 : Hid (w.grownBy w2 (some p)) := grown_app (grown_trans HW.out HG1.out) hg2 (fun k hk => (hown1.lt k hk).1)
      have HS2 : Hid (Src B w0 p v len w2) := HS1.out.keep hg2 (fun e => by have := (hown1.lt _ e).1; omega) (fun k hk => by have := (hown1.lt k hk).1; omega)
      clear hgrow hg2 HW HG1 HS1 hown1 HN
      go_wp2
      go_roundw
      case rel =>
        refine ⟨l ++ [UInt8.ofNat r.toNat], by simp; omega, by simp, ?_, HS2.out, HW2.out⟩
        have e : Lib.byteCells (l ++ [UInt8.ofNat r.toNat]) = Lib.byteCells l ++ [Value.int .u8 r] := by
          rw [Lib.byteCells_append]
          have : (((UInt8.ofNat r.toNat).toNat : Nat) : Int) = r := by rw [UInt8.toNat_ofNat']; omega
          simp only [Lib.byteCells, List.map_cons, List.map_nil, this]
        rw [e, List.length_append, List.length_singleton]
        exact hown'
      case measure => simp [intOf]; omega
    · have HS2 : Hid (Src B w0 p v len wr) := hS
      clear hS hg
      rcases hown.2 with ⟨rfl, h0⟩ | ⟨g, cap, cur, rfl, -, -, -, -, -, -⟩
      · have hcv : (convert 22 9 (.slice none 0 0)).run Tryd.prog wr = .ok (.string ⟨#[]⟩) wr := by
          rw [run_convert_bytes_string wr 22 9 5 none 0 0 Tryd.underlying22 Tryd.underlying5 Tryd.underlying9]
          rfl
        go_wp2
        go_ret
        exact ⟨_, rfl, show ((0 : Nat) : Int) ≤ n from hn0, HS2.out, HW.out⟩
      · have hcv := run_convert_bytes_back (P := Tryd.prog) wr 22 9 5 ⟨g, 0, none⟩ cap l Tryd.underlying22 Tryd.underlying5 Tryd.underlying9 (fun j hj => hown.cells (g := g) rfl j _ (by simp [Lib.byteCells, hj]))
        go_wp2
        go_ret
        exact ⟨_, rfl, hl, HS2.out, HW.out⟩

end Go.Proofs.YtbnchappillecaaDoor
