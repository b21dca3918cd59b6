import Derived.Test.YtfhlhckjgdmgkaaGreatDoorRows
import Derived.WalkKit
import Derived.WalkSpells
import Derived.OwnWalk
import Derived.Outline
import Derived.RegionTactic
import Derived.BigRegion
import Derived.ChangeAlike
import Derived.Deep.QuietTactic
import Derived.BigQuiet
import Derived.Laws.Rows
import Derived.Lib.VarintMem
import Derived.Lib.Hide
import Derived.Lib.Slices
import Derived.Laws.IdiomStrings
import Derived.Laws.Cover1
import Derived.Lib.BufferWrite
import Derived.Laws.CopyOwn
import Derived.WalkSmall
import Derived.Deep.RegionWith
import Derived.Lib.ItoaNum
import Derived.Shelf.Strconv.Itoa4
import Derived.Shelf.Small.Wraps
import Derived.Laws.AppendOwn
import Derived.Deep.Cut
import Derived.Deep.CutRange
import Derived.Deep.RegionLaw
import Derived.Lib.SplitLaws
import Derived.Shelf.Strings.SplitShaped
import Derived.Shelf.Strconv.Clone
import Derived.Shelf.Strings.OnBuilder
import Derived.Deep.RegionHeld
import Derived.Below
/-
  The drawing of numbers from bytes: whatever the bytes, a number below the bound; only the source's own block is written.
-/
namespace Go.Proofs.YtfhlhckjgdmgkaaGreatDoor
open Go.RowKit

theorem wp_forget {P : Program} {c : Code} {Q : Exit → Act → World → Prop} {a : Act} {w : World} (F : World → Prop) (hF : F w) (h : ∀ w2, F w2 → c.wp P Q a w2) : c.wp P Q a w := h w hF
theorem grown_trans {a b c : World} {row : Option Nat} (h : a.grownBy b row) (k : b.grownBy c row) : a.grownBy c row :=
  ⟨k.os.trans h.os, k.tape.trans h.tape, k.output.trans h.output, Nat.le_trans h.size k.size, fun i hi hne => (k.block i (Nat.lt_of_lt_of_le hi h.size) hne).trans (h.block i hi hne)⟩
theorem grown_set (w : World) (p i : Nat) (v : Value) : w.grownBy (w.setCell ⟨p, i, none⟩ v) (some p) :=
  ⟨rfl, rfl, rfl, by simp [World.setCell], fun k _ hk => Below.heap_setCell _ _ _ _ (fun e => hk (by simp [e]))⟩

theorem grown_drew {a b : World} {row : Option Nat} (h : a.grownBy b row) : a.grownBy b.drew row := ⟨h.os, h.tape, h.output, h.size, h.block⟩
theorem rem_bd (x most : Int) (h1 : 1 < most) (h2 : most ≤ 4611686018427387904) : 0 ≤ wrap64 ((IntKind.u64.wrap x).tmod most) ∧ wrap64 ((IntKind.u64.wrap x).tmod most) < most := by
  have e : IntKind.u64.wrap x = x % 18446744073709551616 := by simp [IntKind.wrap, IntKind.bits, IntKind.signed]
  have h0 : 0 ≤ IntKind.u64.wrap x := by rw [e]; omega
  rw [Int.tmod_eq_emod_of_nonneg h0]
  have b0 := Int.emod_nonneg (IntKind.u64.wrap x) (show most ≠ 0 by omega)
  have b1 := Int.emod_lt_of_pos (IntKind.u64.wrap x) (show 0 < most by omega)
  generalize IntKind.u64.wrap x % most = y at *
  simp only [wrap64]
  omega

def SrcBlk (w : World) (p : Nat) (b : Value) (k : Nat) (m sz : Int) : Prop := w.heap[p]? = some (.cells #[b, .int .i64 (k : Int), .int .u64 m, .int .i64 sz] 83 (0, 0))
theorem SrcBlk.cells {w : World} {p : Nat} {b : Value} {k : Nat} {m sz : Int} (h : SrcBlk w p b k m sz) :
    w.cell? ⟨p, 0, none⟩ = some b ∧ w.cell? ⟨p, 1, none⟩ = some (.int .i64 (k : Int)) ∧ w.cell? ⟨p, 2, none⟩ = some (.int .u64 m) ∧ w.cell? ⟨p, 3, none⟩ = some (.int .i64 sz) ∧
    w.frozen? ⟨p, 0, none⟩ = false ∧ w.frozen? ⟨p, 1, none⟩ = false ∧ w.frozen? ⟨p, 2, none⟩ = false ∧ w.frozen? ⟨p, 3, none⟩ = false := by
  unfold SrcBlk at h
  refine ⟨?_, ?_, ?_, ?_, ?_, ?_, ?_, ?_⟩ <;> simp [World.cell?, World.frozen?, h]
theorem SrcBlk.set1 {w : World} {p : Nat} {b : Value} {k : Nat} {m sz : Int} (h : SrcBlk w p b k m sz) (k' : Nat) : SrcBlk (w.setCell ⟨p, 1, none⟩ (.int .i64 (k' : Int))) p b k' m sz := Go.heap_setCell_same w p 1 _ _ _ h
theorem SrcBlk.set2 {w : World} {p : Nat} {b : Value} {k : Nat} {m sz : Int} (h : SrcBlk w p b k m sz) (m' : Int) : SrcBlk (w.setCell ⟨p, 2, none⟩ (.int .u64 m')) p b k m' sz := Go.heap_setCell_same w p 2 _ _ _ h
def SrcF (w0 : World) (p : Nat) (b : Value) (k : Nat) (sz : Int) (w : World) : Prop := ∃ m : Int, 0 ≤ m ∧ m ≤ 18446744073709551615 ∧ SrcBlk w p b k m sz ∧ w0.grownBy w (some p)
theorem xor64_bd (a b : Int) : 0 ≤ bits .xor .u64 a b ∧ bits .xor .u64 a b ≤ 18446744073709551615 := by
  have e : ∀ n : Int, IntKind.u64.wrap n = n % 18446744073709551616 := fun n => by simp [IntKind.wrap, IntKind.bits, IntKind.signed]
  simp only [bits, e]
  constructor <;> omega
theorem SrcF.mix {w0 : World} {p : Nat} {b : Value} {k : Nat} {sz : Int} {w : World} (h : SrcF w0 p b k sz w) (x y : Int) : SrcF w0 p b k sz (w.setCell ⟨p, 2, none⟩ (.int .u64 (bits .xor .u64 x y))).drew := by
  obtain ⟨m, _, _, h3, h4⟩ := h
  exact ⟨_, (xor64_bd x y).1, (xor64_bd x y).2, h3.set2 _, grown_drew (grown_trans h4 (grown_set w p 2 _))⟩
theorem SrcF.refl {w : World} {p : Nat} {b : Value} {k : Nat} {m sz : Int} (h : SrcBlk w p b k m sz) (h0 : 0 ≤ m) (h1 : m ≤ 18446744073709551615) (n : Nat) : SrcF w p b k sz (w.drewN n) :=
  ⟨m, h0, h1, h, ⟨rfl, rfl, rfl, Nat.le_refl _, fun _ _ _ => rfl⟩⟩
theorem SrcF.step {w : World} {p : Nat} {b : Value} {k : Nat} {m sz : Int} (h : SrcBlk w p b k m sz) (h0 : 0 ≤ m) (h1 : m ≤ 18446744073709551615) (n k' : Nat) (x : Int) (hx : x = (k' : Int)) : SrcF w p b k' sz ((w.drewN n).setCell ⟨p, 1, none⟩ (.int .i64 x)) := by
  subst hx
  exact ⟨m, h0, h1, SrcBlk.set1 (w := w.drewN n) h k', grown_trans (b := w.drewN n) ⟨rfl, rfl, rfl, Nat.le_refl _, fun _ _ _ => rfl⟩ (grown_set _ p 1 _)⟩

def NumAns (most : Int) (w : World) (p : Nat) (b : Value) (len : Nat) (sz : Int) (e : Ending) (w' : World) : Prop := ∃ (r : Int) (k : Nat), e = .returned (.int .i64 r) ∧ 0 ≤ r ∧ (r < most ∨ r = 0) ∧ k ≤ len ∧ SrcF w p b k sz w'

set_option maxHeartbeats 3200000 in
theorem src_n_over (p : Nat) (a0 : Option Addr) (len cap k : Nat) (most mix sz : Int) (w : World) (hm : 1 < most) (hm2 : most ≤ 4611686018427387904) (hb : SrcBlk w p (.slice a0 len cap) k mix sz) (m0 : 0 ≤ mix) (m1 : mix ≤ 18446744073709551615) (hat : ¬ (k : Int) < (len : Int)) (hk : k ≤ len) :
    Calls Tryz.prog 39 #[.pointer (some ⟨p, 0, none⟩), .int .i64 most] w (NumAns most w p (.slice a0 len cap) len sz) := by
  obtain ⟨c0, c1, c2, c3, f0, f1, f2, f3⟩ := hb.cells
  have HB : Hid (SrcBlk w p (.slice a0 len cap) k mix sz) := hb
  clear hb
  go_enter Tryz.func39, Tryz.ntmps39
  go_wp2
  go_quiet (fail)
  go_wp2
  refine wp_forget (SrcF w p (.slice a0 len cap) k sz) (SrcF.refl HB.out m0 m1 _) ?_
  clear c0 c1 c2 c3 f0 f1 f2 f3 HB m0 m1 mix
  rintro w2 hF
  have HF : Hid (SrcF w p (.slice a0 len cap) k sz w2) := hF
  obtain ⟨m, m0, m1, hb, -⟩ := hF
  obtain ⟨c0, c1, c2, c3, f0, f1, f2, f3⟩ := hb.cells
  clear hb
  go_region
  go_wp2
  refine wp_forget (SrcF w p (.slice a0 len cap) k sz) (HF.out.mix _ _) ?_
  clear c0 c1 c2 c3 f0 f1 f2 f3 HF m0 m1
  clear w2
  rintro w2 hF
  have HF : Hid (SrcF w p (.slice a0 len cap) k sz w2) := hF
  obtain ⟨m, m0, m1, hb, -⟩ := hF
  obtain ⟨c0, c1, c2, c3, f0, f1, f2, f3⟩ := hb.cells
  clear hb
  go_region
  go_wp2
  refine wp_forget (SrcF w p (.slice a0 len cap) k sz) (HF.out.mix _ _) ?_
  clear c0 c1 c2 c3 f0 f1 f2 f3 HF m0 m1
  clear w2
  rintro w2 hF
  have HF : Hid (SrcF w p (.slice a0 len cap) k sz w2) := hF
  obtain ⟨m, m0, m1, hb, -⟩ := hF
  obtain ⟨c0, c1, c2, c3, f0, f1, f2, f3⟩ := hb.cells
  clear hb
  go_region
  go_wp2_with fail
  go_ret
  exact ⟨_, k, rfl, (rem_bd _ most hm hm2).1, .inl (rem_bd _ most hm hm2).2, hk, HF.out.mix _ _⟩

set_option maxHeartbeats 3200000 in
theorem src_n_in (p b off : Nat) (len cap k : Nat) (most mix sz z : Int) (w : World) (hm : 1 < most) (hm2 : most ≤ 4611686018427387904) (hb : SrcBlk w p (.slice (some ⟨b, off, none⟩) len cap) k mix sz) (m0 : 0 ≤ mix) (m1 : mix ≤ 18446744073709551615) (hat : (k : Int) < (len : Int)) (hl : len ≤ 140737488355328) (hz : w.cell? ⟨b, off + k, none⟩ = some (.int .u8 z)) (z0 : 0 ≤ z) (z1 : z ≤ 255) :
    Calls Tryz.prog 39 #[.pointer (some ⟨p, 0, none⟩), .int .i64 most] w (NumAns most w p (.slice (some ⟨b, off, none⟩) len cap) len sz) := by
  obtain ⟨c0, c1, c2, c3, f0, f1, f2, f3⟩ := hb.cells
  have HB : Hid (SrcBlk w p (.slice (some ⟨b, off, none⟩) len cap) k mix sz) := hb
  have hat' : k < len := by omega
  clear hb
  go_enter Tryz.func39, Tryz.ntmps39
  go_wp2
  go_quiet (fail)
  go_wp2
  go_quiet (fail)
  go_wp2
  refine wp_forget (SrcF w p (.slice (some ⟨b, off, none⟩) len cap) (k + 1) sz) (SrcF.step HB.out m0 m1 _ (k + 1) _ (by omega)) ?_
  clear c0 c1 c2 c3 f0 f1 f2 f3 HB m0 m1 hz
  clear mix
  rintro w2 hF
  have HF : Hid (SrcF w p (.slice (some ⟨b, off, none⟩) len cap) (k + 1) sz w2) := hF
  obtain ⟨m, m0, m1, hb, -⟩ := hF
  obtain ⟨c0, c1, c2, c3, f0, f1, f2, f3⟩ := hb.cells
  clear hb
  go_region
  go_wp2
  refine wp_forget (SrcF w p (.slice (some ⟨b, off, none⟩) len cap) (k + 1) sz) (HF.out.mix _ _) ?_
  clear c0 c1 c2 c3 f0 f1 f2 f3 HF m0 m1
  clear w2
  rintro w2 hF
  have HF : Hid (SrcF w p (.slice (some ⟨b, off, none⟩) len cap) (k + 1) sz w2) := hF
  obtain ⟨m, m0, m1, hb, -⟩ := hF
  obtain ⟨c0, c1, c2, c3, f0, f1, f2, f3⟩ := hb.cells
  clear hb
  go_region
  go_wp2
  refine wp_forget (SrcF w p (.slice (some ⟨b, off, none⟩) len cap) (k + 1) sz) (HF.out.mix _ _) ?_
  clear c0 c1 c2 c3 f0 f1 f2 f3 HF m0 m1
  clear w2
  rintro w2 hF
  have HF : Hid (SrcF w p (.slice (some ⟨b, off, none⟩) len cap) (k + 1) sz w2) := hF
  obtain ⟨m, m0, m1, hb, -⟩ := hF
  obtain ⟨c0, c1, c2, c3, f0, f1, f2, f3⟩ := hb.cells
  clear hb
  go_region
  go_wp2_with fail
  go_ret
  exact ⟨_, k + 1, rfl, (rem_bd _ most hm hm2).1, .inl (rem_bd _ most hm hm2).2, by omega, HF.out.mix _ _⟩

def RowIn (B : Nat) (w : World) (v : Value) (len : Nat) : Prop := len ≤ 140737488355328 ∧ ∃ a0 cap, v = .slice a0 len cap ∧ ∀ j, j < len → ∃ (b off : Nat) (z : Int), a0 = some ⟨b, off, none⟩ ∧ b < B ∧ w.cell? ⟨b, off + j, none⟩ = some (.int .u8 z) ∧ 0 ≤ z ∧ z ≤ 255
theorem RowIn.below {B : Nat} {w w' : World} {v : Value} {len : Nat} (h : RowIn B w v len) (hb : Below B w w') : RowIn B w' v len := by
  obtain ⟨hl, a0, cap, hv, hc⟩ := h
  refine ⟨hl, a0, cap, hv, fun j hj => ?_⟩
  obtain ⟨b, off, z, h1, h2, h3, h4⟩ := hc j hj
  exact ⟨b, off, z, h1, h2, (hb.cell (p := ⟨b, off + j, none⟩) h2).trans h3, h4⟩
theorem grown_below {B p : Nat} {w w' : World} (h : w.grownBy w' (some p)) (hB : B ≤ p) (hw : B ≤ w.heap.size) : Below B w w' :=
  ⟨h.os, h.tape, h.output, h.size, fun k hk => h.block k (by omega) (fun e => by simp at e; omega)⟩

set_option maxHeartbeats 800000 in
theorem src_n_small (p : Nat) (most : Int) (w : World) (hm : most ≤ 1) :
    Calls Tryz.prog 39 #[.pointer (some ⟨p, 0, none⟩), .int .i64 most] w fun e w' => e = .returned (.int .i64 0) ∧ w = w' := by
  go_enter Tryz.func39, Tryz.ntmps39
  go_wp2
  go_ret
  exact ⟨rfl, rfl⟩

theorem src_n (B p len k : Nat) (v : Value) (most mix sz : Int) (w : World) (hm2 : most ≤ 4611686018427387904) (hb : SrcBlk w p v k mix sz) (m0 : 0 ≤ mix) (m1 : mix ≤ 18446744073709551615) (hk : k ≤ len) (hR : RowIn B w v len) :
    Calls Tryz.prog 39 #[.pointer (some ⟨p, 0, none⟩), .int .i64 most] w (NumAns most w p v len sz) := by
  obtain ⟨hl, a0, cap, rfl, hc⟩ := hR
  by_cases hm : most ≤ 1
  · refine (src_n_small p most w hm).mono ?_
    rintro e w' ⟨rfl, rfl⟩
    exact ⟨0, k, rfl, Int.le_refl _, .inr rfl, hk, ⟨mix, m0, m1, hb, ⟨rfl, rfl, rfl, Nat.le_refl _, fun _ _ _ => rfl⟩⟩⟩
  by_cases hat : k < len
  · obtain ⟨b, off, z, rfl, _, hz, z0, z1⟩ := hc k hat
    exact src_n_in p b off len cap k most mix sz z w (by omega) hm2 hb m0 m1 (by omega) hl hz z0 z1
  · exact src_n_over p a0 len cap k most mix sz w (by omega) hm2 hb m0 m1 (by omega) hk

def Src (B : Nat) (w0 : World) (p : Nat) (v : Value) (len : Nat) (w : World) : Prop := B ≤ p ∧ B ≤ w0.heap.size ∧ Below B w0 w ∧ p < w.heap.size ∧ RowIn B w v len ∧ ∃ (k : Nat) (m sz : Int), k ≤ len ∧ 0 ≤ m ∧ m ≤ 18446744073709551615 ∧ 0 ≤ sz ∧ sz ≤ 12 ∧ SrcBlk w p v k m sz
def Drew (B : Nat) (w0 : World) (p : Nat) (v : Value) (len : Nat) (w : World) (most : Int) (e : Ending) (w' : World) : Prop := ∃ r : Int, e = .returned (.int .i64 r) ∧ 0 ≤ r ∧ (r < most ∨ r = 0) ∧ Src B w0 p v len w' ∧ w.grownBy w' (some p)
theorem Src.n {B : Nat} {w0 : World} {p : Nat} {v : Value} {len : Nat} {w : World} (h : Src B w0 p v len w) (most : Int) (hm2 : most ≤ 4611686018427387904) :
    Calls Tryz.prog 39 #[.pointer (some ⟨p, 0, none⟩), .int .i64 most] w (Drew B w0 p v len w most) := by
  obtain ⟨hB, hB0, hbel, hp, hR, k, m, sz, hk, m0, m1, s0, s1, hb⟩ := h
  refine (src_n B p len k v most m sz w hm2 hb m0 m1 hk hR).mono ?_
  rintro e w' ⟨r, k', rfl, r0, r1, hk', m', m0', m1', hb', hg⟩
  have hbw : Below B w w' := grown_below hg hB (Nat.le_trans hB0 hbel.size)
  exact ⟨r, rfl, r0, r1, ⟨hB, hB0, hbel.trans hbw, Nat.lt_of_lt_of_le hp hg.size, hR.below hbw, k', m', sz, hk', m0', m1', s0, s1, hb'⟩, hg⟩

def Laid (w : World) (v : Value) (len : Nat) (e : Ending) (w' : World) : Prop := ∃ p, e = .returned (.pointer (some ⟨p, 0, none⟩)) ∧ Src w.heap.size w p v len w'

theorem SrcBlk.set3 {w : World} {p : Nat} {b : Value} {k : Nat} {m sz : Int} (h : SrcBlk w p b k m sz) (s : Int) : SrcBlk (w.setCell ⟨p, 3, none⟩ (.int .i64 s)) p b k m s := Go.heap_setCell_same w p 3 _ _ _ h
theorem SrcBlk.lt {w : World} {p : Nat} {b : Value} {k : Nat} {m sz : Int} (h : SrcBlk w p b k m sz) : p < w.heap.size := by
  unfold SrcBlk at h
  rcases Nat.lt_or_ge p w.heap.size with h1 | h1
  · exact h1
  · simp [Array.getElem?_eq_none h1] at h
theorem src_fin {w wr : World} {v : Value} {len : Nat} {m sz : Int} (h : SrcBlk wr w.heap.size v 0 m sz) (hb : Below w.heap.size w wr) (hR : RowIn w.heap.size w v len) (m0 : 0 ≤ m) (m1 : m ≤ 18446744073709551615) (s0 : 0 ≤ sz) (s1 : sz ≤ 12) : Src w.heap.size w w.heap.size v len wr :=
  ⟨Nat.le_refl _, Nat.le_refl _, hb, h.lt, hR.below hb, 0, m, sz, Nat.zero_le _, m0, m1, s0, s1, h⟩
theorem wrap64u_bd (x : Int) : 0 ≤ IntKind.u64.wrap x ∧ IntKind.u64.wrap x ≤ 18446744073709551615 := by
  have e : IntKind.u64.wrap x = x % 18446744073709551616 := by simp [IntKind.wrap, IntKind.bits, IntKind.signed]
  rw [e]; omega

set_option maxHeartbeats 1600000 in
theorem source_any (v : Value) (len : Nat) (w : World) (hR : RowIn w.heap.size w v len) :
    Calls Tryz.prog 30 #[v] w (Laid w v len) := by
  have HR : Hid (RowIn w.heap.size w v len) := hR
  obtain ⟨hl, a0, cap, rfl, hc⟩ := hR
  go_enter Tryz.func30, Tryz.ntmps30
  go_wp2
  go_loopw [4] (fun vi wr => ∃ (i : Nat) (m : Int), i ≤ len ∧ vi = .int .i64 (i : Int) ∧ 0 ≤ m ∧ m ≤ 18446744073709551615 ∧ SrcBlk wr w.heap.size (.slice a0 len cap) 0 m 0 ∧ Below w.heap.size w wr) (fun vi _ => len - (intOf vi).toNat)
  case atStart => exact ⟨0, 88172645463325252, by omega, rfl, by decide, by decide, by unfold SrcBlk; show (w.heap.push _)[w.heap.size]? = _; simp, (Below.refl _ _).alloc (Nat.le_refl _) _⟩
  case round =>
    obtain ⟨i, m, hi, rfl, m0, m1, hb, hnx⟩ := hrel
    obtain ⟨c0, c1, c2, c3, f0, f1, f2, f3⟩ := hb.cells
    have HB : Hid (SrcBlk wr w.heap.size (.slice a0 len cap) 0 m 0) := hb
    have HX : Hid (Below w.heap.size w wr) := hnx
    clear hb hnx
    by_cases hlt : i < len
    · by_cases h64 : i < 64
      · obtain ⟨b, off, z, rfl, hbB, hz, z0, z1⟩ := hc i hlt
        have hz' : wr.cell? ⟨b, off + i, none⟩ = some (.int .u8 z) := (HX.out.cell (p := ⟨b, off + i, none⟩) hbB).trans hz
        have HZ : Hid (∀ j, j < len → ∃ (b' off' : Nat) (z : Int), some (⟨b, off, none⟩ : Addr) = some ⟨b', off', none⟩ ∧ b' < w.heap.size ∧ w.cell? ⟨b', off' + j, none⟩ = some (.int .u8 z) ∧ 0 ≤ z ∧ z ≤ 255) := hc
        clear hc hz
        go_wp2
        go_region
        go_wp2
        go_roundw
        case rel => exact ⟨i + 1, _, by omega, by go_num, (wrap64u_bd _).1, (wrap64u_bd _).2, HB.out.set2 _, (HX.out.setCell (Nat.le_refl _) _).drew⟩
        case measure => simp [intOf]; omega
      · clear hc
        by_cases h20 : 12 < (len : Int) / 20
        · go_wp2
          go_ret
          exact ⟨_, rfl, src_fin ((HB.out.set3 _).set3 _) ((HX.out.setCell (Nat.le_refl _) _).setCell (Nat.le_refl _) _) HR.out m0 m1 (by decide) (by decide)⟩
        · go_wp2
          go_ret
          exact ⟨_, rfl, src_fin (HB.out.set3 _) (HX.out.setCell (Nat.le_refl _) _) HR.out m0 m1 (by omega) (by omega)⟩
    · clear hc
      by_cases h20 : 12 < (len : Int) / 20
      · go_wp2
        go_ret
        exact ⟨_, rfl, src_fin ((HB.out.set3 _).set3 _) ((HX.out.setCell (Nat.le_refl _) _).setCell (Nat.le_refl _) _) HR.out m0 m1 (by decide) (by decide)⟩
      · go_wp2
        go_ret
        exact ⟨_, rfl, src_fin (HB.out.set3 _) (HX.out.setCell (Nat.le_refl _) _) HR.out m0 m1 (by omega) (by omega)⟩

def DrewBool (B : Nat) (w0 : World) (p : Nat) (v : Value) (len : Nat) (w : World) (e : Ending) (w' : World) : Prop := (e = .returned (.bool true) ∨ e = .returned (.bool false)) ∧ Src B w0 p v len w' ∧ w.grownBy w' (some p)

set_option maxHeartbeats 800000 in
theorem one_any {B : Nat} {w0 : World} {p : Nat} {v : Value} {len : Nat} {w : World} (h : Src B w0 p v len w) (of : Int) (hm2 : of ≤ 4611686018427387904) :
    Calls Tryz.prog 50 #[.pointer (some ⟨p, 0, none⟩), .int .i64 of] w (DrewBool B w0 p v len w) := by
  have HN : Hid (Calls Tryz.prog 39 #[.pointer (some ⟨p, 0, none⟩), .int .i64 of] w (Drew B w0 p v len w of)) := h.n of hm2
  clear h
  go_enter Tryz.func50, Tryz.ntmps50
  go_wp2_with fail
  refine HN.out.mono ?_
  rintro e w1 ⟨r, rfl, r0, r1, hS, hg⟩
  have HS : Hid (Src B w0 p v len w1) := hS
  have HG : Hid (w.grownBy w1 (some p)) := hg
  clear hS hg
  cases hr : (r == 0)
  all_goals
    go_wp2
    go_ret
  · exact ⟨.inr rfl, HS.out, HG.out⟩
  · exact ⟨.inl rfl, HS.out, HG.out⟩

theorem grown_alloc (w : World) (o : Obj) (row : Option Nat) : w.grownBy (w.alloc o) row := ⟨rfl, rfl, rfl, by simp, fun k hk _ => Below.heap_alloc _ _ _ hk⟩
theorem grown_app {w w1 w2 : World} {p : Nat} {row : Option Nat} (h : w.grownBy w1 (some p)) (hg : w1.grownBy w2 row) (hr : ∀ k, row = some k → w.heap.size ≤ k) : w.grownBy w2 (some p) :=
  ⟨hg.os.trans h.os, hg.tape.trans h.tape, hg.output.trans h.output, Nat.le_trans h.size hg.size, fun k hk hne => (hg.block k (Nat.lt_of_lt_of_le hk h.size) (fun e => by have := hr k e.symm; omega)).trans (h.block k hk hne)⟩
theorem Src.keep {B : Nat} {w0 : World} {p : Nat} {v : Value} {len : Nat} {w w' : World} {row : Option Nat} (h : Src B w0 p v len w) (hg : w.grownBy w' row) (hr : row ≠ some p) (hB : ∀ k, row = some k → B ≤ k) : Src B w0 p v len w' := by
  obtain ⟨h1, h2, h3, h4, h5, k, m, sz, h6, h7, h8, h9, h10, h11⟩ := h
  have hb : Below B w w' := ⟨hg.os, hg.tape, hg.output, hg.size, fun k hk => hg.block k (by have := h3.size; omega) (fun e => by have := hB k e.symm; omega)⟩
  refine ⟨h1, h2, h3.trans hb, Nat.lt_of_lt_of_le h4 hg.size, h5.below hb, k, m, sz, h6, h7, h8, h9, h10, ?_⟩
  unfold SrcBlk at h11 ⊢
  rw [hg.block p h4 (fun e => hr e.symm)]
  exact h11
theorem Src.plt {B : Nat} {w0 : World} {p : Nat} {v : Value} {len : Nat} {w : World} (h : Src B w0 p v len w) : p < w.heap.size := h.2.2.2.1
theorem Src.base {B : Nat} {w0 : World} {p : Nat} {v : Value} {len : Nat} {w : World} (h : Src B w0 p v len w) : B ≤ w.heap.size := Nat.le_trans h.2.1 h.2.2.1.size

def lowB (b : Int) : Bool := decide (97 ≤ b) && decide (b ≤ 122)
def digB (b : Int) : Bool := decide (48 ≤ b) && decide (b ≤ 57)
def nbB (b : Int) : Bool := lowB b || digB b || decide (b = 95)
def okB (i : Nat) (b : Int) : Bool := if i = 0 then lowB b else nbB b
def NameOk (s : ByteArray) : Prop := 1 ≤ s.size ∧ s.size ≤ 20 ∧ ∀ i (h : i < s.size), okB i ((s[i]'h).toNat : Int) = true
def BoolAns (p : Prop) (w : World) (e : Ending) (w' : World) : Prop := ∃ r : Bool, e = .returned (.bool r) ∧ (r = true ↔ p) ∧ w = w'
theorem ret_bool {a b : Bool} (h : a = b) : Ending.returned (.bool a) = .returned (.bool b) := by rw [h]

set_option maxHeartbeats 400000 in
theorem low_any (b : Int) (w : World) :
    Calls Tryz.prog 83 #[.int .u8 b] w fun e w' => e = .returned (.bool (lowB b)) ∧ w = w' := by
  go_enter Tryz.func83, Tryz.ntmps83
  go_wp2
  all_goals (go_ret; exact ⟨ret_bool (by unfold lowB; rw [Bool.eq_iff_iff]; simp; omega), rfl⟩)

set_option maxHeartbeats 400000 in
theorem nb_any (b : Int) (w : World) :
    Calls Tryz.prog 84 #[.int .u8 b] w fun e w' => e = .returned (.bool (nbB b)) ∧ w = w' := by
  go_enter Tryz.func84, Tryz.ntmps84
  go_wp2
  all_goals (go_ret; exact ⟨ret_bool (by unfold nbB lowB digB; rw [Bool.eq_iff_iff]; simp; omega), rfl⟩)

theorem name_bad {s : ByteArray} {k : Nat} (hlt : k < s.size) (h : okB k ((s[k]'hlt).toNat : Int) = false) : (false = true ↔ NameOk s) := by
  constructor
  · intro h; cases h
  · intro h3
    have := h3.2.2 k hlt
    rw [h] at this
    exact this
theorem name_step {s : ByteArray} {k : Nat} (hlt : k < s.size) (h : okB k ((s[k]'hlt).toNat : Int) = true) (ha : ∀ i (h : i < s.size), i < k → okB i ((s[i]'h).toNat : Int) = true) :
    ∀ i (h : i < s.size), i < k + 1 → okB i ((s[i]'h).toNat : Int) = true := by
  intro i hi hk
  by_cases e : i = k
  · subst e; exact h
  · exact ha i hi (by omega)

set_option maxHeartbeats 3200000 in
theorem sname_any (s : ByteArray) (w : World) (hs : s.size ≤ 9223372036854775807) :
    Calls Tryz.prog 62 #[.string s] w (BoolAns (NameOk s) w) := by
  by_cases h1 : s.size < 1
  · go_enter Tryz.func62, Tryz.ntmps62
    go_wp2
    go_ret
    exact ⟨false, rfl, by unfold NameOk; simp; omega, rfl⟩
  by_cases h2 : 20 < s.size
  · go_enter Tryz.func62, Tryz.ntmps62
    go_wp2
    go_ret
    exact ⟨false, rfl, by unfold NameOk; simp; omega, rfl⟩
  go_enter Tryz.func62, Tryz.ntmps62
  go_wp2
  go_loop [3] (fun i => ∃ k : Nat, k ≤ s.size ∧ i = .int .i64 k ∧ ∀ i (h : i < s.size), i < k → okB i ((s[i]'h).toNat : Int) = true) (fun i => s.size - (intOf i).toNat)
  case atStart => exact ⟨0, by omega, rfl, fun i _ h => by omega⟩
  case round =>
    obtain ⟨k, hk, rfl, hall⟩ := hrel
    have HA : Hid (∀ i (h : i < s.size), i < k → okB i ((s[i]'h).toNat : Int) = true) := hall
    clear hall
    by_cases hlt : k < s.size
    · cases hok : okB k ((s[k]'hlt).toNat : Int)
      · have HB : Hid (okB k ((s[k]'hlt).toNat : Int) = false) := hok
        by_cases hk0 : k = 0
        · have hkb : ((k : Int) == 0) = true := by simp [hk0]
          have hk1 : k < 1 := by omega
          unfold okB lowB at hok
          rw [if_pos hk0] at hok
          simp only [Bool.and_eq_false_iff, decide_eq_false_iff_not] at hok
          clear hk0
          rcases (show ((s[k]'hlt).toNat : Int) < 97 ∨ (97 ≤ ((s[k]'hlt).toNat : Int) ∧ 122 < ((s[k]'hlt).toNat : Int)) by omega) with hA | ⟨hA, hB⟩
          all_goals
            clear hok
            go_wp2
            all_goals first | (exfalso; rename_i hx; simp at hx; omega) | (go_ret; exact ⟨false, rfl, name_bad hlt HB.out, rfl⟩)
        · have hkb : ((k : Int) == 0) = false := by simp [hk0]
          unfold okB nbB lowB digB at hok
          rw [if_neg hk0] at hok
          simp only [Bool.or_eq_false_iff, Bool.and_eq_false_iff, decide_eq_false_iff_not] at hok
          have hne : (((s[k]'hlt).toNat : Int) != 95) = true := by simp; omega
          rcases (show (((s[k]'hlt).toNat : Int) < 97 ∨ (97 ≤ ((s[k]'hlt).toNat : Int) ∧ 122 < ((s[k]'hlt).toNat : Int))) ∧ (((s[k]'hlt).toNat : Int) < 48 ∨ (48 ≤ ((s[k]'hlt).toNat : Int) ∧ 57 < ((s[k]'hlt).toNat : Int))) by omega) with ⟨hA | ⟨hA, hB⟩, hC | ⟨hC, hD⟩⟩
          all_goals
            clear hok
            try omega
          all_goals
            go_wp2
            all_goals first | (exfalso; rename_i hx; simp at hx; omega) | (go_ret; exact ⟨false, rfl, name_bad hlt HB.out, rfl⟩)
      · have HB : Hid (okB k ((s[k]'hlt).toNat : Int) = true) := hok
        by_cases hk0 : k = 0
        · have hkb : ((k : Int) == 0) = true := by simp [hk0]
          have hk1 : k < 1 := by omega
          unfold okB lowB at hok
          rw [if_pos hk0] at hok
          simp only [Bool.and_eq_true, decide_eq_true_eq] at hok
          obtain ⟨hA, hB⟩ := hok
          clear hk0
          go_wp2
          go_round
          case rel => exact ⟨k + 1, by omega, by go_num, name_step hlt HB.out HA.out⟩
          case measure => simp [intOf]; omega
        · have hkb : ((k : Int) == 0) = false := by simp [hk0]
          unfold okB nbB lowB digB at hok
          rw [if_neg hk0] at hok
          simp only [Bool.or_eq_true, Bool.and_eq_true, decide_eq_true_eq] at hok
          rcases (show (97 ≤ ((s[k]'hlt).toNat : Int) ∧ ((s[k]'hlt).toNat : Int) ≤ 122) ∨ (48 ≤ ((s[k]'hlt).toNat : Int) ∧ ((s[k]'hlt).toNat : Int) ≤ 57) ∨ (95 ≤ ((s[k]'hlt).toNat : Int) ∧ ((s[k]'hlt).toNat : Int) ≤ 95) by omega) with ⟨hA, hB⟩ | ⟨hA, hB⟩ | ⟨hA, hB⟩
          · clear hok
            go_wp2
            go_round
            case rel => exact ⟨k + 1, by omega, by go_num, name_step hlt HB.out HA.out⟩
            case measure => simp [intOf]; omega
          · clear hok
            go_wp2
            go_round
            case rel => exact ⟨k + 1, by omega, by go_num, name_step hlt HB.out HA.out⟩
            case measure => simp [intOf]; omega
          · clear hok
            have hne : (((s[k]'hlt).toNat : Int) != 95) = false := by simp; omega
            go_wp2
            go_round
            case rel => exact ⟨k + 1, by omega, by go_num, name_step hlt HB.out HA.out⟩
            case measure => simp [intOf]; omega
    · go_wp2
      go_ret
      refine ⟨true, rfl, ?_, rfl⟩
      simp only [true_iff]
      exact ⟨by omega, by omega, fun i h => HA.out i h (by omega)⟩

set_option maxHeartbeats 800000 in
theorem iname_any (s : ByteArray) (w : World) (hs : s.size ≤ 9223372036854775807) :
    Calls Tryz.prog 59 #[.string s] w (BoolAns (NameOk s) w) := by
  by_cases h1 : s.size < 1
  · go_enter Tryz.func59, Tryz.ntmps59
    go_wp2
    go_ret
    exact ⟨false, rfl, by unfold NameOk; simp; omega, rfl⟩
  by_cases h2 : 20 < s.size
  · go_enter Tryz.func59, Tryz.ntmps59
    go_wp2
    go_ret
    exact ⟨false, rfl, by unfold NameOk; simp; omega, rfl⟩
  have h0 : 0 < s.size := by omega
  cases hl : lowB ((s[0]'h0).toNat : Int)
  · have HC : Hid (∀ w, Calls Tryz.prog 83 #[.int .u8 ((s[0]'h0).toNat : Int)] w fun e w' => e = .returned (.bool false) ∧ w = w') := fun w => by rw [← hl]; exact low_any _ w
    have HB : Hid (okB 0 ((s[0]'h0).toNat : Int) = false) := hl
    clear hl
    go_enter Tryz.func59, Tryz.ntmps59
    go_wp2_with (go_at_call 83; refine (HC.out _).mono ?_; rintro e w1 ⟨rfl, rfl⟩)
    go_ret
    exact ⟨false, rfl, name_bad h0 HB.out, rfl⟩
  · have HC : Hid (∀ w, Calls Tryz.prog 83 #[.int .u8 ((s[0]'h0).toNat : Int)] w fun e w' => e = .returned (.bool true) ∧ w = w') := fun w => by rw [← hl]; exact low_any _ w
    have HB : Hid (okB 0 ((s[0]'h0).toNat : Int) = true) := hl
    clear hl
    go_enter Tryz.func59, Tryz.ntmps59
    go_wp2_with (go_at_call 83; refine (HC.out _).mono ?_; rintro e w1 ⟨rfl, rfl⟩)
    go_loop [3] (fun i => ∃ k : Nat, 1 ≤ k ∧ k ≤ s.size ∧ i = .int .i64 k ∧ ∀ i (h : i < s.size), i < k → okB i ((s[i]'h).toNat : Int) = true) (fun i => s.size - (intOf i).toNat)
    case atStart => exact ⟨1, by omega, by omega, rfl, fun i _ h => by obtain rfl : i = 0 := by omega
                                                                       exact HB.out⟩
    case round =>
      obtain ⟨k, hk1, hk, rfl, hall⟩ := hrel
      have HA : Hid (∀ i (h : i < s.size), i < k → okB i ((s[i]'h).toNat : Int) = true) := hall
      clear hall HC HB
      by_cases hlt : k < s.size
      · cases hok : nbB ((s[k]'hlt).toNat : Int)
        · have HC : Hid (∀ w, Calls Tryz.prog 84 #[.int .u8 ((s[k]'hlt).toNat : Int)] w fun e w' => e = .returned (.bool false) ∧ w = w') := fun w => by rw [← hok]; exact nb_any _ w
          have HB : Hid (okB k ((s[k]'hlt).toNat : Int) = false) := by unfold okB; rw [if_neg (by omega)]; exact hok
          clear hok
          go_wp2_with (go_at_call 84; refine (HC.out _).mono ?_; rintro e w1 ⟨rfl, rfl⟩)
          go_ret
          exact ⟨false, rfl, name_bad hlt HB.out, rfl⟩
        · have HC : Hid (∀ w, Calls Tryz.prog 84 #[.int .u8 ((s[k]'hlt).toNat : Int)] w fun e w' => e = .returned (.bool true) ∧ w = w') := fun w => by rw [← hok]; exact nb_any _ w
          have HB : Hid (okB k ((s[k]'hlt).toNat : Int) = true) := by unfold okB; rw [if_neg (by omega)]; exact hok
          clear hok
          go_wp2_with (go_at_call 84; refine (HC.out _).mono ?_; rintro e w1 ⟨rfl, rfl⟩)
          go_round
          case rel => exact ⟨k + 1, by omega, by omega, by go_num, name_step hlt HB.out HA.out⟩
          case measure => simp [intOf]; omega
      · go_wp2
        go_ret
        refine ⟨true, rfl, ?_, rfl⟩
        simp only [true_iff]
        exact ⟨by omega, by omega, fun i h => HA.out i h (by omega)⟩

def TxRow (w : World) (a : Option Addr) (len cap : Nat) (zs : List ByteArray) : Prop :=
  zs.length = len ∧ len ≤ cap ∧ cap ≤ 9223372036854775807 ∧ (∀ (j : Nat) x, zs[j]? = some x → x.size ≤ 9223372036854775807) ∧
  (zs = [] ∨ ∃ b o, a = some ⟨b, o, none⟩ ∧ b < w.heap.size ∧ ∀ (j : Nat) x, zs[j]? = some x → w.cell? ⟨b, o + j, none⟩ = some (.string x))
theorem cell_below {w w' : World} (hb : Below w.heap.size w w') {b o : Nat} (h : b < w.heap.size) : w'.cell? ⟨b, o, none⟩ = w.cell? ⟨b, o, none⟩ := by
  simp [World.cell?, hb.block b h]
theorem TxRow.below {w w' : World} {a : Option Addr} {len cap : Nat} {zs : List ByteArray} (h : TxRow w a len cap zs) (hb : Below w.heap.size w w') : TxRow w' a len cap zs := by
  obtain ⟨h1, h2, h3, h4, h5⟩ := h
  refine ⟨h1, h2, h3, h4, ?_⟩
  rcases h5 with h5 | ⟨b, o, rfl, hlt, hc⟩
  · exact Or.inl h5
  · exact Or.inr ⟨b, o, rfl, Nat.lt_of_lt_of_le hlt hb.size, fun j x hx => by rw [cell_below hb hlt]; exact hc j x hx⟩
theorem TxRow.at {w : World} {a : Option Addr} {len cap : Nat} {zs : List ByteArray} (h : TxRow w a len cap zs) {k : Nat} (hk : k < len) :
    ∃ b o x, a = some ⟨b, o, none⟩ ∧ b < w.heap.size ∧ zs[k]? = some x ∧ w.cell? ⟨b, o + k, none⟩ = some (.string x) ∧ x.size ≤ 9223372036854775807 := by
  obtain ⟨h1, h2, h3, h4, h5⟩ := h
  have hx : zs[k]? = some (zs[k]'(by omega)) := List.getElem?_eq_getElem _
  rcases h5 with h5 | ⟨b, o, rfl, hlt, hc⟩
  · subst h5; simp at h1; omega
  · exact ⟨b, o, _, rfl, hlt, hx, hc k _ hx, h4 k _ hx⟩

theorem infoStr : (Tryz.prog.info? 9).map (fun i => (i.zero, i.size, i.bytes)) = some (some (.string ⟨#[]⟩), 1, 16) := by kernel_rfl
theorem block_set {w : World} {g i : Nat} {cs : Array Value} {t : TypeId} {fr : Nat × Nat} (h : w.heap[g]? = some (.cells cs t fr)) (v : Value) : (w.setCell ⟨g, i, none⟩ v).heap[g]? = some (.cells (cs.setIfInBounds i v) t fr) := by
  obtain ⟨hl, hh⟩ := Array.getElem?_eq_some_iff.1 h
  unfold World.setCell
  simp [Array.getElem?_modify, h]
theorem tl_no {a b : ByteArray} (h : ¬ a = b) : (a.toList == b.toList) = false := by
  rw [beq_eq_false_iff_ne]
  intro e
  rw [Lib.toList_data, Lib.toList_data] at e
  exact h (by cases a; cases b; simp at e; rw [e])
def BoolB (p : Prop) (w : World) (e : Ending) (w' : World) : Prop := ∃ r : Bool, e = .returned (.bool r) ∧ (r = true ↔ p) ∧ Below w.heap.size w w'

def Rising (zs : List ByteArray) : Prop := ∀ (i : Nat) x, zs[i]? = some x → NameOk x ∧ ∀ y, 0 < i → zs[i - 1]? = some y → Op.bytesLess y.toList x.toList = true
def NamesOk (zs : List ByteArray) (most : Int) : Prop := (zs.length : Int) ≤ most ∧ Rising zs
theorem less_tri : ∀ x y : List UInt8, (Op.bytesLess y x || y == x) = !Op.bytesLess x y
  | [], [] => by simp [Op.bytesLess]
  | _ :: _, [] => by simp [Op.bytesLess]
  | [], _ :: _ => by simp [Op.bytesLess]
  | a :: x, b :: y => by
    have ih := less_tri x y
    simp only [Op.bytesLess]
    rcases Nat.lt_trichotomy a.toNat b.toNat with h | h | h
    · have h1 : a < b := UInt8.lt_iff_toNat_lt.2 h
      have h2 : ¬ b < a := fun h' => by have := UInt8.lt_iff_toNat_lt.1 h'; omega
      have h3 : ¬ b = a := fun h' => by subst h'; omega
      simp [h1, h2, h3]
    · obtain rfl : a = b := UInt8.toNat_inj.1 h
      have h2 : ¬ a < a := fun h' => by have := UInt8.lt_iff_toNat_lt.1 h'; omega
      simp [h2]
      simpa using ih
    · have h1 : b < a := UInt8.lt_iff_toNat_lt.2 h
      have h2 : ¬ a < b := fun h' => by have := UInt8.lt_iff_toNat_lt.1 h'; omega
      have h3 : ¬ a = b := fun h' => by subst h'; omega
      simp [h1, h2, h3]

theorem BoolAns.yes {p : Prop} {w w' : World} {e : Ending} (h : BoolAns p w e w') (hp : p) : e = .returned (.bool true) ∧ w' = w := by
  obtain ⟨r, rfl, hr, rfl⟩ := h
  exact ⟨by rw [hr.2 hp], rfl⟩
theorem BoolAns.no {p : Prop} {w w' : World} {e : Ending} (h : BoolAns p w e w') (hp : ¬ p) : e = .returned (.bool false) ∧ w' = w := by
  obtain ⟨r, rfl, hr, rfl⟩ := h
  cases r
  · exact ⟨rfl, rfl⟩
  · exact absurd (hr.1 rfl) hp
theorem Rising.step {zs : List ByteArray} {k : Nat} {x : ByteArray} (h : Rising (zs.take k)) (hx : zs[k]? = some x) (hn : NameOk x) (hy : ∀ y, 0 < k → zs[k - 1]? = some y → Op.bytesLess y.toList x.toList = true) : Rising (zs.take (k + 1)) := by
  intro i z hz
  rw [List.getElem?_take] at hz
  split at hz
  · rename_i hi
    by_cases e : i = k
    · subst e
      rw [hx] at hz
      obtain rfl := Option.some.inj hz
      refine ⟨hn, fun y h0 h1 => hy y h0 ?_⟩
      rw [List.getElem?_take, if_pos (by omega)] at h1
      exact h1
    · have := h i z (by rw [List.getElem?_take, if_pos (by omega)]; exact hz)
      refine ⟨this.1, fun y h0 h1 => this.2 y h0 ?_⟩
      rw [List.getElem?_take, if_pos (by omega)] at h1 ⊢
      exact h1
  · cases hz

set_option maxHeartbeats 1600000 in
theorem snames_any (a : Option Addr) (len cap : Nat) (zs : List ByteArray) (most : Int) (w : World) (hr : TxRow w a len cap zs) :
    Calls Tryz.prog 66 #[.slice a len cap, .int .i64 most] w (BoolB (NamesOk zs most) w) := by
  have HR : Hid (TxRow w a len cap zs) := hr
  have hlc : len ≤ 9223372036854775807 := Nat.le_trans hr.2.1 hr.2.2.1
  have hzl : zs.length = len := hr.1
  clear hr
  go_enter Tryz.func66, Tryz.ntmps66
  go_wp2
  go_loopw [5] (fun i wr => ∃ k : Nat, k ≤ len ∧ i = .int .i64 k ∧ Hid (Rising (zs.take k)) ∧ Hid (Below w.heap.size w wr)) (fun i _ => len - (intOf i).toNat)
  case atStart => exact ⟨0, by omega, rfl, fun i x h => by simp at h, Below.refl _ _⟩
  case round =>
    obtain ⟨k, hk, rfl, HE, HB⟩ := hrel
    by_cases hlt : k < len
    · obtain ⟨b, o, x, rfl, hb, hx, hc, hsz⟩ := (HR.out.below HB.out).at hlt
      by_cases hn : NameOk x
      · have HY : Hid (∀ w, Calls Tryz.prog 62 #[.string x] w fun e w' => e = .returned (.bool true) ∧ w' = w) := fun w => (sname_any x w hsz).mono fun _ _ h => h.yes hn
        by_cases hk0 : 0 < k
        · obtain ⟨b', o', y, e', hb', hy, hcy, -⟩ := (HR.out.below HB.out).at (k := k - 1) (by omega)
          cases e'
          have ek : ((k : Int) - 1).toNat = k - 1 := by omega
          have hk0' : (0 : Int) < k := by omega
          cases hless : Op.bytesLess y.toList x.toList
          · go_wp2
            go_quiet ((go_at_call 62; exact Calls.quiet_of_same (HY.out _)))
            go_wp2
            go_ret
            exact ⟨false, rfl, ⟨fun h => (by cases h), fun h => absurd ((h.2 k x hx).2 y hk0 hy) (by rw [hless]; decide)⟩, below_drewN HB.out _⟩
          · go_wp2
            go_quiet ((go_at_call 62; exact Calls.quiet_of_same (HY.out _)))
            go_wp2
            exact ⟨⟨k + 1, by omega, by go_num, HE.out.step hx hn (fun y' _ hy' => by rw [hy] at hy'; obtain rfl := Option.some.inj hy'; exact hless), below_drewN HB.out _⟩, by simp [intOf]; omega⟩
        · have hd : decide ((0 : Int) < k) = false := by simp; omega
          go_wp2
          go_quiet ((go_at_call 62; exact Calls.quiet_of_same (HY.out _)))
          go_wp2
          exact ⟨⟨k + 1, by omega, by go_num, HE.out.step hx hn (fun y' h0 _ => absurd h0 hk0), below_drewN HB.out _⟩, by simp [intOf]; omega⟩
      · have HY : Hid (∀ w, Calls Tryz.prog 62 #[.string x] w fun e w' => e = .returned (.bool false) ∧ w' = w) := fun w => (sname_any x w hsz).mono fun _ _ h => h.no hn
        go_wp2
        go_quiet ((go_at_call 62; exact Calls.quiet_of_same (HY.out _)))
        go_wp2
        go_ret
        exact ⟨false, rfl, ⟨fun h => (by cases h), fun h => absurd (h.2 k x hx).1 hn⟩, below_drewN HB.out _⟩
    · obtain rfl : k = len := by omega
      go_wp2
      go_ret
      refine ⟨_, rfl, ?_, HB.out⟩
      have hR := HE.out
      rw [List.take_of_length_le (by omega)] at hR
      unfold NamesOk
      simp [hR, hzl]

theorem less_nil {x : ByteArray} (h : 1 ≤ x.size) : Op.bytesLess (⟨#[]⟩ : ByteArray).toList x.toList = true := by
  rw [Lib.toList_data, Lib.toList_data]
  rw [Lib.size_eq] at h
  cases e : x.data.toList with
  | nil => rw [e] at h; simp at h
  | cons a l => rfl

set_option maxHeartbeats 1600000 in
theorem inames_any (a : Option Addr) (len cap : Nat) (zs : List ByteArray) (most : Int) (w : World) (hr : TxRow w a len cap zs) :
    Calls Tryz.prog 61 #[.slice a len cap, .int .i64 most] w (BoolAns (NamesOk zs most) w) := by
  have HR : Hid (TxRow w a len cap zs) := hr
  have hlc : len ≤ 9223372036854775807 := Nat.le_trans hr.2.1 hr.2.2.1
  have hzl : zs.length = len := hr.1
  clear hr
  by_cases hm : most < (len : Int)
  · go_enter Tryz.func61, Tryz.ntmps61
    go_wp2
    go_ret
    exact ⟨false, rfl, ⟨fun h => (by cases h), fun h => absurd h.1 (by omega)⟩, rfl⟩
  go_enter Tryz.func61, Tryz.ntmps61
  go_wp2
  go_loop [5, 14] (fun p i => ∃ (k : Nat) (y : ByteArray), k ≤ len ∧ p = .string y ∧ i = .int .i64 k ∧ Hid (k = 0 → y = ⟨#[]⟩) ∧ Hid (0 < k → zs[k - 1]? = some y) ∧ Hid (Rising (zs.take k))) (fun _ i => len - (intOf i).toNat)
  case atStart => exact ⟨0, _, by omega, rfl, rfl, fun _ => rfl, fun h => absurd h (by omega), fun i x h => by simp at h⟩
  case round =>
    obtain ⟨k, y, hk, rfl, rfl, H0, H1, HE⟩ := hrel
    by_cases hlt : k < len
    · obtain ⟨b, o, x, rfl, hb, hx, hc, hsz⟩ := HR.out.at hlt
      by_cases hn : NameOk x
      · have HY : Hid (∀ w, Calls Tryz.prog 59 #[.string x] w fun e w' => e = .returned (.bool true) ∧ w' = w) := fun w => (iname_any x w hsz).mono fun _ _ h => h.yes hn
        have htri := less_tri y.toList x.toList
        cases hless : Op.bytesLess y.toList x.toList
        · rw [hless] at htri
          go_wp2_with (go_at_call 59; refine (HY.out _).mono ?_; rintro e w1 ⟨rfl, rfl⟩)
          go_ret
          refine ⟨false, rfl, ⟨fun h => (by cases h), fun h => ?_⟩, rfl⟩
          by_cases hk0 : 0 < k
          · exact absurd ((h.2 k x hx).2 y hk0 (H1.out hk0)) (by rw [hless]; decide)
          · have := H0.out (by omega)
            subst this
            rw [less_nil hn.1] at hless
            cases hless
        · rw [hless] at htri
          go_wp2_with (go_at_call 59; refine (HY.out _).mono ?_; rintro e w1 ⟨rfl, rfl⟩)
          refine ⟨⟨k + 1, x, by omega, rfl, by go_num, fun h => absurd h (by omega), fun _ => hx, HE.out.step hx hn (fun y' h0 hy' => ?_)⟩, by simp [intOf]; omega⟩
          rw [H1.out h0] at hy'
          obtain rfl := Option.some.inj hy'
          exact hless
      · have HY : Hid (∀ w, Calls Tryz.prog 59 #[.string x] w fun e w' => e = .returned (.bool false) ∧ w' = w) := fun w => (iname_any x w hsz).mono fun _ _ h => h.no hn
        go_wp2_with (go_at_call 59; refine (HY.out _).mono ?_; rintro e w1 ⟨rfl, rfl⟩)
        go_ret
        exact ⟨false, rfl, ⟨fun h => (by cases h), fun h => absurd (h.2 k x hx).1 hn⟩, rfl⟩
    · obtain rfl : k = len := by omega
      have hR := HE.out
      rw [List.take_of_length_le (by omega)] at hR
      go_wp2
      go_ret
      exact ⟨true, rfl, ⟨fun _ => ⟨by omega, hR⟩, fun _ => rfl⟩, rfl⟩

def ZoneOk (s : ByteArray) : Prop := s = ⟨#[]⟩ ∨ NameOk s
def Inn (n a b : Int) : Prop := a ≤ n ∧ n ≤ b

set_option maxHeartbeats 400000 in
theorem kis_any (n a b : Int) (w : World) :
    Calls Tryz.prog 64 #[.int .i64 n, .int .i64 a, .int .i64 b] w (BoolAns (Inn n a b) w) := by
  go_enter Tryz.func64, Tryz.ntmps64
  go_wp2
  all_goals (go_ret; exact ⟨_, rfl, by unfold Inn; simp; omega, rfl⟩)

set_option maxHeartbeats 400000 in
theorem kwithin_any (n a b : Int) (w : World) :
    Calls Tryz.prog 60 #[.int .i64 n, .int .i64 a, .int .i64 b] w (BoolAns (Inn n a b) w) := by
  go_enter Tryz.func60, Tryz.ntmps60
  go_wp2
  all_goals (go_ret; exact ⟨_, rfl, by unfold Inn; simp; omega, rfl⟩)

set_option maxHeartbeats 400000 in
theorem kcpu_any (n : Int) (w : World) :
    Calls Tryz.prog 63 #[.int .i64 n] w (BoolAns (Inn n 0 1000000) w) := by
  go_enter Tryz.func63, Tryz.ntmps63
  go_wp2_with (go_at_call 64; refine (kis_any _ _ _ _).mono ?_; rintro e w1 ⟨r, rfl, hr, rfl⟩)
  go_ret
  exact ⟨r, rfl, hr, rfl⟩

set_option maxHeartbeats 400000 in
theorem ksize_any (n : Int) (w : World) :
    Calls Tryz.prog 70 #[.int .i64 n] w (BoolAns (Inn n 1 1048576) w) := by
  go_enter Tryz.func70, Tryz.ntmps70
  go_wp2_with (go_at_call 64; refine (kis_any _ _ _ _).mono ?_; rintro e w1 ⟨r, rfl, hr, rfl⟩)
  go_ret
  exact ⟨r, rfl, hr, rfl⟩

set_option maxHeartbeats 400000 in
theorem ktime_any (n : Int) (w : World) :
    Calls Tryz.prog 65 #[.int .i64 n] w (BoolAns (Inn n 0 1000000) w) := by
  go_enter Tryz.func65, Tryz.ntmps65
  go_wp2_with (go_at_call 64; refine (kis_any _ _ _ _).mono ?_; rintro e w1 ⟨r, rfl, hr, rfl⟩)
  go_ret
  exact ⟨r, rfl, hr, rfl⟩

theorem hidK {p : Prop} (h : p) : Hid p := h
theorem isE_no {s : ByteArray} (h : ¬ s = ⟨#[]⟩) : s.toList.isEmpty = false := by
  have := tl_no h
  rw [Lib.toList_data] at this ⊢
  cases e : s.data.toList with
  | nil => exact absurd (by cases s; simp at e; rw [e]) h
  | cons a l => rfl
theorem isE_yes : (⟨#[]⟩ : ByteArray).toList.isEmpty = true := by rw [Lib.toList_data]; rfl
theorem slotK {w w1 : World} {vs : Array Value} {T : TypeId} (hb : Below (w.alloc (.cells vs T)).heap.size (w.alloc (.cells vs T)) w1) :
    w1.heap[w.heap.size]? = some (.cells vs T (0, 0)) ∧ Below w.heap.size w w1 ∧ w.heap.size < w1.heap.size := by
  have hs : (w.alloc (.cells vs T)).heap.size = w.heap.size + 1 := by simp
  have h1 := hb.size
  refine ⟨?_, ?_, by omega⟩
  · rw [hb.block _ (by omega)]
    show (w.heap.push _)[w.heap.size]? = _
    simp
  · exact ((Below.refl w.heap.size w).alloc (Nat.le_refl _) _).trans (hb.mono (by omega))
theorem slotKd {w w1 : World} {vs : Array Value} {T : TypeId} (hb : Below (w.alloc (.cells vs T)).drew.heap.size (w.alloc (.cells vs T)).drew w1) :
    w1.heap[w.heap.size]? = some (.cells vs T (0, 0)) ∧ Below w.heap.size w w1 ∧ w.heap.size < w1.heap.size := slotK ⟨hb.os, hb.tape, hb.output, hb.size, hb.block⟩
theorem cellK {w : World} {b : Nat} {vs : Array Value} {T : TypeId} {f : Nat × Nat} (h : w.heap[b]? = some (.cells vs T f)) (i : Nat) : w.cell? ⟨b, i, none⟩ = vs[i]? := by simp [World.cell?, h]
theorem below1 (w : World) (o : Obj) : Below w.heap.size w (w.alloc o) := (Below.refl _ _).alloc (Nat.le_refl _) o

set_option maxHeartbeats 400000 in
theorem szone_any (s : ByteArray) (w : World) (hs : s.size ≤ 9223372036854775807) :
    Calls Tryz.prog 68 #[.string s] w (BoolAns (ZoneOk s) w) := by
  by_cases h0 : s = ⟨#[]⟩
  · subst h0
    go_enter Tryz.func68, Tryz.ntmps68
    go_wp2
    go_ret
    exact ⟨_, rfl, by unfold ZoneOk; simp, rfl⟩
  · have hq : s.toList.isEmpty = false := isE_no h0
    go_enter Tryz.func68, Tryz.ntmps68
    go_wp2_with (go_at_call 62; refine (sname_any _ _ hs).mono ?_; rintro e w1 ⟨r, rfl, hr, rfl⟩)
    go_ret
    exact ⟨r, rfl, by unfold ZoneOk; simp [h0, hr], rfl⟩

set_option maxHeartbeats 400000 in
theorem izone_any (s : ByteArray) (w : World) (hs : s.size ≤ 9223372036854775807) :
    Calls Tryz.prog 67 #[.string s] w (BoolAns (ZoneOk s) w) := by
  by_cases h0 : s = ⟨#[]⟩
  · subst h0
    go_enter Tryz.func67, Tryz.ntmps67
    go_wp2
    go_ret
    exact ⟨_, rfl, by unfold ZoneOk; simp, rfl⟩
  · have hq : s.toList.isEmpty = false := isE_no h0
    go_enter Tryz.func67, Tryz.ntmps67
    go_wp2_with (go_at_call 59; refine (iname_any _ _ hs).mono ?_; rintro e w1 ⟨r, rfl, hr, rfl⟩)
    go_ret
    exact ⟨r, rfl, by unfold ZoneOk; simp [h0, hr], rfl⟩

def NodeOk (n z : ByteArray) (c s u : Int) (zs : List ByteArray) : Prop := NameOk n ∧ NameOk z ∧ Inn c 0 1000000 ∧ Inn s 0 8 ∧ Inn u 0 1000000 ∧ NamesOk zs 8
set_option maxHeartbeats 800000 in
theorem snode_any (n z : ByteArray) (c s u : Int) (d : Bool) (a : Option Addr) (len cap : Nat) (zs : List ByteArray) (w : World) (hn : n.size ≤ 9223372036854775807) (hz : z.size ≤ 9223372036854775807) (hr : TxRow w a len cap zs) :
    Calls Tryz.prog 21 #[.agg #[.string n, .string z, .int .i64 c, .int .i64 s, .int .i64 u, .bool d, .slice a len cap]] w (BoolB (NodeOk n z c s u zs) w) := by
  have HR : Hid (TxRow w a len cap zs) := hr
  clear hr
  go_enter Tryz.func21, Tryz.ntmps21
  go_wp2_with fail
  refine (sname_any n _ hn).mono ?_
  rintro e w1 ⟨r, rfl, hr, rfl⟩
  by_cases hq : r = true
  case neg =>
    have HN := hidK (fun h => hq (hr.2 h))
    have hrf : r = false := by simpa using hq
    clear hr
    go_wp2_with fail
    go_ret
    exact ⟨false, rfl, ⟨fun h => (by cases h), fun h => (HN.out (h.1)).elim⟩, below1 _ _⟩
  have h0 := hidK (hr.1 hq)
  subst hq
  clear hr
  go_wp2_with fail
  refine (sname_any z _ hz).mono ?_
  rintro e w1 ⟨r, rfl, hr, rfl⟩
  by_cases hq : r = true
  case neg =>
    have HN := hidK (fun h => hq (hr.2 h))
    have hrf : r = false := by simpa using hq
    clear hr
    go_wp2_with fail
    go_ret
    exact ⟨false, rfl, ⟨fun h => (by cases h), fun h => (HN.out (h.2.1)).elim⟩, below1 _ _⟩
  have h1 := hidK (hr.1 hq)
  subst hq
  clear hr
  go_wp2_with fail
  refine (kcpu_any c _).mono ?_
  rintro e w1 ⟨r, rfl, hr, rfl⟩
  by_cases hq : r = true
  case neg =>
    have HN := hidK (fun h => hq (hr.2 h))
    have hrf : r = false := by simpa using hq
    clear hr
    go_wp2_with fail
    go_ret
    exact ⟨false, rfl, ⟨fun h => (by cases h), fun h => (HN.out (h.2.2.1)).elim⟩, below1 _ _⟩
  have h2 := hidK (hr.1 hq)
  subst hq
  clear hr
  go_wp2_with fail
  refine (kis_any s 0 8 _).mono ?_
  rintro e w1 ⟨r, rfl, hr, rfl⟩
  by_cases hq : r = true
  case neg =>
    have HN := hidK (fun h => hq (hr.2 h))
    have hrf : r = false := by simpa using hq
    clear hr
    go_wp2_with fail
    go_ret
    exact ⟨false, rfl, ⟨fun h => (by cases h), fun h => (HN.out (h.2.2.2.1)).elim⟩, below1 _ _⟩
  have h3 := hidK (hr.1 hq)
  subst hq
  clear hr
  go_wp2_with fail
  refine (ktime_any u _).mono ?_
  rintro e w1 ⟨r, rfl, hr, rfl⟩
  by_cases hq : r = true
  case neg =>
    have HN := hidK (fun h => hq (hr.2 h))
    have hrf : r = false := by simpa using hq
    clear hr
    go_wp2_with fail
    go_ret
    exact ⟨false, rfl, ⟨fun h => (by cases h), fun h => (HN.out (h.2.2.2.2.1)).elim⟩, below1 _ _⟩
  have h4 := hidK (hr.1 hq)
  subst hq
  clear hr
  go_wp2_with fail
  refine (snames_any a len cap zs 8 _ (HR.out.below (below1 _ _))).mono ?_
  rintro e w1 ⟨r, rfl, hr, hb⟩
  go_wp2_with fail
  go_ret
  exact ⟨r, rfl, ⟨fun h => ⟨h0.out, h1.out, h2.out, h3.out, h4.out, hr.1 h⟩, fun h => hr.2 h.2.2.2.2.2⟩, (slotK hb).2.1⟩

set_option maxHeartbeats 800000 in
theorem inode_any (n z : ByteArray) (c s u : Int) (d : Bool) (a : Option Addr) (len cap : Nat) (zs : List ByteArray) (w : World) (hn : n.size ≤ 9223372036854775807) (hz : z.size ≤ 9223372036854775807) (hr : TxRow w a len cap zs) :
    Calls Tryz.prog 20 #[.agg #[.string n, .string z, .int .i64 c, .int .i64 s, .int .i64 u, .bool d, .slice a len cap]] w (BoolB (NodeOk n z c s u zs) w) := by
  have HR : Hid (TxRow w a len cap zs) := hr
  clear hr
  go_enter Tryz.func20, Tryz.ntmps20
  go_wp2_with fail
  refine (iname_any n _ hn).mono ?_
  rintro e w1 ⟨r, rfl, hr, rfl⟩
  by_cases hq : r = true
  case neg =>
    have HN := hidK (fun h => hq (hr.2 h))
    have hrf : r = false := by simpa using hq
    clear hr
    go_wp2_with fail
    go_ret
    exact ⟨false, rfl, ⟨fun h => (by cases h), fun h => (HN.out (h.1)).elim⟩, below1 _ _⟩
  have h0 := hidK (hr.1 hq)
  subst hq
  clear hr
  go_wp2_with fail
  refine (iname_any z _ hz).mono ?_
  rintro e w1 ⟨r, rfl, hr, rfl⟩
  by_cases hq : r = true
  case neg =>
    have HN := hidK (fun h => hq (hr.2 h))
    have hrf : r = false := by simpa using hq
    clear hr
    go_wp2_with fail
    go_ret
    exact ⟨false, rfl, ⟨fun h => (by cases h), fun h => (HN.out (h.2.1)).elim⟩, below1 _ _⟩
  have h1 := hidK (hr.1 hq)
  subst hq
  clear hr
  go_wp2_with fail
  refine (kwithin_any c 0 1000000 _).mono ?_
  rintro e w1 ⟨r, rfl, hr, rfl⟩
  by_cases hq : r = true
  case neg =>
    have HN := hidK (fun h => hq (hr.2 h))
    have hrf : r = false := by simpa using hq
    clear hr
    go_wp2_with fail
    go_ret
    exact ⟨false, rfl, ⟨fun h => (by cases h), fun h => (HN.out (h.2.2.1)).elim⟩, below1 _ _⟩
  have h2 := hidK (hr.1 hq)
  subst hq
  clear hr
  go_wp2_with fail
  refine (kwithin_any s 0 8 _).mono ?_
  rintro e w1 ⟨r, rfl, hr, rfl⟩
  by_cases hq : r = true
  case neg =>
    have HN := hidK (fun h => hq (hr.2 h))
    have hrf : r = false := by simpa using hq
    clear hr
    go_wp2_with fail
    go_ret
    exact ⟨false, rfl, ⟨fun h => (by cases h), fun h => (HN.out (h.2.2.2.1)).elim⟩, below1 _ _⟩
  have h3 := hidK (hr.1 hq)
  subst hq
  clear hr
  go_wp2_with fail
  refine (kwithin_any u 0 1000000 _).mono ?_
  rintro e w1 ⟨r, rfl, hr, rfl⟩
  by_cases hq : r = true
  case neg =>
    have HN := hidK (fun h => hq (hr.2 h))
    have hrf : r = false := by simpa using hq
    clear hr
    go_wp2_with fail
    go_ret
    exact ⟨false, rfl, ⟨fun h => (by cases h), fun h => (HN.out (h.2.2.2.2.1)).elim⟩, below1 _ _⟩
  have h4 := hidK (hr.1 hq)
  subst hq
  clear hr
  go_wp2_with fail
  refine (inames_any a len cap zs 8 _ (HR.out.below (below1 _ _))).mono ?_
  rintro e w1 ⟨r, rfl, hr, rfl⟩
  go_wp2_with fail
  go_ret
  exact ⟨r, rfl, ⟨fun h => ⟨h0.out, h1.out, h2.out, h3.out, h4.out, hr.1 h⟩, fun h => hr.2 h.2.2.2.2.2⟩, below1 _ _⟩

def ClassOk (n z : ByteArray) : Prop := NameOk n ∧ ZoneOk z

set_option maxHeartbeats 400000 in
theorem sclass_any (n z : ByteArray) (x y : Bool) (w : World) (hn : n.size ≤ 9223372036854775807) (hz : z.size ≤ 9223372036854775807) :
    Calls Tryz.prog 23 #[.agg #[.string n, .bool x, .bool y, .string z]] w (BoolB (ClassOk n z) w) := by
  go_enter Tryz.func23, Tryz.ntmps23
  go_wp2_with fail
  refine (sname_any n _ hn).mono ?_
  rintro e w1 ⟨r, rfl, hr, rfl⟩
  by_cases hq : r = true
  case neg =>
    have HN := hidK (fun h => hq (hr.2 h))
    have hrf : r = false := by simpa using hq
    clear hr
    go_wp2_with fail
    go_ret
    exact ⟨false, rfl, ⟨fun h => (by cases h), fun h => (HN.out (h.1)).elim⟩, below1 _ _⟩
  have h0 := hidK (hr.1 hq)
  subst hq
  clear hr
  go_wp2_with fail
  refine (szone_any z _ hz).mono ?_
  rintro e w1 ⟨r, rfl, hr, rfl⟩
  go_wp2_with fail
  go_ret
  exact ⟨r, rfl, ⟨fun h => ⟨h0.out, hr.1 h⟩, fun h => hr.2 h.2⟩, below1 _ _⟩

set_option maxHeartbeats 400000 in
theorem iclass_any (n z : ByteArray) (x y : Bool) (w : World) (hn : n.size ≤ 9223372036854775807) (hz : z.size ≤ 9223372036854775807) :
    Calls Tryz.prog 22 #[.agg #[.string n, .bool x, .bool y, .string z]] w (BoolB (ClassOk n z) w) := by
  go_enter Tryz.func22, Tryz.ntmps22
  go_wp2_with fail
  refine (iname_any n _ hn).mono ?_
  rintro e w1 ⟨r, rfl, hr, rfl⟩
  by_cases hq : r = true
  case neg =>
    have HN := hidK (fun h => hq (hr.2 h))
    have hrf : r = false := by simpa using hq
    clear hr
    go_wp2_with fail
    go_ret
    exact ⟨false, rfl, ⟨fun h => (by cases h), fun h => (HN.out (h.1)).elim⟩, below1 _ _⟩
  have h0 := hidK (hr.1 hq)
  subst hq
  clear hr
  go_wp2_with fail
  refine (izone_any z _ hz).mono ?_
  rintro e w1 ⟨r, rfl, hr, rfl⟩
  go_wp2_with fail
  go_ret
  exact ⟨r, rfl, ⟨fun h => ⟨h0.out, hr.1 h⟩, fun h => hr.2 h.2⟩, below1 _ _⟩

def ClaimOk (n : ByteArray) (z : Int) (k v : ByteArray) : Prop := NameOk n ∧ Inn z 1 1048576 ∧ NameOk k ∧ ZoneOk v

set_option maxHeartbeats 400000 in
theorem sclaim_any (n : ByteArray) (z : Int) (k : ByteArray) (x : Bool) (v : ByteArray) (w : World) (hn : n.size ≤ 9223372036854775807) (hk : k.size ≤ 9223372036854775807) (hv : v.size ≤ 9223372036854775807) :
    Calls Tryz.prog 27 #[.agg #[.string n, .int .i64 z, .string k, .bool x, .string v]] w (BoolB (ClaimOk n z k v) w) := by
  go_enter Tryz.func27, Tryz.ntmps27
  go_wp2_with fail
  refine (sname_any n _ hn).mono ?_
  rintro e w1 ⟨r, rfl, hr, rfl⟩
  by_cases hq : r = true
  case neg =>
    have HN := hidK (fun h => hq (hr.2 h))
    have hrf : r = false := by simpa using hq
    clear hr
    go_wp2_with fail
    go_ret
    exact ⟨false, rfl, ⟨fun h => (by cases h), fun h => (HN.out (h.1)).elim⟩, below1 _ _⟩
  have h0 := hidK (hr.1 hq)
  subst hq
  clear hr
  go_wp2_with fail
  refine (ksize_any z _).mono ?_
  rintro e w1 ⟨r, rfl, hr, rfl⟩
  by_cases hq : r = true
  case neg =>
    have HN := hidK (fun h => hq (hr.2 h))
    have hrf : r = false := by simpa using hq
    clear hr
    go_wp2_with fail
    go_ret
    exact ⟨false, rfl, ⟨fun h => (by cases h), fun h => (HN.out (h.2.1)).elim⟩, below1 _ _⟩
  have h1 := hidK (hr.1 hq)
  subst hq
  clear hr
  go_wp2_with fail
  refine (sname_any k _ hk).mono ?_
  rintro e w1 ⟨r, rfl, hr, rfl⟩
  by_cases hq : r = true
  case neg =>
    have HN := hidK (fun h => hq (hr.2 h))
    have hrf : r = false := by simpa using hq
    clear hr
    go_wp2_with fail
    go_ret
    exact ⟨false, rfl, ⟨fun h => (by cases h), fun h => (HN.out (h.2.2.1)).elim⟩, below1 _ _⟩
  have h2 := hidK (hr.1 hq)
  subst hq
  clear hr
  go_wp2_with fail
  refine (szone_any v _ hv).mono ?_
  rintro e w1 ⟨r, rfl, hr, rfl⟩
  go_wp2_with fail
  go_ret
  exact ⟨r, rfl, ⟨fun h => ⟨h0.out, h1.out, h2.out, hr.1 h⟩, fun h => hr.2 h.2.2.2⟩, below1 _ _⟩

set_option maxHeartbeats 400000 in
theorem iclaim_any (n : ByteArray) (z : Int) (k : ByteArray) (x : Bool) (v : ByteArray) (w : World) (hn : n.size ≤ 9223372036854775807) (hk : k.size ≤ 9223372036854775807) (hv : v.size ≤ 9223372036854775807) :
    Calls Tryz.prog 26 #[.agg #[.string n, .int .i64 z, .string k, .bool x, .string v]] w (BoolB (ClaimOk n z k v) w) := by
  go_enter Tryz.func26, Tryz.ntmps26
  go_wp2_with fail
  refine (iname_any n _ hn).mono ?_
  rintro e w1 ⟨r, rfl, hr, rfl⟩
  by_cases hq : r = true
  case neg =>
    have HN := hidK (fun h => hq (hr.2 h))
    have hrf : r = false := by simpa using hq
    clear hr
    go_wp2_with fail
    go_ret
    exact ⟨false, rfl, ⟨fun h => (by cases h), fun h => (HN.out (h.1)).elim⟩, below1 _ _⟩
  have h0 := hidK (hr.1 hq)
  subst hq
  clear hr
  go_wp2_with fail
  refine (kwithin_any z 1 1048576 _).mono ?_
  rintro e w1 ⟨r, rfl, hr, rfl⟩
  by_cases hq : r = true
  case neg =>
    have HN := hidK (fun h => hq (hr.2 h))
    have hrf : r = false := by simpa using hq
    clear hr
    go_wp2_with fail
    go_ret
    exact ⟨false, rfl, ⟨fun h => (by cases h), fun h => (HN.out (h.2.1)).elim⟩, below1 _ _⟩
  have h1 := hidK (hr.1 hq)
  subst hq
  clear hr
  go_wp2_with fail
  refine (iname_any k _ hk).mono ?_
  rintro e w1 ⟨r, rfl, hr, rfl⟩
  by_cases hq : r = true
  case neg =>
    have HN := hidK (fun h => hq (hr.2 h))
    have hrf : r = false := by simpa using hq
    clear hr
    go_wp2_with fail
    go_ret
    exact ⟨false, rfl, ⟨fun h => (by cases h), fun h => (HN.out (h.2.2.1)).elim⟩, below1 _ _⟩
  have h2 := hidK (hr.1 hq)
  subst hq
  clear hr
  go_wp2_with fail
  refine (izone_any v _ hv).mono ?_
  rintro e w1 ⟨r, rfl, hr, rfl⟩
  go_wp2_with fail
  go_ret
  exact ⟨r, rfl, ⟨fun h => ⟨h0.out, h1.out, h2.out, hr.1 h⟩, fun h => hr.2 h.2.2.2⟩, below1 _ _⟩

def SuitsOk (d : ByteArray) (p : Int) : Prop := (p = 0 ∧ d = ⟨#[]⟩) ∨ ((p = 1 ∨ p = 2) ∧ NameOk d)
def PodOk (n : ByteArray) (c : Int) (z : ByteArray) (zs : List ByteArray) (d : ByteArray) (p : Int) : Prop := NameOk n ∧ Inn c 0 1000000 ∧ ZoneOk z ∧ NamesOk zs 3 ∧ SuitsOk d p
theorem suits_pend (d : ByteArray) : SuitsOk d 0 ↔ d = ⟨#[]⟩ := by unfold SuitsOk; simp
theorem suits_on {p : Int} (d : ByteArray) (h : p = 1 ∨ p = 2) : SuitsOk d p ↔ NameOk d := by
  unfold SuitsOk
  constructor
  · rintro (⟨h1, _⟩ | ⟨_, h1⟩)
    · omega
    · exact h1
  · exact fun h1 => Or.inr ⟨h, h1⟩
theorem suits_no {p : Int} {d : ByteArray} (h : p < 0 ∨ 2 < p) : ¬ SuitsOk d p := by
  unfold SuitsOk
  rintro (⟨h1, _⟩ | ⟨h1, _⟩) <;> omega
theorem isE_iff (s : ByteArray) : s.toList.isEmpty = true ↔ s = ⟨#[]⟩ := by
  constructor
  · intro h
    by_cases h0 : s = ⟨#[]⟩
    · exact h0
    · rw [isE_no h0] at h; cases h
  · rintro rfl
    exact isE_yes

set_option maxHeartbeats 800000 in
theorem isuits_any (n : ByteArray) (c : Int) (z : ByteArray) (a : Option Addr) (len cap : Nat) (d : ByteArray) (p : Int) (w : World) (hd : d.size ≤ 9223372036854775807) :
    Calls Tryz.prog 71 #[.agg #[.string n, .int .i64 c, .string z, .slice a len cap, .string d, .int .i64 p]] w (BoolB (SuitsOk d p) w) := by
  by_cases h0 : p = 0
  · subst h0
    go_enter Tryz.func71, Tryz.ntmps71
    go_wp2
    go_ret
    exact ⟨_, rfl, by rw [suits_pend, isE_iff], below1 _ _⟩
  have hq0 : (p == 0) = false := by simp [h0]
  by_cases h1 : p = 1
  · subst h1
    go_enter Tryz.func71, Tryz.ntmps71
    go_wp2_with (go_at_call 59; refine (iname_any _ _ hd).mono ?_; rintro e w1 ⟨r, rfl, hr, rfl⟩)
    go_ret
    exact ⟨r, rfl, by rw [suits_on d (Or.inl rfl), hr], below1 _ _⟩
  have hq1 : (p == 1) = false := by simp [h1]
  by_cases h2 : p = 2
  · subst h2
    go_enter Tryz.func71, Tryz.ntmps71
    go_wp2_with (go_at_call 59; refine (iname_any _ _ hd).mono ?_; rintro e w1 ⟨r, rfl, hr, rfl⟩)
    go_ret
    exact ⟨r, rfl, by rw [suits_on d (Or.inr rfl), hr], below1 _ _⟩
  have hq2 : (p == 2) = false := by simp [h2]
  go_enter Tryz.func71, Tryz.ntmps71
  go_wp2
  go_ret
  exact ⟨false, rfl, ⟨fun h => (by cases h), fun h => absurd h (suits_no (by omega))⟩, below1 _ _⟩

set_option maxHeartbeats 800000 in
theorem ipod_any (n : ByteArray) (c : Int) (z : ByteArray) (a : Option Addr) (len cap : Nat) (zs : List ByteArray) (d : ByteArray) (p : Int) (w : World) (hn : n.size ≤ 9223372036854775807) (hz : z.size ≤ 9223372036854775807) (hd : d.size ≤ 9223372036854775807) (hr : TxRow w a len cap zs) :
    Calls Tryz.prog 28 #[.agg #[.string n, .int .i64 c, .string z, .slice a len cap, .string d, .int .i64 p]] w (BoolB (PodOk n c z zs d p) w) := by
  have HR : Hid (TxRow w a len cap zs) := hr
  clear hr
  go_enter Tryz.func28, Tryz.ntmps28
  go_wp2_with fail
  refine (iname_any n _ hn).mono ?_
  rintro e w1 ⟨r, rfl, hr, rfl⟩
  by_cases hq : r = true
  case neg =>
    have HN := hidK (fun h => hq (hr.2 h))
    have hrf : r = false := by simpa using hq
    clear hr
    go_wp2_with fail
    go_ret
    exact ⟨false, rfl, ⟨fun h => (by cases h), fun h => (HN.out (h.1)).elim⟩, below1 _ _⟩
  have h0 := hidK (hr.1 hq)
  subst hq
  clear hr
  go_wp2_with fail
  refine (kwithin_any c 0 1000000 _).mono ?_
  rintro e w1 ⟨r, rfl, hr, rfl⟩
  by_cases hq : r = true
  case neg =>
    have HN := hidK (fun h => hq (hr.2 h))
    have hrf : r = false := by simpa using hq
    clear hr
    go_wp2_with fail
    go_ret
    exact ⟨false, rfl, ⟨fun h => (by cases h), fun h => (HN.out (h.2.1)).elim⟩, below1 _ _⟩
  have h1 := hidK (hr.1 hq)
  subst hq
  clear hr
  go_wp2_with fail
  refine (izone_any z _ hz).mono ?_
  rintro e w1 ⟨r, rfl, hr, rfl⟩
  by_cases hq : r = true
  case neg =>
    have HN := hidK (fun h => hq (hr.2 h))
    have hrf : r = false := by simpa using hq
    clear hr
    go_wp2_with fail
    go_ret
    exact ⟨false, rfl, ⟨fun h => (by cases h), fun h => (HN.out (h.2.2.1)).elim⟩, below1 _ _⟩
  have h2 := hidK (hr.1 hq)
  subst hq
  clear hr
  go_wp2_with fail
  refine (inames_any a len cap zs 3 _ (HR.out.below (below1 _ _))).mono ?_
  rintro e w1 ⟨r, rfl, hr, rfl⟩
  by_cases hq : r = true
  case neg =>
    have HN := hidK (fun h => hq (hr.2 h))
    have hrf : r = false := by simpa using hq
    clear hr
    go_wp2_with fail
    go_ret
    exact ⟨false, rfl, ⟨fun h => (by cases h), fun h => (HN.out (h.2.2.2.1)).elim⟩, below1 _ _⟩
  have h3 := hidK (hr.1 hq)
  subst hq
  clear hr
  go_wp2_with fail
  refine (isuits_any n c z a len cap d p _ hd).mono ?_
  rintro e w1 ⟨r, rfl, hr, hb⟩
  go_wp2_with fail
  go_ret
  exact ⟨r, rfl, ⟨fun h => ⟨h0.out, h1.out, h2.out, h3.out, hr.1 h⟩, fun h => hr.2 h.2.2.2.2⟩, (slotK hb).2.1⟩

set_option maxHeartbeats 1600000 in
theorem spod_any (n : ByteArray) (c : Int) (z : ByteArray) (a : Option Addr) (len cap : Nat) (zs : List ByteArray) (d : ByteArray) (p : Int) (w : World) (hn : n.size ≤ 9223372036854775807) (hz : z.size ≤ 9223372036854775807) (hd : d.size ≤ 9223372036854775807) (hr : TxRow w a len cap zs) :
    Calls Tryz.prog 29 #[.agg #[.string n, .int .i64 c, .string z, .slice a len cap, .string d, .int .i64 p]] w (BoolB (PodOk n c z zs d p) w) := by
  have HR : Hid (TxRow w a len cap zs) := hr
  clear hr
  go_enter Tryz.func29, Tryz.ntmps29
  go_wp2_with fail
  refine (sname_any n _ hn).mono ?_
  rintro e w1 ⟨r, rfl, hr, rfl⟩
  by_cases hq : r = true
  case neg =>
    have HN := hidK (fun h => hq (hr.2 h))
    have hrf : r = false := by simpa using hq
    clear hr
    go_wp2_with fail
    go_ret
    exact ⟨false, rfl, ⟨fun h => (by cases h), fun h => (HN.out (h.1)).elim⟩, below1 _ _⟩
  have h0 := hidK (hr.1 hq)
  subst hq
  clear hr
  go_wp2_with fail
  refine (kcpu_any c _).mono ?_
  rintro e w1 ⟨r, rfl, hr, rfl⟩
  by_cases hq : r = true
  case neg =>
    have HN := hidK (fun h => hq (hr.2 h))
    have hrf : r = false := by simpa using hq
    clear hr
    go_wp2_with fail
    go_ret
    exact ⟨false, rfl, ⟨fun h => (by cases h), fun h => (HN.out (h.2.1)).elim⟩, below1 _ _⟩
  have h1 := hidK (hr.1 hq)
  subst hq
  clear hr
  go_wp2_with fail
  refine (szone_any z _ hz).mono ?_
  rintro e w1 ⟨r, rfl, hr, rfl⟩
  by_cases hq : r = true
  case neg =>
    have HN := hidK (fun h => hq (hr.2 h))
    have hrf : r = false := by simpa using hq
    clear hr
    go_wp2_with fail
    go_ret
    exact ⟨false, rfl, ⟨fun h => (by cases h), fun h => (HN.out (h.2.2.1)).elim⟩, below1 _ _⟩
  have h2 := hidK (hr.1 hq)
  subst hq
  clear hr
  go_wp2_with fail
  refine (snames_any a len cap zs 3 _ (HR.out.below (below1 _ _))).mono ?_
  rintro e w1 ⟨r, rfl, hr, hb⟩
  obtain ⟨hsl, hb1, -⟩ := slotK hb
  have HB : Hid (Below w.heap.size w w1) := hb1
  by_cases hq : r = true
  case neg =>
    have HN := hidK (fun h => hq (hr.2 h))
    have hrf : r = false := by simpa using hq
    clear hsl hb hb1 hr
    go_wp2_with fail
    go_ret
    exact ⟨false, rfl, ⟨fun h => (by cases h), fun h => (HN.out h.2.2.2.1).elim⟩, HB.out⟩
  have h3 := hidK (hr.1 hq)
  subst hq
  have hc4 : w1.cell? ⟨w.heap.size, 4, none⟩ = some (.string d) := cellK hsl 4
  have hc5 : w1.cell? ⟨w.heap.size, 5, none⟩ = some (.int .i64 p) := cellK hsl 5
  clear hr hsl hb hb1
  go_wp2_with fail
  refine (kis_any p 0 2 _).mono ?_
  rintro e w2 ⟨r, rfl, hr, rfl⟩
  by_cases hq : r = true
  case neg =>
    have HN := hidK (fun h => hq (hr.2 h))
    have hrf : r = false := by simpa using hq
    clear hr
    go_wp2_with fail
    go_ret
    exact ⟨false, rfl, ⟨fun h => (by cases h), fun h => absurd h.2.2.2.2 (suits_no (by have h9 : ¬ (0 ≤ p ∧ p ≤ 2) := HN.out; omega))⟩, HB.out⟩
  have h4 := hr.1 hq
  subst hq
  clear hr
  by_cases hp : p = 0
  · subst hp
    go_wp2_with fail
    go_ret
    exact ⟨_, rfl, ⟨fun h => ⟨h0.out, h1.out, h2.out, h3.out, (suits_pend d).2 ((isE_iff d).1 h)⟩, fun h => (isE_iff d).2 ((suits_pend d).1 h.2.2.2.2)⟩, HB.out⟩
  have hq : (p == 0) = false := by simp [hp]
  have hp2 : p = 1 ∨ p = 2 := by unfold Inn at h4; omega
  go_wp2_with fail
  refine (sname_any d _ hd).mono ?_
  rintro e w2 ⟨r, rfl, hr, rfl⟩
  go_wp2_with fail
  go_ret
  exact ⟨r, rfl, ⟨fun h => ⟨h0.out, h1.out, h2.out, h3.out, (suits_on d hp2).2 (hr.1 h)⟩, fun h => hr.2 ((suits_on d hp2).1 h.2.2.2.2)⟩, HB.out⟩

def VolOk (n : ByteArray) (c : Int) (z k : ByteArray) (x : Bool) (m : ByteArray) (y : Bool) (zs : List ByteArray) : Prop :=
  NameOk n ∧ Inn c 1 1048576 ∧ NameOk z ∧ NameOk k ∧ ZoneOk m ∧ (y = true → m = ⟨#[]⟩) ∧ NamesOk zs (if x = true then 1 else 6)

set_option maxHeartbeats 400000 in
theorem mostOn_any (n : ByteArray) (c : Int) (z k : ByteArray) (x : Bool) (m : ByteArray) (y : Bool) (a : Option Addr) (len cap : Nat) (w : World) :
    Calls Tryz.prog 69 #[.agg #[.string n, .int .i64 c, .string z, .string k, .bool x, .string m, .bool y, .slice a len cap]] w fun e w' => e = .returned (.int .i64 (if x = true then 1 else 6)) ∧ Below w.heap.size w w' := by
  cases x
  all_goals (
    go_enter Tryz.func69, Tryz.ntmps69
    go_wp2
    go_ret
    exact ⟨rfl, below1 _ _⟩)

theorem names_six {zs : List ByteArray} {x : Bool} (h : NamesOk zs (if x = true then 1 else 6)) : NamesOk zs 6 := by
  refine ⟨?_, h.2⟩
  have := h.1
  split at this <;> omega

set_option maxHeartbeats 3200000 in
theorem svol_any (n : ByteArray) (c : Int) (z k : ByteArray) (x : Bool) (m : ByteArray) (y : Bool) (a : Option Addr) (len cap : Nat) (zs : List ByteArray) (w : World) (hn : n.size ≤ 9223372036854775807) (hz : z.size ≤ 9223372036854775807) (hk : k.size ≤ 9223372036854775807) (hm : m.size ≤ 9223372036854775807) (hr : TxRow w a len cap zs) :
    Calls Tryz.prog 25 #[.agg #[.string n, .int .i64 c, .string z, .string k, .bool x, .string m, .bool y, .slice a len cap]] w (BoolB (VolOk n c z k x m y zs) w) := by
  have HR : Hid (TxRow w a len cap zs) := hr
  have hzl : zs.length = len := hr.1
  have hlc : len ≤ 9223372036854775807 := Nat.le_trans hr.2.1 hr.2.2.1
  clear hr
  cases y
  · have HY : Hid (false = true → m = ⟨#[]⟩) := fun h => (by cases h)
    go_enter Tryz.func25, Tryz.ntmps25
    go_wp2_with fail
    refine (sname_any n _ hn).mono ?_
    rintro e w1 ⟨r, rfl, hr, rfl⟩
    by_cases hq : r = true
    case neg =>
      have HN := hidK (fun h => hq (hr.2 h))
      have hrf : r = false := by simpa using hq
      clear hr
      go_wp2_with fail
      go_ret
      exact ⟨false, rfl, ⟨fun h => (by cases h), fun h => (HN.out (h.1)).elim⟩, below1 _ _⟩
    have h0 := hidK (hr.1 hq)
    subst hq
    clear hr
    go_wp2_with fail
    refine (ksize_any c _).mono ?_
    rintro e w1 ⟨r, rfl, hr, rfl⟩
    by_cases hq : r = true
    case neg =>
      have HN := hidK (fun h => hq (hr.2 h))
      have hrf : r = false := by simpa using hq
      clear hr
      go_wp2_with fail
      go_ret
      exact ⟨false, rfl, ⟨fun h => (by cases h), fun h => (HN.out (h.2.1)).elim⟩, below1 _ _⟩
    have h1 := hidK (hr.1 hq)
    subst hq
    clear hr
    go_wp2_with fail
    refine (sname_any z _ hz).mono ?_
    rintro e w1 ⟨r, rfl, hr, rfl⟩
    by_cases hq : r = true
    case neg =>
      have HN := hidK (fun h => hq (hr.2 h))
      have hrf : r = false := by simpa using hq
      clear hr
      go_wp2_with fail
      go_ret
      exact ⟨false, rfl, ⟨fun h => (by cases h), fun h => (HN.out (h.2.2.1)).elim⟩, below1 _ _⟩
    have h2 := hidK (hr.1 hq)
    subst hq
    clear hr
    go_wp2_with fail
    refine (sname_any k _ hk).mono ?_
    rintro e w1 ⟨r, rfl, hr, rfl⟩
    by_cases hq : r = true
    case neg =>
      have HN := hidK (fun h => hq (hr.2 h))
      have hrf : r = false := by simpa using hq
      clear hr
      go_wp2_with fail
      go_ret
      exact ⟨false, rfl, ⟨fun h => (by cases h), fun h => (HN.out (h.2.2.2.1)).elim⟩, below1 _ _⟩
    have h3 := hidK (hr.1 hq)
    subst hq
    clear hr
    go_wp2_with fail
    refine (szone_any _ _ hm).mono ?_
    rintro e w1 ⟨r, rfl, hr, rfl⟩
    by_cases hq : r = true
    case neg =>
      have HN := hidK (fun h => hq (hr.2 h))
      have hrf : r = false := by simpa using hq
      clear hr
      go_wp2_with fail
      go_ret
      exact ⟨false, rfl, ⟨fun h => (by cases h), fun h => (HN.out (h.2.2.2.2.1)).elim⟩, below1 _ _⟩
    have h4 := hidK (hr.1 hq)
    subst hq
    clear hr
    go_wp2_with fail
    refine (snames_any a len cap zs 6 _ (HR.out.below (below1 _ _))).mono ?_
    rintro e w1 ⟨r, rfl, hr, hb⟩
    obtain ⟨hsl, hb1, -⟩ := slotK hb
    have HB : Hid (Below w.heap.size w w1) := hb1
    by_cases hq : r = true
    case neg =>
      have HN := hidK (fun h => hq (hr.2 h))
      have hrf : r = false := by simpa using hq
      clear hsl hb hb1 hr
      go_wp2_with fail
      go_ret
      exact ⟨false, rfl, ⟨fun h => (by cases h), fun h => (HN.out (names_six h.2.2.2.2.2.2)).elim⟩, HB.out⟩
    have h6 := hidK (hr.1 hq)
    subst hq
    have hc4 : w1.cell? ⟨w.heap.size, 4, none⟩ = some (.bool x) := cellK hsl 4
    have hc7 : w1.cell? ⟨w.heap.size, 7, none⟩ = some (.slice a len cap) := cellK hsl 7
    clear hr hsl hb hb1
    cases x
    · go_wp2_with fail
      go_ret
      exact ⟨true, rfl, ⟨fun _ => ⟨h0.out, h1.out, h2.out, h3.out, h4.out, HY.out, by simpa using h6.out⟩, fun _ => rfl⟩, HB.out⟩
    · go_wp2_with fail
      go_ret
      refine ⟨_, rfl, ⟨fun h => ⟨h0.out, h1.out, h2.out, h3.out, h4.out, HY.out, ?_, h6.out.2⟩, fun h => ?_⟩, HB.out⟩
      · simp at h ⊢; omega
      · have := h.2.2.2.2.2.2.1
        simp at this ⊢; omega
  by_cases hm0 : m = ⟨#[]⟩
  · subst hm0
    have HY : Hid True := trivial
    go_enter Tryz.func25, Tryz.ntmps25
    go_wp2_with fail
    refine (sname_any n _ hn).mono ?_
    rintro e w1 ⟨r, rfl, hr, rfl⟩
    by_cases hq : r = true
    case neg =>
      have HN := hidK (fun h => hq (hr.2 h))
      have hrf : r = false := by simpa using hq
      clear hr
      go_wp2_with fail
      go_ret
      exact ⟨false, rfl, ⟨fun h => (by cases h), fun h => (HN.out (h.1)).elim⟩, below1 _ _⟩
    have h0 := hidK (hr.1 hq)
    subst hq
    clear hr
    go_wp2_with fail
    refine (ksize_any c _).mono ?_
    rintro e w1 ⟨r, rfl, hr, rfl⟩
    by_cases hq : r = true
    case neg =>
      have HN := hidK (fun h => hq (hr.2 h))
      have hrf : r = false := by simpa using hq
      clear hr
      go_wp2_with fail
      go_ret
      exact ⟨false, rfl, ⟨fun h => (by cases h), fun h => (HN.out (h.2.1)).elim⟩, below1 _ _⟩
    have h1 := hidK (hr.1 hq)
    subst hq
    clear hr
    go_wp2_with fail
    refine (sname_any z _ hz).mono ?_
    rintro e w1 ⟨r, rfl, hr, rfl⟩
    by_cases hq : r = true
    case neg =>
      have HN := hidK (fun h => hq (hr.2 h))
      have hrf : r = false := by simpa using hq
      clear hr
      go_wp2_with fail
      go_ret
      exact ⟨false, rfl, ⟨fun h => (by cases h), fun h => (HN.out (h.2.2.1)).elim⟩, below1 _ _⟩
    have h2 := hidK (hr.1 hq)
    subst hq
    clear hr
    go_wp2_with fail
    refine (sname_any k _ hk).mono ?_
    rintro e w1 ⟨r, rfl, hr, rfl⟩
    by_cases hq : r = true
    case neg =>
      have HN := hidK (fun h => hq (hr.2 h))
      have hrf : r = false := by simpa using hq
      clear hr
      go_wp2_with fail
      go_ret
      exact ⟨false, rfl, ⟨fun h => (by cases h), fun h => (HN.out (h.2.2.2.1)).elim⟩, below1 _ _⟩
    have h3 := hidK (hr.1 hq)
    subst hq
    clear hr
    go_wp2_with fail
    refine (szone_any _ _ hm).mono ?_
    rintro e w1 ⟨r, rfl, hr, rfl⟩
    by_cases hq : r = true
    case neg =>
      have HN := hidK (fun h => hq (hr.2 h))
      have hrf : r = false := by simpa using hq
      clear hr
      go_wp2_with fail
      go_ret
      exact ⟨false, rfl, ⟨fun h => (by cases h), fun h => (HN.out (h.2.2.2.2.1)).elim⟩, below1 _ _⟩
    have h4 := hidK (hr.1 hq)
    subst hq
    clear hr
    go_wp2_with fail
    refine (snames_any a len cap zs 6 _ (HR.out.below (below1 _ _))).mono ?_
    rintro e w1 ⟨r, rfl, hr, hb⟩
    obtain ⟨hsl, hb1, -⟩ := slotK hb
    have HB : Hid (Below w.heap.size w w1) := hb1
    by_cases hq : r = true
    case neg =>
      have HN := hidK (fun h => hq (hr.2 h))
      have hrf : r = false := by simpa using hq
      clear hsl hb hb1 hr
      go_wp2_with fail
      go_ret
      exact ⟨false, rfl, ⟨fun h => (by cases h), fun h => (HN.out (names_six h.2.2.2.2.2.2)).elim⟩, HB.out⟩
    have h6 := hidK (hr.1 hq)
    subst hq
    have hc4 : w1.cell? ⟨w.heap.size, 4, none⟩ = some (.bool x) := cellK hsl 4
    have hc7 : w1.cell? ⟨w.heap.size, 7, none⟩ = some (.slice a len cap) := cellK hsl 7
    clear hr hsl hb hb1
    cases x
    · go_wp2_with fail
      go_ret
      exact ⟨true, rfl, ⟨fun _ => ⟨h0.out, h1.out, h2.out, h3.out, h4.out, (fun _ => rfl), by simpa using h6.out⟩, fun _ => rfl⟩, HB.out⟩
    · go_wp2_with fail
      go_ret
      refine ⟨_, rfl, ⟨fun h => ⟨h0.out, h1.out, h2.out, h3.out, h4.out, (fun _ => rfl), ?_, h6.out.2⟩, fun h => ?_⟩, HB.out⟩
      · simp at h ⊢; omega
      · have := h.2.2.2.2.2.2.1
        simp at this ⊢; omega
  have hq9 : m.toList.isEmpty = false := isE_no hm0
  go_enter Tryz.func25, Tryz.ntmps25
  go_wp2_with fail
  refine (sname_any n _ hn).mono ?_
  rintro e w1 ⟨r, rfl, hr, rfl⟩
  by_cases hq : r = true
  case neg =>
    have HN := hidK (fun h => hq (hr.2 h))
    have hrf : r = false := by simpa using hq
    clear hr
    go_wp2_with fail
    go_ret
    exact ⟨false, rfl, ⟨fun h => (by cases h), fun h => (HN.out (h.1)).elim⟩, below1 _ _⟩
  have h0 := hidK (hr.1 hq)
  subst hq
  clear hr
  go_wp2_with fail
  refine (ksize_any c _).mono ?_
  rintro e w1 ⟨r, rfl, hr, rfl⟩
  by_cases hq : r = true
  case neg =>
    have HN := hidK (fun h => hq (hr.2 h))
    have hrf : r = false := by simpa using hq
    clear hr
    go_wp2_with fail
    go_ret
    exact ⟨false, rfl, ⟨fun h => (by cases h), fun h => (HN.out (h.2.1)).elim⟩, below1 _ _⟩
  have h1 := hidK (hr.1 hq)
  subst hq
  clear hr
  go_wp2_with fail
  refine (sname_any z _ hz).mono ?_
  rintro e w1 ⟨r, rfl, hr, rfl⟩
  by_cases hq : r = true
  case neg =>
    have HN := hidK (fun h => hq (hr.2 h))
    have hrf : r = false := by simpa using hq
    clear hr
    go_wp2_with fail
    go_ret
    exact ⟨false, rfl, ⟨fun h => (by cases h), fun h => (HN.out (h.2.2.1)).elim⟩, below1 _ _⟩
  have h2 := hidK (hr.1 hq)
  subst hq
  clear hr
  go_wp2_with fail
  refine (sname_any k _ hk).mono ?_
  rintro e w1 ⟨r, rfl, hr, rfl⟩
  by_cases hq : r = true
  case neg =>
    have HN := hidK (fun h => hq (hr.2 h))
    have hrf : r = false := by simpa using hq
    clear hr
    go_wp2_with fail
    go_ret
    exact ⟨false, rfl, ⟨fun h => (by cases h), fun h => (HN.out (h.2.2.2.1)).elim⟩, below1 _ _⟩
  have h3 := hidK (hr.1 hq)
  subst hq
  clear hr
  go_wp2_with fail
  refine (szone_any _ _ hm).mono ?_
  rintro e w1 ⟨r, rfl, hr, rfl⟩
  by_cases hq : r = true
  case neg =>
    have HN := hidK (fun h => hq (hr.2 h))
    have hrf : r = false := by simpa using hq
    clear hr
    go_wp2_with fail
    go_ret
    exact ⟨false, rfl, ⟨fun h => (by cases h), fun h => (HN.out (h.2.2.2.2.1)).elim⟩, below1 _ _⟩
  have h4 := hidK (hr.1 hq)
  subst hq
  clear hr
  go_wp2
  go_ret
  exact ⟨false, rfl, ⟨fun h => (by cases h), fun h => absurd (h.2.2.2.2.2.1 rfl) hm0⟩, below1 _ _⟩

theorem froK {w : World} {b : Nat} {vs : Array Value} {T : TypeId} (h : w.heap[b]? = some (.cells vs T (0, 0))) (i : Nat) : w.frozen? ⟨b, i, none⟩ = false := by simp [World.frozen?, h]
theorem TxRow.copy {w : World} {b len : Nat} {zs : List ByteArray} {T : TypeId} (h : w.heap[b]? = some (.cells (zs.map Value.string).toArray T (0, 0))) (hl : zs.length = len) (hl2 : len ≤ 1048576) (hs : ∀ (j : Nat) x, zs[j]? = some x → x.size ≤ 9223372036854775807) :
    TxRow w (some ⟨b, 0, none⟩) len len zs := by
  refine ⟨hl, Nat.le_refl _, by omega, hs, ?_⟩
  by_cases hz : zs = []
  · exact Or.inl hz
  refine Or.inr ⟨b, 0, rfl, ?_, fun j x hx => ?_⟩
  · rcases Nat.lt_or_ge b w.heap.size with h1 | h1
    · exact h1
    · rw [Array.getElem?_eq_none h1] at h; cases h
  · rw [cellK h]
    simp [hx]

theorem set_below {w w1 : World} {B b i : Nat} {v : Value} (hB : B ≤ b) (h : Below B w w1) : Below B w (w1.setCell ⟨b, i, none⟩ v) := h.setCell hB v
theorem lt_of_some {w : World} {b : Nat} {o : Obj} (h : w.heap[b]? = some o) : b < w.heap.size := by
  rcases Nat.lt_or_ge b w.heap.size with h1 | h1
  · exact h1
  · rw [Array.getElem?_eq_none h1] at h; cases h
theorem upK {w w' : World} {k : Nat} {o : Obj} (h : Hid (w.heap[k]? = some o)) (hb : Below w.heap.size w w') : Hid (w'.heap[k]? = some o) := (hb.block _ (lt_of_some h)).trans h
theorem upB {w w1 w2 : World} (h : Hid (Below w.heap.size w w1)) (hb : Below w1.heap.size w1 w2) : Hid (Below w.heap.size w w2) := Below.trans h (hb.mono (Below.size h))
theorem heap2_0 (w : World) (o p : Obj) : ((w.alloc o).alloc p).heap[w.heap.size]? = some o := by
  rw [Below.heap_alloc _ _ _ (by simp)]
  exact Array.getElem?_push_size
theorem heap2_1 (w : World) (o p : Obj) : ((w.alloc o).alloc p).heap[w.heap.size + 1]? = some p := by
  have h : w.heap.size + 1 = (w.alloc o).heap.size := by simp
  rw [h]
  exact Array.getElem?_push_size
theorem heap3_0 (w : World) (o p q : Obj) : (((w.alloc o).alloc p).alloc q).heap[w.heap.size]? = some o := by
  rw [Below.heap_alloc _ _ _ (by simp; omega), Below.heap_alloc _ _ _ (by simp)]
  show (w.heap.push _)[w.heap.size]? = _
  simp
theorem heap3_1 (w : World) (o p q : Obj) : (((w.alloc o).alloc p).alloc q).heap[w.heap.size + 1]? = some p := by
  rw [Below.heap_alloc _ _ _ (by simp)]
  have h : w.heap.size + 1 = (w.alloc o).heap.size := by simp
  rw [h]
  show ((w.alloc o).heap.push _)[(w.alloc o).heap.size]? = _
  exact Array.getElem?_push_size
theorem heap3_2 (w : World) (o p q : Obj) : (((w.alloc o).alloc p).alloc q).heap[w.heap.size + 1 + 1]? = some q := by
  have h : w.heap.size + 1 + 1 = ((w.alloc o).alloc p).heap.size := by simp
  rw [h]
  show (((w.alloc o).alloc p).heap.push _)[((w.alloc o).alloc p).heap.size]? = _
  exact Array.getElem?_push_size
theorem below2 (w : World) (o p : Obj) : Below w.heap.size w ((w.alloc o).alloc p) := (below1 w o).alloc (by simp) p
theorem below3 (w : World) (o p q : Obj) : Below w.heap.size w (((w.alloc o).alloc p).alloc q) := (below2 w o p).alloc (by simp; omega) q
namespace Dk

def DrewI (B : Nat) (w0 : World) (p : Nat) (v : Value) (len : Nat) (w : World) (e : Ending) (w' : World) : Prop := ∃ x : Int, e = .returned (.int .i64 x) ∧ -9223372036854775808 ≤ x ∧ x ≤ 9223372036854775807 ∧ Src B w0 p v len w' ∧ w.grownBy w' (some p)
theorem ints_at (l : List Int) (hall : ∀ x ∈ l, -9223372036854775808 ≤ x ∧ x ≤ 9223372036854775807) (k : Nat) (h : k < l.length) : ∃ x : Int, (l.map (Value.int .i64))[k]? = some (.int .i64 x) ∧ -9223372036854775808 ≤ x ∧ x ≤ 9223372036854775807 :=
  ⟨l[k], by simp [h], hall _ (List.getElem_mem h)⟩
def sizeL : List Int := [0, 1, 1023, 1024, 2048, 1048576, 1048577, -1024]

set_option maxHeartbeats 1600000 in
theorem l02Size_any {B : Nat} {w0 : World} {p : Nat} {v : Value} {len : Nat} {w : World} (h : Src B w0 p v len w) :
    Calls Tryz.prog 72 #[.pointer (some ⟨p, 0, none⟩)] w (DrewI B w0 p v len w) := by
  have H1 : Hid (Calls Tryz.prog 50 #[.pointer (some ⟨p, 0, none⟩), .int .i64 6] w (DrewBool B w0 p v len w)) := one_any h 6 (by decide)
  clear h
  go_enter Tryz.func72, Tryz.ntmps72
  go_wp2_with fail
  refine H1.out.mono ?_
  rintro e w1 ⟨he, hS1, hg1⟩
  have HS1 : Hid (Src B w0 p v len w1) := hS1
  have HG1 : Hid (w.grownBy w1 (some p)) := hg1
  clear hS1 hg1 H1
  rcases he with rfl | rfl
  · go_wp2_with fail
    have hS0 := HS1.out.keep (grown_alloc w1 (.cells (sizeL.map (Value.int .i64)).toArray 2) none) (by simp) (fun k hk => by cases hk)
    refine (hS0.n 8 (by decide)).mono ?_
    rintro e w2 ⟨r, rfl, r0, r1, hS2, hg2⟩
    obtain ⟨k, rfl⟩ := Int.eq_ofNat_of_zero_le r0
    have hk : k < 8 := by omega
    obtain ⟨x, hx, x0, x1⟩ := ints_at sizeL (by decide) k hk
    have hpw : p < w1.heap.size := HS1.out.plt
    have hblk : w2.heap[w1.heap.size]? = some (.cells (sizeL.map (Value.int .i64)).toArray 2 (0, 0)) := by
      rw [hg2.block w1.heap.size (by simp) (fun e => by simp at e; omega)]
      show (w1.heap.push _)[w1.heap.size]? = _
      simp
    have hc : w2.cell? ⟨w1.heap.size, k, none⟩ = some (.int .i64 x) := by
      simp only [World.cell?, hblk]
      simpa using hx
    have HS2 : Hid (Src B w0 p v len w2) := hS2
    have HG : Hid (w.grownBy w2 (some p)) := grown_trans HG1.out (grown_trans (grown_alloc w1 _ _) hg2)
    have hki : (k : Int) < 8 := by omega
    clear hS0 hS2 hg2 hblk hx HS1 HG1 r1 r0
    go_wp2
    go_ret
    exact ⟨x, rfl, x0, x1, HS2.out, HG.out⟩
  · go_wp2_with fail
    refine (HS1.out.n 90 (by decide)).mono ?_
    rintro e w2 ⟨r, rfl, r0, r1, hS2, hg2⟩
    have HS2 : Hid (Src B w0 p v len w2) := hS2
    have HG2 : Hid (w.grownBy w2 (some p)) := grown_trans HG1.out hg2
    have hr : r ≤ 90 := by omega
    clear hS2 hg2 HS1 HG1 r1
    go_wp2
    go_ret
    exact ⟨1 + r, rfl, by omega, by omega, HS2.out, HG2.out⟩

def DrewS (B : Nat) (w0 : World) (p : Nat) (v : Value) (len : Nat) (w : World) (n : Nat) (e : Ending) (w' : World) : Prop := ∃ t : ByteArray, e = .returned (.string t) ∧ t.size ≤ n ∧ Src B w0 p v len w' ∧ w.grownBy w' (some p)

set_option maxHeartbeats 1600000 in
theorem pick_any {B : Nat} {w0 : World} {p : Nat} {v : Value} {len : Nat} {w : World} (h : Src B w0 p v len w) (b n : Nat) (ss : List ByteArray) (T : TypeId) (hb : w.heap[b]? = some (.cells (ss.map Value.string).toArray T (0, 0))) (hbp : ¬ b = p) (hn : ss.length = n) (h0 : 0 < n) (h1 : n ≤ 100) (hz : ∀ x ∈ ss, x.size ≤ 100) :
    Calls Tryz.prog 41 #[.pointer (some ⟨p, 0, none⟩), .slice (some ⟨b, 0, none⟩) n n] w (DrewS B w0 p v len w 100) := by
  have HS : Hid (Src B w0 p v len w) := h
  have HB : Hid (w.heap[b]? = some (.cells (ss.map Value.string).toArray T (0, 0))) := hb
  have HZ : Hid (∀ x ∈ ss, x.size ≤ 100) := hz
  clear h hb hz
  go_enter Tryz.func41, Tryz.ntmps41
  go_wp2_with fail
  refine (HS.out.n n (by omega)).mono ?_
  rintro e w1 ⟨r, rfl, r0, r1, hS1, hg1⟩
  obtain ⟨k, rfl⟩ := Int.eq_ofNat_of_zero_le r0
  have hk : k < n := by omega
  have hblk : w1.heap[b]? = some (.cells (ss.map Value.string).toArray T (0, 0)) := by
    rw [hg1.block b (by
      rcases Nat.lt_or_ge b w.heap.size with h' | h'
      · exact h'
      · have := HB.out; rw [Array.getElem?_eq_none h'] at this; cases this) (fun e => by simp at e; omega)]
    exact HB.out
  have hkl : k < ss.length := by omega
  have hc : w1.cell? ⟨b, k, none⟩ = some (.string ss[k]) := by
    simp [World.cell?, hblk, hkl]
  have HX : Hid ((ss[k]).size ≤ 100) := HZ.out _ (List.getElem_mem hkl)
  have HS1 : Hid (Src B w0 p v len w1) := hS1
  have HG1 : Hid (w.grownBy w1 (some p)) := hg1
  clear hS1 hg1 hblk HS HB HZ r1 r0
  generalize ss[k] = x at hc HX
  go_wp2
  go_ret
  exact ⟨x, rfl, HX.out, HS1.out, HG1.out⟩

structure Dr (B : Nat) (w0 : World) (p : Nat) (v : Value) (len : Nat) (wa w : World) : Prop where
  src : Src B w0 p v len w
  gr : wa.grownBy w (some p)
  lt : p < wa.heap.size
theorem Dr.start {B : Nat} {w0 : World} {p : Nat} {v : Value} {len : Nat} {w : World} (h : Src B w0 p v len w) : Dr B w0 p v len w w := ⟨h, ⟨rfl, rfl, rfl, Nat.le_refl _, fun _ _ _ => rfl⟩, h.plt⟩
theorem Dr.size {B : Nat} {w0 : World} {p : Nat} {v : Value} {len : Nat} {wa w : World} (h : Dr B w0 p v len wa w) : wa.heap.size ≤ w.heap.size := h.gr.size
theorem Dr.alloc {B : Nat} {w0 : World} {p : Nat} {v : Value} {len : Nat} {wa w : World} (h : Dr B w0 p v len wa w) (o : Obj) : Dr B w0 p v len wa (w.alloc o) :=
  ⟨h.src.keep (grown_alloc w o none) (by simp) (fun k hk => by cases hk), grown_trans h.gr (grown_alloc w o _), h.lt⟩
theorem Dr.set {B : Nat} {w0 : World} {p : Nat} {v : Value} {len : Nat} {wa w : World} (h : Dr B w0 p v len wa w) {b i : Nat} (x : Value) (hb : wa.heap.size ≤ b) : Dr B w0 p v len wa (w.setCell ⟨b, i, none⟩ x) := by
  have hl := h.lt
  have hB : B ≤ p := h.src.1
  refine ⟨h.src.keep (grown_set w b i x) (fun e => by simp at e; omega) (fun k hk => by simp at hk; omega), ?_, h.lt⟩
  exact grown_app h.gr (grown_set w b i x) (fun k hk => by simp at hk; omega)
theorem Dr.next {B : Nat} {w0 : World} {p : Nat} {v : Value} {len : Nat} {wa w w' : World} (h : Dr B w0 p v len wa w) (hs : Src B w0 p v len w') (hg : w.grownBy w' (some p)) : Dr B w0 p v len wa w' := ⟨hs, grown_trans h.gr hg, h.lt⟩
theorem Dr.below {B : Nat} {w0 : World} {p : Nat} {v : Value} {len : Nat} {wa w w' : World} (h : Dr B w0 p v len wa w) (hb : Below w.heap.size w w') : Dr B w0 p v len wa w' :=
  ⟨h.src.keep (row := none) ⟨hb.os, hb.tape, hb.output, hb.size, fun k hk _ => hb.block k hk⟩ (by simp) (fun k hk => by cases hk), grown_trans h.gr ⟨hb.os, hb.tape, hb.output, hb.size, fun k hk _ => hb.block k hk⟩, h.lt⟩
theorem gk {w w' : World} {p k : Nat} {o : Obj} (hg : w.grownBy w' (some p)) (hn : ¬ k = p) (h : w.heap[k]? = some o) : w'.heap[k]? = some o :=
  (hg.block k (lt_of_some h) (fun e => hn (by simpa using e))).trans h

theorem pick_new {B : Nat} {w0 : World} {p : Nat} {v : Value} {len : Nat} {w : World} (h : Src B w0 p v len w) (ss : List ByteArray) (n b : Nat) (T : TypeId) (hq : b = w.heap.size) (hn : ss.length = n) (h0 : 0 < n) (h1 : n ≤ 100) (hz : ∀ x ∈ ss, x.size ≤ 100) :
    Calls Tryz.prog 41 #[.pointer (some ⟨p, 0, none⟩), .slice (some ⟨b, 0, none⟩) n n] (w.alloc (.cells (ss.map Value.string).toArray T)) (DrewS B w0 p v len w 100) := by
  subst hq
  have h2 : Src B w0 p v len (w.alloc (.cells (ss.map Value.string).toArray T)) := h.keep (grown_alloc w _ none) (by simp) (fun k hk => by cases hk)
  refine (pick_any h2 w.heap.size n ss T Array.getElem?_push_size (by have := h.plt; omega) hn h0 h1 hz).mono ?_
  rintro e w' ⟨t, rfl, ht, hs, hg⟩
  exact ⟨t, rfl, ht, hs, grown_trans (grown_alloc w _ _) hg⟩

set_option maxHeartbeats 800000 in
theorem zone_any {B : Nat} {w0 : World} {p : Nat} {v : Value} {len : Nat} {w : World} (h : Src B w0 p v len w) :
    Calls Tryz.prog 48 #[.pointer (some ⟨p, 0, none⟩)] w (DrewS B w0 p v len w 100) := by
  have HS := hidK h
  clear h
  go_enter Tryz.func48, Tryz.ntmps48
  go_wp2_with fail
  refine (pick_new HS.out [⟨#[101, 97, 115, 116]⟩, ⟨#[119, 101, 115, 116]⟩] 2 _ _ rfl rfl (by decide) (by decide) (by decide)).mono ?_
  rintro e w1 ⟨t, rfl, ht, hs, hg⟩
  have HR : Hid (t.size ≤ 100 ∧ Src B w0 p v len w1 ∧ w.grownBy w1 (some p)) := ⟨ht, hs, hg⟩
  clear ht hs hg
  go_wp2_with fail
  go_ret
  exact ⟨t, rfl, HR.out⟩

set_option maxHeartbeats 800000 in
theorem bad_any {B : Nat} {w0 : World} {p : Nat} {v : Value} {len : Nat} {w : World} (h : Src B w0 p v len w) :
    Calls Tryz.prog 73 #[.pointer (some ⟨p, 0, none⟩)] w (DrewS B w0 p v len w 100) := by
  have HS := hidK h
  clear h
  go_enter Tryz.func73, Tryz.ntmps73
  go_wp2_with fail
  refine (pick_new HS.out [⟨#[]⟩, ⟨#[65]⟩, ⟨#[49, 50, 51]⟩] 3 _ _ rfl rfl (by decide) (by decide) (by decide)).mono ?_
  rintro e w1 ⟨t, rfl, ht, hs, hg⟩
  have HR : Hid (t.size ≤ 100 ∧ Src B w0 p v len w1 ∧ w.grownBy w1 (some p)) := ⟨ht, hs, hg⟩
  clear ht hs hg
  go_wp2_with fail
  go_ret
  exact ⟨t, rfl, HR.out⟩

end Dk
namespace Dk

def DrewC (B : Nat) (w0 : World) (p : Nat) (v : Value) (len : Nat) (w : World) (e : Ending) (w' : World) : Prop :=
  ∃ n c k x u, e = .returned (.agg #[.string n, .int .i64 c, .string k, .bool x, .string u]) ∧ n.size ≤ 100 ∧ k.size ≤ 100 ∧ u.size ≤ 100 ∧ Dr B w0 p v len w w'
theorem push_at (X : World) (o : Obj) (n : Nat) (h : X.heap.size = n) : (X.alloc o).heap[n]? = some o := by
  subst h
  exact Array.getElem?_push_size
theorem bool_of {e : Ending} (h : e = .returned (.bool true) ∨ e = .returned (.bool false)) : ∃ b, e = .returned (.bool b) := by
  rcases h with h | h
  · exact ⟨true, h⟩
  · exact ⟨false, h⟩

set_option maxHeartbeats 3200000 in
theorem claim_any {B : Nat} {w0 : World} {p : Nat} {v : Value} {len : Nat} {w : World} (h : Src B w0 p v len w) :
    Calls Tryz.prog 31 #[.pointer (some ⟨p, 0, none⟩)] w (DrewC B w0 p v len w) := by
  have HD0 := hidK ((Dr.start h).alloc (.cells #[.string ⟨#[]⟩, .int .i64 0, .string ⟨#[]⟩, .bool false, .string ⟨#[]⟩] 24))
  have HP := hidK h.plt
  have G0 : Hid ((w.alloc (.cells #[.string ⟨#[]⟩, .int .i64 0, .string ⟨#[]⟩, .bool false, .string ⟨#[]⟩] 24)).heap[w.heap.size]? = some (.cells #[.string ⟨#[]⟩, .int .i64 0, .string ⟨#[]⟩, .bool false, .string ⟨#[]⟩] 24 (0, 0))) := Array.getElem?_push_size
  clear h
  go_enter Tryz.func31, Tryz.ntmps31
  go_wp2_with fail
  refine (pick_new HD0.out.src [⟨#[99, 49]⟩, ⟨#[99, 50]⟩, ⟨#[99, 51]⟩, ⟨#[99, 52]⟩] 4 _ _ (by simp) rfl (by decide) (by decide) (by decide)).mono ?_
  rintro e w1 ⟨t1, rfl, ht1, hs, hg⟩
  have HD1 := hidK (HD0.out.next hs hg)
  have G1 := hidK (gk hg (by have := HP.out; omega) G0.out)
  clear hs hg G0 HD0
  go_wp2_with fail
  refine (HD1.out.src.n 12 (by decide)).mono ?_
  rintro e w2 ⟨r2, rfl, ra2, rb2, hs, hg⟩
  have HD2 := hidK (HD1.out.next hs hg)
  have G2 := hidK (gk hg (by have := HP.out; omega) G1.out)
  clear hs hg G1 HD1
  have rc2 : r2 ≤ 12 := by omega
  clear rb2
  go_wp2_with fail
  refine (pick_new HD2.out.src [⟨#[102, 97, 115, 116]⟩, ⟨#[115, 108, 111, 119]⟩, ⟨#[115, 108, 111, 119]⟩] 3 _ _ (by simp) rfl (by decide) (by decide) (by decide)).mono ?_
  rintro e w3 ⟨t3, rfl, ht3, hs, hg⟩
  have HD3 := hidK (HD2.out.next hs hg)
  have G3 := hidK (gk hg (by have := HP.out; omega) G2.out)
  clear hs hg G2 HD2
  go_wp2_with fail
  refine (one_any HD3.out.src 4 (by decide)).mono ?_
  rintro e w4 ⟨he, hs, hg⟩
  obtain ⟨x4, rfl⟩ := bool_of he
  clear he
  have HD4 := hidK (HD3.out.next hs hg)
  have G4 := hidK (gk hg (by have := HP.out; omega) G3.out)
  clear hs hg G3 HD3
  have HDA := hidK (HD4.out.alloc (.cells #[.string t1, .int .i64 (1 + r2), .string t3, .bool (!x4), .string ⟨#[]⟩] 24))
  have hA : w.heap.size < w4.heap.size := lt_of_some G4.out
  have GA : Hid ((w4.alloc (.cells #[.string t1, .int .i64 (1 + r2), .string t3, .bool (!x4), .string ⟨#[]⟩] 24)).heap[w4.heap.size]? = some (.cells #[.string t1, .int .i64 (1 + r2), .string t3, .bool (!x4), .string ⟨#[]⟩] 24 (0, 0))) := Array.getElem?_push_size
  have GB := hidK ((Below.heap_alloc w4 (.cells #[.string t1, .int .i64 (1 + r2), .string t3, .bool (!x4), .string ⟨#[]⟩] 24) _ hA).trans G4.out)
  clear HD4 G4
  go_wp2_with fail
  refine (one_any HDA.out.src 15 (by decide)).mono ?_
  rintro e w5 ⟨he, hs, hg⟩
  have HDJ := hidK (HDA.out.next hs hg)
  have hpn := HP.out
  have GA' := hidK (gk hg (by omega) GA.out)
  have GB' := hidK (gk hg (by omega) GB.out)
  clear hs hg GA GB HDA
  rcases he with rfl | rfl
  · go_wp2_with fail
    refine (HDJ.out.src.n 3 (by decide)).mono ?_
    rintro e w6 ⟨r6, rfl, ra6, rb6, hs, hg⟩
    have HD6 := hidK (HDJ.out.next hs hg)
    have GA6 := hidK (gk hg (by omega) GA'.out)
    have GB6 := hidK (gk hg (by omega) GB'.out)
    clear hs hg GA' GB' HDJ rb6
    by_cases h0 : r6 = 0
    · subst h0
      go_wp2_with fail
      refine (l02Size_any HD6.out.src).mono ?_
      rintro e w7 ⟨r7, rfl, ra7, rb7, hs, hg⟩
      have HD7 := hidK (HD6.out.next hs hg)
      have GA7 := hidK (gk hg (by omega) GA6.out)
      have GB7 := hidK (gk hg (by omega) GB6.out)
      clear hs hg GA6 GB6 HD6
      have q3 := GA7.out
      have q2 := GB7.out
      have y0 : w7.cell? ⟨w4.heap.size, 0, none⟩ = some (.string t1) := cellK q3 0
      have yf0 : w7.frozen? ⟨w4.heap.size, 0, none⟩ = false := froK q3 0
      have y1 : w7.cell? ⟨w4.heap.size, 1, none⟩ = some (.int .i64 (1 + r2)) := cellK q3 1
      have yf1 : w7.frozen? ⟨w4.heap.size, 1, none⟩ = false := froK q3 1
      have y2 : w7.cell? ⟨w4.heap.size, 2, none⟩ = some (.string t3) := cellK q3 2
      have yf2 : w7.frozen? ⟨w4.heap.size, 2, none⟩ = false := froK q3 2
      have y3 : w7.cell? ⟨w4.heap.size, 3, none⟩ = some (.bool (!x4)) := cellK q3 3
      have yf3 : w7.frozen? ⟨w4.heap.size, 3, none⟩ = false := froK q3 3
      have y4 : w7.cell? ⟨w4.heap.size, 4, none⟩ = some (.string ⟨#[]⟩) := cellK q3 4
      have yf4 : w7.frozen? ⟨w4.heap.size, 4, none⟩ = false := froK q3 4
      have z0 : w7.cell? ⟨w.heap.size, 0, none⟩ = some (.string ⟨#[]⟩) := cellK q2 0
      have zf0 : w7.frozen? ⟨w.heap.size, 0, none⟩ = false := froK q2 0
      have z1 : w7.cell? ⟨w.heap.size, 1, none⟩ = some (.int .i64 0) := cellK q2 1
      have zf1 : w7.frozen? ⟨w.heap.size, 1, none⟩ = false := froK q2 1
      have z2 : w7.cell? ⟨w.heap.size, 2, none⟩ = some (.string ⟨#[]⟩) := cellK q2 2
      have zf2 : w7.frozen? ⟨w.heap.size, 2, none⟩ = false := froK q2 2
      have z3 : w7.cell? ⟨w.heap.size, 3, none⟩ = some (.bool false) := cellK q2 3
      have zf3 : w7.frozen? ⟨w.heap.size, 3, none⟩ = false := froK q2 3
      have z4 : w7.cell? ⟨w.heap.size, 4, none⟩ = some (.string ⟨#[]⟩) := cellK q2 4
      have zf4 : w7.frozen? ⟨w.heap.size, 4, none⟩ = false := froK q2 4
      clear q2 q3
      go_wp2_with fail
      exact bodyPost_ret (v := .agg #[.string t1, .int .i64 r7, .string t3, .bool (!x4), .string ⟨#[]⟩]) (by simp [results, Tryz.results31, go_sem, *]) rfl ⟨_, _, _, _, _, rfl, ht1, ht3, (by decide), ((((((HD7.out.set (b := w4.heap.size) (i := 1) _ (Nat.le_of_lt hA)).set (b := w.heap.size) (i := 0) _ (Nat.le_refl _)).set (b := w.heap.size) (i := 1) _ (Nat.le_refl _)).set (b := w.heap.size) (i := 2) _ (Nat.le_refl _)).set (b := w.heap.size) (i := 3) _ (Nat.le_refl _)).set (b := w.heap.size) (i := 4) _ (Nat.le_refl _))⟩
    have q60 : (r6 == 0) = false := by simp [h0]
    by_cases h1 : r6 = 1
    · subst h1
      go_wp2_with fail
      refine (bad_any HD6.out.src).mono ?_
      rintro e w7 ⟨t7, rfl, ht7, hs, hg⟩
      have HD7 := hidK (HD6.out.next hs hg)
      have GA7 := hidK (gk hg (by omega) GA6.out)
      have GB7 := hidK (gk hg (by omega) GB6.out)
      clear hs hg GA6 GB6 HD6
      have q3 := GA7.out
      have q2 := GB7.out
      have y0 : w7.cell? ⟨w4.heap.size, 0, none⟩ = some (.string t1) := cellK q3 0
      have yf0 : w7.frozen? ⟨w4.heap.size, 0, none⟩ = false := froK q3 0
      have y1 : w7.cell? ⟨w4.heap.size, 1, none⟩ = some (.int .i64 (1 + r2)) := cellK q3 1
      have yf1 : w7.frozen? ⟨w4.heap.size, 1, none⟩ = false := froK q3 1
      have y2 : w7.cell? ⟨w4.heap.size, 2, none⟩ = some (.string t3) := cellK q3 2
      have yf2 : w7.frozen? ⟨w4.heap.size, 2, none⟩ = false := froK q3 2
      have y3 : w7.cell? ⟨w4.heap.size, 3, none⟩ = some (.bool (!x4)) := cellK q3 3
      have yf3 : w7.frozen? ⟨w4.heap.size, 3, none⟩ = false := froK q3 3
      have y4 : w7.cell? ⟨w4.heap.size, 4, none⟩ = some (.string ⟨#[]⟩) := cellK q3 4
      have yf4 : w7.frozen? ⟨w4.heap.size, 4, none⟩ = false := froK q3 4
      have z0 : w7.cell? ⟨w.heap.size, 0, none⟩ = some (.string ⟨#[]⟩) := cellK q2 0
      have zf0 : w7.frozen? ⟨w.heap.size, 0, none⟩ = false := froK q2 0
      have z1 : w7.cell? ⟨w.heap.size, 1, none⟩ = some (.int .i64 0) := cellK q2 1
      have zf1 : w7.frozen? ⟨w.heap.size, 1, none⟩ = false := froK q2 1
      have z2 : w7.cell? ⟨w.heap.size, 2, none⟩ = some (.string ⟨#[]⟩) := cellK q2 2
      have zf2 : w7.frozen? ⟨w.heap.size, 2, none⟩ = false := froK q2 2
      have z3 : w7.cell? ⟨w.heap.size, 3, none⟩ = some (.bool false) := cellK q2 3
      have zf3 : w7.frozen? ⟨w.heap.size, 3, none⟩ = false := froK q2 3
      have z4 : w7.cell? ⟨w.heap.size, 4, none⟩ = some (.string ⟨#[]⟩) := cellK q2 4
      have zf4 : w7.frozen? ⟨w.heap.size, 4, none⟩ = false := froK q2 4
      clear q2 q3
      go_wp2_with fail
      exact bodyPost_ret (v := .agg #[.string t1, .int .i64 (1 + r2), .string t7, .bool (!x4), .string ⟨#[]⟩]) (by simp [results, Tryz.results31, go_sem, *]) rfl ⟨_, _, _, _, _, rfl, ht1, ht7, (by decide), ((((((HD7.out.set (b := w4.heap.size) (i := 2) _ (Nat.le_of_lt hA)).set (b := w.heap.size) (i := 0) _ (Nat.le_refl _)).set (b := w.heap.size) (i := 1) _ (Nat.le_refl _)).set (b := w.heap.size) (i := 2) _ (Nat.le_refl _)).set (b := w.heap.size) (i := 3) _ (Nat.le_refl _)).set (b := w.heap.size) (i := 4) _ (Nat.le_refl _))⟩
    have q61 : (r6 == 1) = false := by simp [h1]
    clear h0 h1
    go_wp2_with fail
    refine (pick_new HD6.out.src [⟨#[100, 49]⟩, ⟨#[65]⟩] 2 _ _ (by simp) rfl (by decide) (by decide) (by decide)).mono ?_
    rintro e w7 ⟨t7, rfl, ht7, hs, hg⟩
    have HD7 := hidK (HD6.out.next hs hg)
    have GA7 := hidK (gk hg (by omega) GA6.out)
    have GB7 := hidK (gk hg (by omega) GB6.out)
    clear hs hg GA6 GB6 HD6
    have q3 := GA7.out
    have q2 := GB7.out
    have y0 : w7.cell? ⟨w4.heap.size, 0, none⟩ = some (.string t1) := cellK q3 0
    have yf0 : w7.frozen? ⟨w4.heap.size, 0, none⟩ = false := froK q3 0
    have y1 : w7.cell? ⟨w4.heap.size, 1, none⟩ = some (.int .i64 (1 + r2)) := cellK q3 1
    have yf1 : w7.frozen? ⟨w4.heap.size, 1, none⟩ = false := froK q3 1
    have y2 : w7.cell? ⟨w4.heap.size, 2, none⟩ = some (.string t3) := cellK q3 2
    have yf2 : w7.frozen? ⟨w4.heap.size, 2, none⟩ = false := froK q3 2
    have y3 : w7.cell? ⟨w4.heap.size, 3, none⟩ = some (.bool (!x4)) := cellK q3 3
    have yf3 : w7.frozen? ⟨w4.heap.size, 3, none⟩ = false := froK q3 3
    have y4 : w7.cell? ⟨w4.heap.size, 4, none⟩ = some (.string ⟨#[]⟩) := cellK q3 4
    have yf4 : w7.frozen? ⟨w4.heap.size, 4, none⟩ = false := froK q3 4
    have z0 : w7.cell? ⟨w.heap.size, 0, none⟩ = some (.string ⟨#[]⟩) := cellK q2 0
    have zf0 : w7.frozen? ⟨w.heap.size, 0, none⟩ = false := froK q2 0
    have z1 : w7.cell? ⟨w.heap.size, 1, none⟩ = some (.int .i64 0) := cellK q2 1
    have zf1 : w7.frozen? ⟨w.heap.size, 1, none⟩ = false := froK q2 1
    have z2 : w7.cell? ⟨w.heap.size, 2, none⟩ = some (.string ⟨#[]⟩) := cellK q2 2
    have zf2 : w7.frozen? ⟨w.heap.size, 2, none⟩ = false := froK q2 2
    have z3 : w7.cell? ⟨w.heap.size, 3, none⟩ = some (.bool false) := cellK q2 3
    have zf3 : w7.frozen? ⟨w.heap.size, 3, none⟩ = false := froK q2 3
    have z4 : w7.cell? ⟨w.heap.size, 4, none⟩ = some (.string ⟨#[]⟩) := cellK q2 4
    have zf4 : w7.frozen? ⟨w.heap.size, 4, none⟩ = false := froK q2 4
    clear q2 q3
    go_wp2_with fail
    exact bodyPost_ret (v := .agg #[.string t1, .int .i64 (1 + r2), .string t3, .bool (!x4), .string t7]) (by simp [results, Tryz.results31, go_sem, *]) rfl ⟨_, _, _, _, _, rfl, ht1, ht3, ht7, ((((((HD7.out.set (b := w4.heap.size) (i := 4) _ (Nat.le_of_lt hA)).set (b := w.heap.size) (i := 0) _ (Nat.le_refl _)).set (b := w.heap.size) (i := 1) _ (Nat.le_refl _)).set (b := w.heap.size) (i := 2) _ (Nat.le_refl _)).set (b := w.heap.size) (i := 3) _ (Nat.le_refl _)).set (b := w.heap.size) (i := 4) _ (Nat.le_refl _))⟩
  · skip
    have q3 := GA'.out
    have q2 := GB'.out
    have y0 : w5.cell? ⟨w4.heap.size, 0, none⟩ = some (.string t1) := cellK q3 0
    have yf0 : w5.frozen? ⟨w4.heap.size, 0, none⟩ = false := froK q3 0
    have y1 : w5.cell? ⟨w4.heap.size, 1, none⟩ = some (.int .i64 (1 + r2)) := cellK q3 1
    have yf1 : w5.frozen? ⟨w4.heap.size, 1, none⟩ = false := froK q3 1
    have y2 : w5.cell? ⟨w4.heap.size, 2, none⟩ = some (.string t3) := cellK q3 2
    have yf2 : w5.frozen? ⟨w4.heap.size, 2, none⟩ = false := froK q3 2
    have y3 : w5.cell? ⟨w4.heap.size, 3, none⟩ = some (.bool (!x4)) := cellK q3 3
    have yf3 : w5.frozen? ⟨w4.heap.size, 3, none⟩ = false := froK q3 3
    have y4 : w5.cell? ⟨w4.heap.size, 4, none⟩ = some (.string ⟨#[]⟩) := cellK q3 4
    have yf4 : w5.frozen? ⟨w4.heap.size, 4, none⟩ = false := froK q3 4
    have z0 : w5.cell? ⟨w.heap.size, 0, none⟩ = some (.string ⟨#[]⟩) := cellK q2 0
    have zf0 : w5.frozen? ⟨w.heap.size, 0, none⟩ = false := froK q2 0
    have z1 : w5.cell? ⟨w.heap.size, 1, none⟩ = some (.int .i64 0) := cellK q2 1
    have zf1 : w5.frozen? ⟨w.heap.size, 1, none⟩ = false := froK q2 1
    have z2 : w5.cell? ⟨w.heap.size, 2, none⟩ = some (.string ⟨#[]⟩) := cellK q2 2
    have zf2 : w5.frozen? ⟨w.heap.size, 2, none⟩ = false := froK q2 2
    have z3 : w5.cell? ⟨w.heap.size, 3, none⟩ = some (.bool false) := cellK q2 3
    have zf3 : w5.frozen? ⟨w.heap.size, 3, none⟩ = false := froK q2 3
    have z4 : w5.cell? ⟨w.heap.size, 4, none⟩ = some (.string ⟨#[]⟩) := cellK q2 4
    have zf4 : w5.frozen? ⟨w.heap.size, 4, none⟩ = false := froK q2 4
    clear q2 q3
    go_wp2_with fail
    exact bodyPost_ret (v := .agg #[.string t1, .int .i64 (1 + r2), .string t3, .bool (!x4), .string ⟨#[]⟩]) (by simp [results, Tryz.results31, go_sem, *]) rfl ⟨_, _, _, _, _, rfl, ht1, ht3, (by decide), (((((HDJ.out.set (b := w.heap.size) (i := 0) _ (Nat.le_refl _)).set (b := w.heap.size) (i := 1) _ (Nat.le_refl _)).set (b := w.heap.size) (i := 2) _ (Nat.le_refl _)).set (b := w.heap.size) (i := 3) _ (Nat.le_refl _)).set (b := w.heap.size) (i := 4) _ (Nat.le_refl _))⟩

end Dk
end Go.Proofs.YtfhlhckjgdmgkaaGreatDoor

namespace Go.Proofs.YtfhlhckjgdmgkaaGreatDoor

def val (l : List UInt8) : Nat := l.foldl (fun a b => 10 * a + (b.toNat - 48)) 0
def isDig (b : UInt8) : Prop := 48 ≤ b.toNat ∧ b.toNat ≤ 57
theorem val_nil : val [] = 0 := rfl
theorem val_snoc (l : List UInt8) (b : UInt8) : val (l ++ [b]) = 10 * val l + (b.toNat - 48) := by simp [val]
theorem dig_toNat {k : Nat} (h : k < 10) : (UInt8.ofNat (48 + k)).toNat = 48 + k := by
  rw [UInt8.toNat_ofNat']; omega
theorem dec_val (u : Nat) : val (Lib.decDigits u) = u := by
  induction u using Nat.strongRecOn with
  | ind u ih =>
    rw [Lib.decDigits]
    split
    · rename_i h
      have := val_snoc [] (UInt8.ofNat (48 + u))
      simp only [List.nil_append] at this
      rw [this, val_nil, dig_toNat h]; omega
    · rename_i h
      rw [val_snoc, ih (u / 10) (by omega), dig_toNat (Nat.mod_lt _ (by omega))]; omega
theorem dec_dig (u : Nat) : ∀ b ∈ Lib.decDigits u, isDig b := by
  induction u using Nat.strongRecOn with
  | ind u ih =>
    rw [Lib.decDigits]
    split
    · rename_i h
      intro b hb
      obtain rfl := List.mem_singleton.1 hb
      unfold isDig
      rw [dig_toNat h]; omega
    · rename_i h
      intro b hb
      rcases List.mem_append.1 hb with hb | hb
      · exact ih (u / 10) (by omega) b hb
      · obtain rfl := List.mem_singleton.1 hb
        unfold isDig
        rw [dig_toNat (Nat.mod_lt _ (by omega))]; omega
theorem dec_ne (u : Nat) : Lib.decDigits u ≠ [] := by
  intro h
  have := Lib.decDigits_length u
  rw [h] at this
  have := Lib.nDigits_pos u
  simp at *; omega
theorem dec_len {u k : Nat} (h : u < 10 ^ (k + 1)) : (Lib.decDigits u).length ≤ k + 1 := by
  induction k generalizing u with
  | zero => rw [Lib.decDigits, dif_pos (by simpa using h)]; simp
  | succ k ih =>
    rw [Lib.decDigits]
    split
    · simp
    · rw [List.length_append]
      have := @ih (u / 10) (by rw [Nat.pow_succ] at h; omega)
      simp; omega
theorem dec_head (u : Nat) (h : 1 < (Lib.decDigits u).length) : (Lib.decDigits u)[0]? ≠ some 48 := by
  induction u using Nat.strongRecOn with
  | ind u ih =>
    rw [Lib.decDigits] at h ⊢
    split
    · rename_i hu
      rw [dif_pos hu] at h; simp at h
    · rename_i hu
      by_cases h2 : u / 10 < 10
      · rw [Lib.decDigits, dif_pos h2]
        simp only [List.cons_append, List.nil_append, List.getElem?_cons_zero, ne_eq, Option.some.injEq]
        intro e
        have := congrArg UInt8.toNat e
        rw [dig_toNat h2] at this
        have h48 : (48 : UInt8).toNat = 48 := rfl
        omega
      · have hl : 1 < (Lib.decDigits (u / 10)).length := by
          rw [Lib.decDigits, dif_neg h2, List.length_append]
          have := List.length_pos_iff.2 (dec_ne (u / 10 / 10))
          simp; omega
        have := ih (u / 10) (by omega) hl
        rwa [List.getElem?_append_left (by omega)]
theorem foldl_ge (b : List UInt8) : ∀ x : Nat, x ≤ b.foldl (fun a b => 10 * a + (b.toNat - 48)) x := by
  induction b with
  | nil => intro x; exact Nat.le_refl _
  | cons y b ih => intro x; exact Nat.le_trans (show x ≤ 10 * x + (y.toNat - 48) by omega) (ih _)
theorem val_mono (a b : List UInt8) : val a ≤ val (a ++ b) := by
  unfold val
  rw [List.foldl_append]
  exact foldl_ge b _
theorem foldl_lt (l : List UInt8) (h : ∀ b ∈ l, isDig b) : ∀ x : Nat, l.foldl (fun a b => 10 * a + (b.toNat - 48)) x < (x + 1) * 10 ^ l.length := by
  induction l with
  | nil => intro x; simp
  | cons y l ih =>
    intro x
    have h1 := ih (fun b hb => h b (by simp [hb])) (10 * x + (y.toNat - 48))
    have h2 := h y (by simp)
    unfold isDig at h2
    rw [List.foldl_cons, List.length_cons, Nat.pow_succ]
    refine Nat.lt_of_lt_of_le h1 ?_
    rw [Nat.mul_comm (10 ^ l.length) 10, ← Nat.mul_assoc]
    exact Nat.mul_le_mul_right _ (by omega)
theorem val_lt (l : List UInt8) (h : ∀ b ∈ l, isDig b) : val l < 10 ^ l.length := by
  have := foldl_lt l h 0
  simpa [val] using this
theorem val_take_succ (l : List UInt8) (i : Nat) (h : i < l.length) : val (l.take (i + 1)) = 10 * val (l.take i) + ((l[i]'h).toNat - 48) := by
  rw [List.take_succ_eq_append_getElem h, val_snoc]
theorem val_take_le (l : List UInt8) (i : Nat) : val (l.take i) ≤ val l := by
  have := val_mono (l.take i) (l.drop i)
  rwa [List.take_append_drop] at this
theorem dec_inj {a b : Nat} (h : Lib.decDigits a = Lib.decDigits b) : a = b := by rw [← dec_val a, ← dec_val b, h]
theorem dec_step (u : Nat) (h : 0 < u) (r : List UInt8) : (if u / 10 = 0 then [] else Lib.decDigits (u / 10)) ++ (UInt8.ofNat (48 + u % 10) :: r) = Lib.decDigits u ++ r := by
  conv => rhs; rw [Lib.decDigits]
  split
  · rename_i h1
    rw [dif_pos (by omega), Nat.mod_eq_of_lt (by omega)]; rfl
  · rename_i h1
    rw [dif_neg (by omega)]; simp

end Go.Proofs.YtfhlhckjgdmgkaaGreatDoor

namespace Go.Proofs.YtfhlhckjgdmgkaaGreatDoor
open Go.RowKit

def lays173_ren : Go.Shelf.Ren := ⟨fun | 173 => 89 | 246 => 96 | 283 => 103 | 284 => 104 | 285 => 105 | 286 => 106 | 129 => 113 | 317 => 112 | 318 => 114 | 319 => 115 | 320 => 116 | 337 => 122 | 338 => 123 | n => n, fun | 2 => 2 | 3 => 3 | 9 => 9 | 4 => 4 | 171 => 118 | 0 => 0 | 53 => 81 | 37 => 22 | 5 => 5 | 173 => 121 | 212 => 130 | 51 => 131 | 20 => 20 | 213 => 132 | 46 => 91 | 232 => 142 | 233 => 143 | n => n, fun | 17 => 1 | 18 => 4 | 19 => 5 | n => n⟩

theorem lays173 : LaysM.n173 Tryz.prog lays173_ren := {
  mixed := by kernel_rfl
  f129 := Tryz.func113.trans (congrArg some (by kernel_rfl))
  f173 := Tryz.func89.trans (congrArg some (by kernel_rfl))
  f246 := Tryz.func96.trans (congrArg some (by kernel_rfl))
  f283 := Tryz.func103.trans (congrArg some (by kernel_rfl))
  f284 := Tryz.func104.trans (congrArg some (by kernel_rfl))
  f285 := Tryz.func105.trans (congrArg some (by kernel_rfl))
  f286 := Tryz.func106.trans (congrArg some (by kernel_rfl))
  f317 := Tryz.func112.trans (congrArg some (by kernel_rfl))
  f318 := Tryz.func114.trans (congrArg some (by kernel_rfl))
  f319 := Tryz.func115.trans (congrArg some (by kernel_rfl))
  f320 := Tryz.func116.trans (congrArg some (by kernel_rfl))
  f337 := Tryz.func122.trans (congrArg some (by kernel_rfl))
  f338 := Tryz.func123.trans (congrArg some (by kernel_rfl))
  t0 := Tryz.underlying0
  a0 := Tryz.isAgg0
  z0 := Tryz.sizeOf0
  v0 := Tryz.zeroValue0
  t2 := Tryz.underlying2
  a2 := Tryz.isAgg2
  z2 := Tryz.sizeOf2
  v2 := Tryz.zeroValue2
  t3 := Tryz.underlying3
  a3 := Tryz.isAgg3
  z3 := Tryz.sizeOf3
  v3 := Tryz.zeroValue3
  t4 := Tryz.underlying4
  a4 := Tryz.isAgg4
  z4 := Tryz.sizeOf4
  v4 := Tryz.zeroValue4
  t5 := Tryz.underlying5
  a5 := Tryz.isAgg5
  z5 := Tryz.sizeOf5
  v5 := Tryz.zeroValue5
  t9 := Tryz.underlying9
  a9 := Tryz.isAgg9
  z9 := Tryz.sizeOf9
  v9 := Tryz.zeroValue9
  t20 := Tryz.underlying20
  a20 := Tryz.isAgg20
  z20 := Tryz.sizeOf20
  v20 := Tryz.zeroValue20
  t37 := Tryz.underlying22
  a37 := Tryz.isAgg22
  z37 := Tryz.sizeOf22
  v37 := Tryz.zeroValue22
  t46 := Tryz.underlying91
  a46 := Tryz.isAgg91
  z46 := Tryz.sizeOf91
  v46 := Tryz.zeroValue91
  t51 := Tryz.underlying131
  a51 := Tryz.isAgg131
  z51 := Tryz.sizeOf131
  v51 := Tryz.zeroValue131
  t53 := Tryz.underlying81
  a53 := Tryz.isAgg81
  z53 := Tryz.sizeOf81
  v53 := Tryz.zeroValue81
  t171 := Tryz.underlying118
  a171 := Tryz.isAgg118
  z171 := Tryz.sizeOf118
  v171 := Tryz.zeroValue118
  t173 := Tryz.underlying121
  a173 := Tryz.isAgg121
  z173 := Tryz.sizeOf121
  v173 := Tryz.zeroValue121
  t212 := Tryz.underlying130
  a212 := Tryz.isAgg130
  z212 := Tryz.sizeOf130
  v212 := Tryz.zeroValue130
  t213 := Tryz.underlying132
  a213 := Tryz.isAgg132
  z213 := Tryz.sizeOf132
  t232 := Tryz.underlying142
  a232 := Tryz.isAgg142
  z232 := Tryz.sizeOf142
  v232 := Tryz.zeroValue142
  t233 := Tryz.underlying143
  a233 := Tryz.isAgg143
  z233 := Tryz.sizeOf143
  v233 := Tryz.zeroValue143
  g17 := by kernel_rfl
  g18 := by kernel_rfl
  g19 := by kernel_rfl
  i0 := by kernel_rfl
  i2 := by kernel_rfl
  i3 := by kernel_rfl
  i4 := by kernel_rfl
  i5 := by kernel_rfl
  i9 := by kernel_rfl
  i20 := by kernel_rfl
  i37 := by kernel_rfl
  i46 := by kernel_rfl
  i51 := by kernel_rfl
  i53 := by kernel_rfl
  i171 := by kernel_rfl
  i173 := by kernel_rfl
  i212 := by kernel_rfl
  i232 := by kernel_rfl
  i233 := by kernel_rfl
  m17 := by kernel_rfl
  m18 := by kernel_rfl
  m19 := by kernel_rfl }

def lays104_ren : Go.Shelf.Ren := ⟨fun | 104 => 92 | 211 => 100 | 207 => 111 | n => n, fun | 9 => 9 | 4 => 4 | 24 => 107 | 3 => 3 | n => n, fun n => n⟩

theorem lays104 : Lays.n104 Tryz.prog lays104_ren := {
  mixed := by kernel_rfl
  f104 := Tryz.func92.trans (congrArg some (by kernel_rfl))
  f207 := Tryz.func111.trans (congrArg some (by kernel_rfl))
  f211 := Tryz.func100.trans (congrArg some (by kernel_rfl))
  t3 := Tryz.underlying3
  a3 := Tryz.isAgg3
  z3 := Tryz.sizeOf3
  v3 := Tryz.zeroValue3
  t4 := Tryz.underlying4
  a4 := Tryz.isAgg4
  z4 := Tryz.sizeOf4
  v4 := Tryz.zeroValue4
  t9 := Tryz.underlying9
  a9 := Tryz.isAgg9
  z9 := Tryz.sizeOf9
  v9 := Tryz.zeroValue9
  t24 := Tryz.underlying107
  a24 := Tryz.isAgg107
  z24 := Tryz.sizeOf107
  v24 := Tryz.zeroValue107 }

def ptab (w : World) : Prop := Lib.TabIs Tryz.prog w "internal/strconv.uint64pow10" .u64 Lib.pow10Tab
theorem ptab.lt {w : World} (h : ptab w) : 1 < w.heap.size := by
  unfold ptab Lib.TabIs World.var? at h
  rw [lays173.m17] at h
  simp only [Option.bind_some] at h
  rcases Nat.lt_or_ge 1 w.heap.size with h' | h'
  · exact h'
  · rw [show lays173_ren.g 17 = 1 from rfl, Array.getElem?_eq_none h'] at h; cases h
theorem ptab.below {w w' : World} (h : ptab w) (hb : Below w.heap.size w w') : ptab w' := by
  have hlt := h.lt
  unfold ptab Lib.TabIs World.var? at h ⊢
  rw [lays173.m17] at h ⊢
  simp only [Option.bind_some, show lays173_ren.g 17 = 1 from rfl] at h ⊢
  rw [hb.block 1 hlt]
  exact h

theorem below_grow (w : World) (k : Nat) (os : Array Obj) : Below w.heap.size w (Sort.grow (w.drewN k) os) := by
  refine ⟨rfl, rfl, rfl, ?_, fun j hj => ?_⟩
  · simp [Sort.grow]
  · simp [Sort.grow, Array.getElem?_append, hj]

theorem fmt_any (n : Int) (w : World) (h0 : -9223372036854775808 ≤ n) (h1 : n ≤ 9223372036854775807) (ht : ptab w) :
    Calls Tryz.prog 89 #[.int .i64 n, .int .i64 10] w fun e w' => e = .returned (.string ⟨(Lib.itoa n).toArray⟩) ∧ Below w.heap.size w w' := by
  refine (show Calls Tryz.prog 89 #[.int .i64 n, .int .i64 10] w fun e w' => e = .returned (.string ⟨(Lib.itoa n).toArray⟩) ∧ ∃ k os, w' = Sort.grow (w.drewN k) os from Any.strconv_FormatInt_10 lays173 n h0 h1 w ht).mono ?_
  rintro e w' ⟨he, k, os, rfl⟩
  exact ⟨he, below_grow w k os⟩

theorem cutsuf_any (s p : ByteArray) (w : World) (hs : s.size ≤ 9223372036854775807) :
    Calls Tryz.prog 92 #[.string s, .string p] w fun e w' => e = .returned (.tuple #[.string ⟨(Lib.trimSuffix s.data.toList p.data.toList).toArray⟩, .bool (Lib.hasSuffix s.data.toList p.data.toList)]) ∧ w = w' := by
  refine (show Calls Tryz.prog 92 #[.string s, .string p] w fun e w' => e = .returned (.tuple #[.string ⟨(Lib.trimSuffix s.data.toList p.data.toList).toArray⟩, .bool (Lib.hasSuffix s.data.toList p.data.toList)]) ∧ w' = w from Any.strings_CutSuffix lays104 s p w hs).mono ?_
  rintro e w' ⟨he, rfl⟩
  exact ⟨he, rfl⟩

def DecAt (u n : Nat) (r : ByteArray) : Prop := n ≤ u ∧ (if n = 0 then [] else Lib.decDigits n) ++ r.data.toList = Lib.decDigits u

def dgB (n : Nat) : UInt8 := UInt8.ofNat (48 + n % 10)
theorem DecAt.len {u n : Nat} {r : ByteArray} (h : DecAt u n r) (h1 : u ≤ 9223372036854775807) : r.size ≤ 19 := by
  have h2 := congrArg List.length h.2
  have h3 := dec_len (u := u) (k := 18) (by omega)
  rw [List.length_append] at h2
  rw [Lib.size_eq]; omega
theorem DecAt.step {u n : Nat} {r : ByteArray} (h : DecAt u n r) (hn : ¬ n = 0) : DecAt u (n / 10) (⟨#[dgB n]⟩ ++ r) := by
  obtain ⟨h1, h2⟩ := h
  refine ⟨by omega, ?_⟩
  rw [if_neg hn] at h2
  rw [← h2, ← dec_step n (by omega)]
  simp [dgB]

theorem conv_one (w : World) (n : Nat) : (convert 22 9 (.slice (some ⟨w.heap.size, 0, none⟩) 1 1)).run Tryz.prog (w.alloc (.cells #[.int .u8 (48 + (n : Int) % 10)] 5)) = .ok (.string ⟨#[dgB n]⟩) (w.alloc (.cells #[.int .u8 (48 + (n : Int) % 10)] 5)) :=
  run_convert_bytes_back (P := Tryz.prog) _ 22 9 5 ⟨w.heap.size, 0, none⟩ 1 [UInt8.ofNat (48 + n % 10)] Tryz.underlying22 Tryz.underlying5 Tryz.underlying9 (fun j hj => by
    simp at hj
    subst hj
    simp [Addr.add]
    have := dig_toNat (k := n % 10) (by omega)
    omega)

set_option maxHeartbeats 1600000 in
theorem sdec_any (u : Nat) (w : World) (h1 : u ≤ 9223372036854775807) :
    Calls Tryz.prog 81 #[.int .i64 u] w fun e w' => e = .returned (.string ⟨(Lib.decDigits u).toArray⟩) ∧ Below w.heap.size w w' := by
  by_cases hu : u = 0
  · subst hu
    go_enter Tryz.func81, Tryz.ntmps81
    go_wp2
    go_ret
    exact ⟨by rw [Lib.decDigits, dif_pos (by decide)]; rfl, Below.refl _ _⟩
  have hn0 : decide ((u : Int) < 0) = false := by simp
  have hu0 : ((u : Int) == 0) = false := by simp [hu]
  go_enter Tryz.func81, Tryz.ntmps81
  go_wp2
  clear hu0
  go_loopw [0, 4] (fun vn vr wr => ∃ (n : Nat) (r : ByteArray), vn = .int .i64 n ∧ vr = .string r ∧ DecAt u n r ∧ Below w.heap.size w wr) (fun vn _ _ => (intOf vn).toNat)
  case atStart => exact ⟨u, _, rfl, rfl, ⟨Nat.le_refl _, by rw [if_neg hu]; simp⟩, Below.refl _ _⟩
  case round =>
    obtain ⟨n, r, rfl, rfl, hd, hb⟩ := hrel
    have hle : n ≤ 9223372036854775807 := Nat.le_trans hd.1 h1
    have hr := hd.len h1
    have hr2 : (⟨#[dgB n]⟩ : ByteArray).size + r.size ≤ 9223372036854775807 := by rw [show (⟨#[dgB n]⟩ : ByteArray).size = 1 from rfl]; omega
    have HD : Hid (DecAt u n r) := hd
    clear hd h1 hu
    by_cases hn : n = 0
    · have hn1 : ((n : Int) != 0) = false := by simp [hn]
      go_wp2
      go_ret
      refine ⟨?_, hb⟩
      have := HD.out.2
      rw [if_pos hn] at this
      rw [← this]; rfl
    · have hn1 : ((n : Int) != 0) = true := by simp [hn]
      have hcv := conv_one wr n
      have hm : decide ((n : Int) % 10 < 0) = false := by simp; omega
      go_wp2
      go_roundw
      case rel =>
        refine ⟨n / 10, _, by go_num, rfl, HD.out.step hn, ?_⟩
        exact hb.alloc (by have := hb.size; omega) _
      case measure => simp [intOf]; omega

theorem infoByteJ : (Tryz.prog.info? 5).map (fun i => (i.zero, i.size, i.bytes)) = some (some (.int .u8 0), 1, 1) := by kernel_rfl
theorem sizeByteJ : (Tryz.prog.info? 5).map (·.size) = some 1 := by kernel_rfl

theorem run_copy_text {P : Program} {w : World} (dT sT ty : TypeId) (elem : TypeId) (hu : P.underlying dT = some (.slice elem)) (hsz : (P.info? elem).map (·.size) = some 1)
    (dp : Option Addr) (dLen dCap : Nat) (t : ByteArray)
    (g off : Nat) (cur : List Value) (e : TypeId) (hg : w.heap[g]? = some (.cells cur.toArray e (0, 0))) (hle : t.size ≤ dLen) (hpos : 0 < t.size → dp = some ⟨g, off, none⟩)
    (hfit : off + t.size ≤ cur.length) (B : Nat) (w0 : World) (hb : Below B w0 w) (hBg : B ≤ g) :
    ∃ w', (Builtin.copy_ #[dT, sT] ty #[.slice dp dLen dCap, .string t]).run P w = .ok (.int .i64 (t.size : Nat)) w' ∧
      Hid (w'.heap[g]? = some (.cells (splice cur off (Lib.byteCells t.data.toList)).toArray e (0, 0))) ∧ Below B w0 w' := by
  have hlen : (Lib.byteCells t.data.toList).length = t.size := by rw [Lib.byteCells_length, ← Lib.size_eq]
  by_cases h0 : t.size = 0
  · have hrun := Lib.run_copy_empty_string (P := P) w dT sT ty elem dp dLen dCap t hu (by rw [hsz]; rfl) h0
    have hc : Lib.byteCells t.data.toList = [] := List.eq_nil_of_length_eq_zero (by omega)
    rw [h0]
    exact ⟨w, hrun, show _ = _ by rw [hc]; simpa [splice] using hg, hb⟩
  · obtain rfl := hpos (by omega)
    have hrun := Lib.run_copy_row_string (P := P) w dT sT ty elem g off dLen dCap t cur.toArray e hu hsz hg hle (by simpa using hfit)
    refine ⟨_, hrun, ?_, below_setRow hb hBg _⟩
    show _ = _
    rw [setRow_heap w g _ _ e _ hg]
    simp [splice, hlen]

theorem full_row {w : World} {B g n : Nat} {e : TypeId} {xs : List Value} (h : w.ownsRow B e 1 (.slice (some ⟨g, 0, none⟩) n n) n xs) :
    w.heap[g]? = some (.cells xs.toArray e (0, 0)) ∧ xs.length = n ∧ B ≤ g := by
  obtain ⟨h1, h2⟩ := h
  rcases h2 with ⟨h3, _⟩ | ⟨g', cap, cur, hv, hB, hh, _, _, hsz, htk⟩
  · cases h3
  · simp only [Value.slice.injEq, Option.some.injEq, Addr.mk.injEq] at hv
    obtain ⟨⟨rfl, _, _⟩, _, rfl⟩ := hv
    have hl : cur.toList.length ≤ n * 1 := by simp [hsz]
    rw [List.take_of_length_le hl] at htk
    subst htk
    exact ⟨by simpa using hh, by simpa using hsz, hB⟩

theorem splice_two {Z X Y : List Value} (h : Z.length = X.length + Y.length) : splice (splice Z 0 X) X.length Y = X ++ Y := by
  unfold splice
  have h1 : List.drop (X.length + Y.length) Z = [] := List.drop_eq_nil_of_le (by omega)
  simp [← List.append_assoc, h1]

theorem conv_row {w : World} {g : Nat} (l : List UInt8) {n cap : Nat} (hn : l.length = n) (h : w.heap[g]? = some (.cells (Lib.byteCells l).toArray 5 (0, 0))) :
    (convert 22 9 (.slice (some ⟨g, 0, none⟩) n cap)).run Tryz.prog w = .ok (.string ⟨l.toArray⟩) w := by
  subst hn
  exact run_convert_bytes_back (P := Tryz.prog) w 22 9 5 ⟨g, 0, none⟩ cap l Tryz.underlying22 Tryz.underlying5 Tryz.underlying9 (fun j hj => by
    rw [Addr.add_lit]
    simp [World.cell?, h, Lib.byteCells, hj])
theorem len_bytes (s : ByteArray) : (Lib.byteCells s.data.toList).length = s.size := by rw [Lib.byteCells_length, ← Lib.size_eq]
set_option maxHeartbeats 1600000 in
theorem joined_none (x : ByteArray) (w : World) (h : x.size ≤ 1073741824) :
    Calls Tryz.prog 88 #[.string x, .string ByteArray.empty] w fun e w' => e = .returned (.string x) ∧ Below w.heap.size w w' := by
  obtain ⟨i0, hi, hz0, hz1, hz2⟩ := info_parts infoByteJ
  go_enter Tryz.func88, Tryz.ntmps88
  go_wp2_with (at_make; refine wpList_make_full _ rfl _ _ 22 rfl w.heap.size 5 i0 (.int .u8 0) 1 Tryz.underlying22 hi hz0 hz1 _ _ _ _ x.size rfl rfl (by omega) (by omega) (by rw [hz2]; omega) (by unfold maxLen; omega) (Nat.le_refl _) ?_)
  intro w1 hown hgrow
  obtain ⟨hg1, hz, -⟩ := full_row hown
  obtain ⟨Z, hZ⟩ : ∃ Z, Z = (madeCells #[Value.int IntKind.u8 0] x.size).toList := ⟨_, rfl⟩
  have hnx1 : Below w.heap.size w w1 := (Below.refl _ _).grown hgrow (Nat.le_refl _) (fun k hk => by cases hk)
  rw [← hZ] at hg1 hz
  obtain ⟨w2, hcp, HG2, hnx2⟩ := run_copy_text (P := Tryz.prog) 22 9 3 5 Tryz.underlying22 sizeByteJ (some ⟨w.heap.size, 0, none⟩) x.size x.size x w.heap.size 0 Z 5 hg1 (by omega) (fun _ => rfl) (by omega) w.heap.size w hnx1 (Nat.le_refl _)
  have hs2 : splice Z 0 (Lib.byteCells x.data.toList) = Lib.byteCells x.data.toList := by
    unfold splice
    have h1 : List.drop (0 + (Lib.byteCells x.data.toList).length) Z = [] := List.drop_eq_nil_of_le (by rw [len_bytes]; omega)
    rw [h1]; simp
  rw [hs2] at HG2
  have hcp2 := Lib.run_copy_empty_string (P := Tryz.prog) w2 22 9 3 5 (some ⟨w.heap.size, 0, none⟩) 0 0 ByteArray.empty Tryz.underlying22 (by kernel_rfl) rfl
  have hcv := conv_row (cap := x.size) x.data.toList (Lib.size_eq x).symm HG2.out
  clear hs2 hZ hown hgrow hg1 hi hz0 hz1 hz2 HG2 hnx1
  go_wp2
  go_ret
  exact ⟨rfl, hnx2⟩

set_option maxHeartbeats 1600000 in
theorem joined_some (x y : ByteArray) (w : World) (h : x.size + y.size ≤ 1073741824) (hy : ¬ y = ByteArray.empty) :
    Calls Tryz.prog 88 #[.string x, .string y] w fun e w' => e = .returned (.string ⟨(x.data.toList ++ y.data.toList).toArray⟩) ∧ Below w.heap.size w w' := by
  obtain ⟨i0, hi, hz0, hz1, hz2⟩ := info_parts infoByteJ
  go_enter Tryz.func88, Tryz.ntmps88
  go_wp2_with (at_make; refine wpList_make_full _ rfl _ _ 22 rfl w.heap.size 5 i0 (.int .u8 0) 1 Tryz.underlying22 hi hz0 hz1 _ _ _ _ (x.size + y.size) rfl rfl (by omega) (by omega) (by rw [hz2]; omega) (by unfold maxLen; omega) (Nat.le_refl _) ?_)
  intro w1 hown hgrow
  obtain ⟨hg1, hz, -⟩ := full_row hown
  obtain ⟨Z, hZ⟩ : ∃ Z, Z = (madeCells #[Value.int IntKind.u8 0] (x.size + y.size)).toList := ⟨_, rfl⟩
  have hnx1 : Below w.heap.size w w1 := (Below.refl _ _).grown hgrow (Nat.le_refl _) (fun k hk => by cases hk)
  rw [← hZ] at hg1 hz
  obtain ⟨w2, hcp, HG2, hnx2⟩ := run_copy_text (P := Tryz.prog) 22 9 3 5 Tryz.underlying22 sizeByteJ (some ⟨w.heap.size, 0, none⟩) (x.size + y.size) (x.size + y.size) x w.heap.size 0 Z 5 hg1 (by omega) (fun _ => rfl) (by omega) w.heap.size w hnx1 (Nat.le_refl _)
  obtain ⟨w3, hcp2, HG3, hnx3⟩ := run_copy_text (P := Tryz.prog) 22 9 3 5 Tryz.underlying22 sizeByteJ (some ⟨w.heap.size, x.size, none⟩) y.size y.size y w.heap.size x.size _ 5 HG2.out (by omega) (fun _ => rfl) (by rw [length_splice _ _ _ (by rw [len_bytes]; omega)]; omega) w.heap.size w hnx2 (Nat.le_refl _)
  have hs2 : splice (splice Z 0 (Lib.byteCells x.data.toList)) x.size (Lib.byteCells y.data.toList) = Lib.byteCells (x.data.toList ++ y.data.toList) := by
    have h1 := splice_two (Z := Z) (X := Lib.byteCells x.data.toList) (Y := Lib.byteCells y.data.toList) (by rw [len_bytes, len_bytes]; exact hz)
    rw [len_bytes] at h1
    rw [h1, Lib.byteCells_append]
  rw [hs2] at HG3
  have hcv := conv_row (n := x.size + y.size) (cap := x.size + y.size) (x.data.toList ++ y.data.toList) (by rw [List.length_append, ← Lib.size_eq, ← Lib.size_eq]) HG3.out
  clear hs2 hZ hown hgrow hg1 hi hz0 hz1 hz2 HG2 hnx1 HG3
  go_wp2
  go_ret
  exact ⟨rfl, hnx3⟩

theorem append_bytes (x y : ByteArray) : x ++ y = ⟨(x.data.toList ++ y.data.toList).toArray⟩ := by
  apply ByteArray.ext
  simp

theorem joined_any (x y : ByteArray) (w : World) (h : x.size + y.size ≤ 1073741824) :
    Calls Tryz.prog 88 #[.string x, .string y] w fun e w' => e = .returned (.string (x ++ y)) ∧ Below w.heap.size w w' := by
  by_cases hy : y = ByteArray.empty
  · subst hy
    have := joined_none x w (by omega)
    rw [show x ++ ByteArray.empty = x from by simp]
    exact this
  · rw [append_bytes]
    exact joined_some x y w h hy

def wTi : ByteArray := ⟨#[84, 105]⟩
def wGi : ByteArray := ⟨#[71, 105]⟩
def wNo : ByteArray := ⟨#[]⟩
def wM : ByteArray := ⟨#[109]⟩
def dec (n : Int) : ByteArray := ⟨(Lib.decDigits n.toNat).toArray⟩
def mtext (l m e : Int) (w0 w1 : ByteArray) (n : Int) : ByteArray :=
  if n < l ∨ m < n then ⟨#[]⟩ else if n % e = 0 then dec (n / e) ++ w0 else dec n ++ w1
theorem itoa_dec {n : Int} (h : 0 ≤ n) : (⟨(Lib.itoa n).toArray⟩ : ByteArray) = dec n := by
  unfold Lib.itoa dec
  rw [if_neg (by omega)]
theorem fmt_dec (n : Int) (w : World) (h0 : 0 ≤ n) (h1 : n ≤ 9223372036854775807) (ht : ptab w) :
    Calls Tryz.prog 89 #[.int .i64 n, .int .i64 10] w fun e w' => e = .returned (.string (dec n)) ∧ Below w.heap.size w w' := by
  have := fmt_any n w (by omega) h1 ht
  rwa [itoa_dec h0] at this
theorem dec_size {n : Int} (h : n ≤ 1048576) : (dec n).size ≤ 7 := by
  unfold dec
  rw [Lib.size_eq]
  exact dec_len (k := 6) (by omega)
theorem slotN {w w1 : World} {vs : Array Value} {T : TypeId} (hb : Below (w.alloc (.cells vs T)).heap.size (w.alloc (.cells vs T)) w1) :
    w1.heap[w.heap.size]? = some (.cells vs T (0, 0)) ∧ Below w.heap.size w w1 ∧ w.heap.size < w1.heap.size := by
  have hs : (w.alloc (.cells vs T)).heap.size = w.heap.size + 1 := by simp
  have h1 := hb.size
  refine ⟨?_, ?_, by omega⟩
  · rw [hb.block _ (by omega)]
    show (w.heap.push _)[w.heap.size]? = _
    simp
  · exact ((Below.refl w.heap.size w).alloc (Nat.le_refl _) _).trans (hb.mono (by omega))
theorem below_of_drew {x w1 : World} (h : Below x.drew.heap.size x.drew w1) : Below x.heap.size x w1 := ⟨h.os, h.tape, h.output, h.size, h.block⟩
theorem ret_str {a b : ByteArray} (h : a = b) : Ending.returned (.string a) = .returned (.string b) := by rw [h]
theorem mtext_low {l m e : Int} {w0 w1 : ByteArray} {n : Int} (h : n < l) : (⟨#[]⟩ : ByteArray) = mtext l m e w0 w1 n := by unfold mtext; rw [if_pos (Or.inl h)]
theorem mtext_high {l m e : Int} {w0 w1 : ByteArray} {n : Int} (h : m < n) : (⟨#[]⟩ : ByteArray) = mtext l m e w0 w1 n := by unfold mtext; rw [if_pos (Or.inr h)]
theorem mtext_great {l m e : Int} {w0 w1 : ByteArray} {n : Int} (h : l ≤ n) (h2 : n ≤ m) (h3 : n % e = 0) : dec (n / e) ++ w0 = mtext l m e w0 w1 n := by unfold mtext; rw [if_neg (by omega), if_pos h3]
theorem mtext_small {l m e : Int} {w0 w1 : ByteArray} {n : Int} (h : l ≤ n) (h2 : n ≤ m) (h3 : ¬ n % e = 0) : dec n ++ w1 = mtext l m e w0 w1 n := by unfold mtext; rw [if_neg (by omega), if_neg h3]

set_option maxHeartbeats 400000 in
theorem isize_meas (w : World) : Calls Tryz.prog 75 #[] w fun e w' => e = .returned (.agg #[.int .i64 1, .int .i64 1048576, .string wTi, .int .i64 1024, .string wGi, .int .i64 1]) ∧ Below w.heap.size w w' := by
  go_enter Tryz.func75, Tryz.ntmps75
  go_wp2
  refine bodyPost_ret (v := .agg #[.int .i64 1, .int .i64 1048576, .string wTi, .int .i64 1024, .string wGi, .int .i64 1]) (by simp [results, Tryz.results75, go_sem, wTi, wGi]) rfl ⟨rfl, (Below.refl _ _).alloc (Nat.le_refl _) _⟩

theorem isize_ix0 (w : World) : (Instr.index 87 (.agg #[.string wTi, .int .i64 1024, .string wGi, .int .i64 1]) (.int .i64 0)).run Tryz.prog w = .ok (.agg #[.string wTi, .int .i64 1024]) w := by kernel_rfl
theorem isize_ix1 (w : World) : (Instr.index 87 (.agg #[.string wTi, .int .i64 1024, .string wGi, .int .i64 1]) (.int .i64 1)).run Tryz.prog w = .ok (.agg #[.string wGi, .int .i64 1]) w := by kernel_rfl

set_option maxHeartbeats 1600000 in
theorem isizetext_any (n : Int) (w : World) (ht : ptab w) :
    Calls Tryz.prog 76 #[.agg #[.int .i64 1, .int .i64 1048576, .string wTi, .int .i64 1024, .string wGi, .int .i64 1], .int .i64 n] w
      fun e w' => e = .returned (.string (mtext 1 1048576 1024 wTi wGi n)) ∧ Below w.heap.size w w' := by
  by_cases hA : n < 1
  · clear ht
    go_enter Tryz.func76, Tryz.ntmps76
    go_wp2
    go_ret
    exact ⟨ret_str (mtext_low hA), (Below.refl _ _).alloc (Nat.le_refl _) _⟩
  by_cases hB : 1048576 < n
  · clear ht
    go_enter Tryz.func76, Tryz.ntmps76
    go_wp2
    go_ret
    exact ⟨ret_str (mtext_high hB), (Below.refl _ _).alloc (Nat.le_refl _) _⟩
  have HT : Hid (ptab w) := ht
  clear ht
  go_enter Tryz.func76, Tryz.ntmps76
  go_wp2
  go_loopw [19] (fun v wr => ∃ k : Nat, (k = 0 ∨ k = 1) ∧ v = .int .i64 k ∧ (k = 1 → ¬ n % 1024 = 0) ∧ Below w.heap.size w wr) (fun v _ => 2 - (intOf v).toNat)
  case atStart => exact ⟨0, Or.inl rfl, rfl, (fun h => by omega), (Below.refl _ _).alloc (Nat.le_refl _) _⟩
  case round =>
    obtain ⟨k, hk, rfl, hne, hb⟩ := hrel
    have hix0 := isize_ix0 wr
    have hix1 := isize_ix1 wr
    have hw := hb.size
    have hd := dec_size (n := n) (by omega)
    rcases hk with rfl | rfl
    · clear hne
      by_cases hz : n % 1024 = 0
      · have hz2 : (n % 1024 == 0) = true := by simp [hz]
        have hd2 := dec_size (n := n / 1024) (by omega)
        go_wp2_with fail
        have hq : IntKind.i64.wrap (n.tdiv 1024) = n / 1024 := by rw [IntKind.wrap_i64, Int.tdiv_eq_ediv_of_nonneg (by omega)]; omega
        have hT : Hid (∀ x, ptab ((wr.alloc (.cells x 86)).drew)) := fun x => HT.out.below (hb.alloc hw _).drew
        have hs : (dec (n / 1024)).size + (wTi).size ≤ 1073741824 := Nat.le_trans (Nat.add_le_add_right hd2 _) (by decide)
        go_region_with (first
          | (go_at_call 89; refine (fmt_dec _ _ (by omega) (by omega) (hT.out _)).mono ?_; rintro e w1 ⟨rfl, hb1⟩; obtain ⟨hk1, hk2, hk3⟩ := slotN (below_of_drew hb1); clear hb1
             have hc0 : w1.cell? ⟨wr.heap.size, 0, none⟩ = some (.string wTi) := (by simp [World.cell?, hk1]))
          | (go_at_call 88; refine (joined_any _ _ _ hs).mono ?_; rintro e w2 ⟨rfl, hb2⟩))
        all_goals (go_wp2_with fail; go_ret; exact ⟨ret_str (mtext_great hA hB hz), (hb.trans (hk2.mono hw)).trans (hb2.mono (by omega))⟩)
      · have hz2 : (n % 1024 == 0) = false := by simp [hz]
        go_wp2
        go_roundw
        case rel => exact ⟨1, Or.inr rfl, by go_num, (fun _ => hz), hb.alloc hw _⟩
        case measure => simp [intOf]
    · have hz := hne rfl
      clear hne
      have hz1 : (n % 1 == 0) = true := by simp
      have hq : IntKind.i64.wrap n = n := by rw [IntKind.wrap_i64]; omega
      have hT : Hid (∀ x, ptab ((wr.alloc (.cells x 86)).drew)) := fun x => HT.out.below (hb.alloc hw _).drew
      have hs : (dec n).size + (wGi).size ≤ 1073741824 := Nat.le_trans (Nat.add_le_add_right hd _) (by decide)
      go_wp2_with fail
      go_region_with (first
        | (go_at_call 89; refine (fmt_dec _ _ (by omega) (by omega) (hT.out _)).mono ?_; rintro e w1 ⟨rfl, hb1⟩; obtain ⟨hk1, hk2, hk3⟩ := slotN (below_of_drew hb1); clear hb1
           have hc0 : w1.cell? ⟨wr.heap.size, 0, none⟩ = some (.string wGi) := (by simp [World.cell?, hk1]))
        | (go_at_call 88; refine (joined_any _ _ _ hs).mono ?_; rintro e w2 ⟨rfl, hb2⟩))
      all_goals (go_wp2_with fail; go_ret; exact ⟨ret_str (mtext_small hA hB hz), (hb.trans (hk2.mono hw)).trans (hb2.mono (by omega))⟩)

set_option maxHeartbeats 400000 in
theorem icpu_meas (w : World) : Calls Tryz.prog 77 #[] w fun e w' => e = .returned (.agg #[.int .i64 0, .int .i64 1000000, .string wNo, .int .i64 1000, .string wM, .int .i64 1]) ∧ Below w.heap.size w w' := by
  go_enter Tryz.func77, Tryz.ntmps77
  go_wp2
  refine bodyPost_ret (v := .agg #[.int .i64 0, .int .i64 1000000, .string wNo, .int .i64 1000, .string wM, .int .i64 1]) (by simp [results, Tryz.results77, go_sem, wNo, wM]) rfl ⟨rfl, (Below.refl _ _).alloc (Nat.le_refl _) _⟩

theorem icpu_ix0 (w : World) : (Instr.index 87 (.agg #[.string wNo, .int .i64 1000, .string wM, .int .i64 1]) (.int .i64 0)).run Tryz.prog w = .ok (.agg #[.string wNo, .int .i64 1000]) w := by kernel_rfl
theorem icpu_ix1 (w : World) : (Instr.index 87 (.agg #[.string wNo, .int .i64 1000, .string wM, .int .i64 1]) (.int .i64 1)).run Tryz.prog w = .ok (.agg #[.string wM, .int .i64 1]) w := by kernel_rfl

set_option maxHeartbeats 1600000 in
theorem icputext_any (n : Int) (w : World) (ht : ptab w) :
    Calls Tryz.prog 76 #[.agg #[.int .i64 0, .int .i64 1000000, .string wNo, .int .i64 1000, .string wM, .int .i64 1], .int .i64 n] w
      fun e w' => e = .returned (.string (mtext 0 1000000 1000 wNo wM n)) ∧ Below w.heap.size w w' := by
  by_cases hA : n < 0
  · clear ht
    go_enter Tryz.func76, Tryz.ntmps76
    go_wp2
    go_ret
    exact ⟨ret_str (mtext_low hA), (Below.refl _ _).alloc (Nat.le_refl _) _⟩
  by_cases hB : 1000000 < n
  · clear ht
    go_enter Tryz.func76, Tryz.ntmps76
    go_wp2
    go_ret
    exact ⟨ret_str (mtext_high hB), (Below.refl _ _).alloc (Nat.le_refl _) _⟩
  have HT : Hid (ptab w) := ht
  clear ht
  go_enter Tryz.func76, Tryz.ntmps76
  go_wp2
  go_loopw [19] (fun v wr => ∃ k : Nat, (k = 0 ∨ k = 1) ∧ v = .int .i64 k ∧ (k = 1 → ¬ n % 1000 = 0) ∧ Below w.heap.size w wr) (fun v _ => 2 - (intOf v).toNat)
  case atStart => exact ⟨0, Or.inl rfl, rfl, (fun h => by omega), (Below.refl _ _).alloc (Nat.le_refl _) _⟩
  case round =>
    obtain ⟨k, hk, rfl, hne, hb⟩ := hrel
    have hix0 := icpu_ix0 wr
    have hix1 := icpu_ix1 wr
    have hw := hb.size
    have hd := dec_size (n := n) (by omega)
    rcases hk with rfl | rfl
    · clear hne
      by_cases hz : n % 1000 = 0
      · have hz2 : (n % 1000 == 0) = true := by simp [hz]
        have hd2 := dec_size (n := n / 1000) (by omega)
        go_wp2_with fail
        have hq : IntKind.i64.wrap (n.tdiv 1000) = n / 1000 := by rw [IntKind.wrap_i64, Int.tdiv_eq_ediv_of_nonneg (by omega)]; omega
        have hT : Hid (∀ x, ptab ((wr.alloc (.cells x 86)).drew)) := fun x => HT.out.below (hb.alloc hw _).drew
        have hs : (dec (n / 1000)).size + (wNo).size ≤ 1073741824 := Nat.le_trans (Nat.add_le_add_right hd2 _) (by decide)
        go_region_with (first
          | (go_at_call 89; refine (fmt_dec _ _ (by omega) (by omega) (hT.out _)).mono ?_; rintro e w1 ⟨rfl, hb1⟩; obtain ⟨hk1, hk2, hk3⟩ := slotN (below_of_drew hb1); clear hb1
             have hc0 : w1.cell? ⟨wr.heap.size, 0, none⟩ = some (.string wNo) := (by simp [World.cell?, hk1]))
          | (go_at_call 88; refine (joined_any _ _ _ hs).mono ?_; rintro e w2 ⟨rfl, hb2⟩))
        all_goals (go_wp2_with fail; go_ret; exact ⟨ret_str (mtext_great hA hB hz), (hb.trans (hk2.mono hw)).trans (hb2.mono (by omega))⟩)
      · have hz2 : (n % 1000 == 0) = false := by simp [hz]
        go_wp2
        go_roundw
        case rel => exact ⟨1, Or.inr rfl, by go_num, (fun _ => hz), hb.alloc hw _⟩
        case measure => simp [intOf]
    · have hz := hne rfl
      clear hne
      have hz1 : (n % 1 == 0) = true := by simp
      have hq : IntKind.i64.wrap n = n := by rw [IntKind.wrap_i64]; omega
      have hT : Hid (∀ x, ptab ((wr.alloc (.cells x 86)).drew)) := fun x => HT.out.below (hb.alloc hw _).drew
      have hs : (dec n).size + (wM).size ≤ 1073741824 := Nat.le_trans (Nat.add_le_add_right hd _) (by decide)
      go_wp2_with fail
      go_region_with (first
        | (go_at_call 89; refine (fmt_dec _ _ (by omega) (by omega) (hT.out _)).mono ?_; rintro e w1 ⟨rfl, hb1⟩; obtain ⟨hk1, hk2, hk3⟩ := slotN (below_of_drew hb1); clear hb1
           have hc0 : w1.cell? ⟨wr.heap.size, 0, none⟩ = some (.string wM) := (by simp [World.cell?, hk1]))
        | (go_at_call 88; refine (joined_any _ _ _ hs).mono ?_; rintro e w2 ⟨rfl, hb2⟩))
      all_goals (go_wp2_with fail; go_ret; exact ⟨ret_str (mtext_small hA hB hz), (hb.trans (hk2.mono hw)).trans (hb2.mono (by omega))⟩)

theorem bytes_append (a b : ByteArray) : (a ++ b).data.toList = a.data.toList ++ b.data.toList := by simp
theorem bytes_ext {a b : ByteArray} (h : a.data.toList = b.data.toList) : a = b := by
  apply ByteArray.ext
  exact Array.toList_inj.1 h
theorem dec_list (n : Int) : (dec n).data.toList = Lib.decDigits n.toNat := rfl
theorem dec_int_inj {a b : Int} (h0 : 0 ≤ a) (h1 : 0 ≤ b) (h : Lib.decDigits a.toNat = Lib.decDigits b.toNat) : a = b := by have := dec_inj h; omega
theorem mtext_pos {l m e : Int} {w0 w1 : ByteArray} {n : Int} (h : ¬ mtext l m e w0 w1 n = ⟨#[]⟩) : l ≤ n ∧ n ≤ m := by
  unfold mtext at h
  by_cases h1 : n < l ∨ m < n
  · rw [if_pos h1] at h; exact absurd rfl h
  · omega
theorem dig_word {a b : List UInt8} {x y : List UInt8} (ha : ∀ c ∈ a, isDig c) (hb : ∀ c ∈ b, isDig c) (hx : ∀ c ∈ x, ¬ isDig c) (hy : ∀ c ∈ y, ¬ isDig c) (h : a ++ x = b ++ y) : a = b ∧ x = y := by
  induction a generalizing b with
  | nil =>
    cases b with
    | nil => exact ⟨rfl, by simpa using h⟩
    | cons c b =>
      exfalso
      simp only [List.nil_append, List.cons_append] at h
      exact hx c (by rw [h]; simp) (hb c (by simp))
  | cons c a ih =>
    cases b with
    | nil =>
      exfalso
      simp only [List.nil_append, List.cons_append] at h
      exact hy c (by rw [← h]; simp) (ha c (by simp))
    | cons d b =>
      simp only [List.cons_append, List.cons.injEq] at h
      obtain ⟨rfl, h⟩ := h
      obtain ⟨rfl, rfl⟩ := ih (fun c hc => ha c (by simp [hc])) (fun c hc => hb c (by simp [hc])) h
      exact ⟨rfl, rfl⟩
def NoDig (w : ByteArray) : Prop := ∀ c ∈ w.data.toList, ¬ isDig c
theorem noDig_Ti : NoDig wTi := by unfold NoDig isDig wTi; decide
theorem noDig_Gi : NoDig wGi := by unfold NoDig isDig wGi; decide
theorem noDig_No : NoDig wNo := by unfold NoDig isDig wNo; decide
theorem noDig_M : NoDig wM := by unfold NoDig isDig wM; decide
theorem dec_word_inj {a b : Int} {x y : ByteArray} (h0 : 0 ≤ a) (h1 : 0 ≤ b) (hx : NoDig x) (hy : NoDig y) (h : dec a ++ x = dec b ++ y) : a = b ∧ x = y := by
  have h2 := congrArg (fun z : ByteArray => z.data.toList) h
  simp only [bytes_append, dec_list] at h2
  obtain ⟨h3, h4⟩ := dig_word (dec_dig _) (dec_dig _) hx hy h2
  exact ⟨dec_int_inj h0 h1 h3, bytes_ext h4⟩
theorem mtext_inj {l m e : Int} {w0 w1 : ByteArray} {a b : Int} (hl : 0 ≤ l) (he : 0 < e) (hw0 : NoDig w0) (hw1 : NoDig w1) (hne : ¬ w0 = w1) (h : mtext l m e w0 w1 a = mtext l m e w0 w1 b) (h2 : ¬ mtext l m e w0 w1 a = ⟨#[]⟩) : a = b := by
  have ha := mtext_pos h2
  have hb := mtext_pos (h ▸ h2)
  by_cases h3 : a % e = 0 <;> by_cases h4 : b % e = 0
  · rw [← mtext_great ha.1 ha.2 h3, ← mtext_great hb.1 hb.2 h4] at h
    obtain ⟨h5, _⟩ := dec_word_inj (Int.ediv_nonneg (by omega) (by omega)) (Int.ediv_nonneg (by omega) (by omega)) hw0 hw0 h
    have h6 := Int.mul_ediv_add_emod a e
    have h7 := Int.mul_ediv_add_emod b e
    rw [h5] at h6; omega
  · rw [← mtext_great ha.1 ha.2 h3, ← mtext_small hb.1 hb.2 h4] at h
    exact absurd (dec_word_inj (Int.ediv_nonneg (by omega) (by omega)) (by omega) hw0 hw1 h).2 hne
  · rw [← mtext_small ha.1 ha.2 h3, ← mtext_great hb.1 hb.2 h4] at h
    exact absurd (dec_word_inj (by omega) (Int.ediv_nonneg (by omega) (by omega)) hw1 hw0 h).2.symm hne
  · rw [← mtext_small ha.1 ha.2 h3, ← mtext_small hb.1 hb.2 h4] at h
    exact (dec_word_inj (by omega) (by omega) hw1 hw1 h).1
def RdIs (t : Int → ByteArray) (s : ByteArray) (a c : Int) : Prop :=
  (8000 < s.size ∧ a = 0 ∧ c = 2) ∨ (s.size ≤ 8000 ∧ ¬ s = ⟨#[]⟩ ∧ t a = s ∧ c = 0) ∨ (s.size ≤ 8000 ∧ (∀ n, t n = s → s = ⟨#[]⟩) ∧ a = 0 ∧ c = 3)
theorem RdIs.same {t : Int → ByteArray} (hi : ∀ a b, t a = t b → ¬ t a = ⟨#[]⟩ → a = b) {s : ByteArray} {a c a' c' : Int} (h : RdIs t s a c) (h' : RdIs t s a' c') : a = a' ∧ c = c' := by
  rcases h with ⟨h1, h2, h3⟩ | ⟨h1, h2, h3, h4⟩ | ⟨h1, h2, h3, h4⟩ <;> rcases h' with ⟨k1, k2, k3⟩ | ⟨k1, k2, k3, k4⟩ | ⟨k1, k2, k3, k4⟩
  · omega
  · omega
  · omega
  · omega
  · exact ⟨hi _ _ (h3.trans k3.symm) (by rw [h3]; exact h2), by omega⟩
  · exact absurd (k2 _ h3) h2
  · omega
  · exact absurd (h2 _ k3) k2
  · omega
def szText : Int → ByteArray := mtext 1 1048576 1024 wTi wGi
def cpText : Int → ByteArray := mtext 0 1000000 1000 wNo wM
theorem sz_inj (a b : Int) (h : szText a = szText b) (h2 : ¬ szText a = ⟨#[]⟩) : a = b :=
  mtext_inj (by decide) (by decide) noDig_Ti noDig_Gi (by decide) h h2
theorem cp_inj (a b : Int) (h : cpText a = cpText b) (h2 : ¬ cpText a = ⟨#[]⟩) : a = b :=
  mtext_inj (by decide) (by decide) noDig_No noDig_M (by decide) h h2

namespace Dk

theorem conv_byte (w : World) (x : UInt8) : (convert 22 9 (.slice (some ⟨w.heap.size, 0, none⟩) 1 1)).run Tryz.prog (w.alloc (.cells #[.int .u8 (x.toNat : Int)] 5)) = .ok (.string ⟨#[x]⟩) (w.alloc (.cells #[.int .u8 (x.toNat : Int)] 5)) :=
  run_convert_bytes_back (P := Tryz.prog) _ 22 9 5 ⟨w.heap.size, 0, none⟩ 1 [x] Tryz.underlying22 Tryz.underlying5 Tryz.underlying9 (fun j hj => by
    simp at hj
    subst hj
    simp [Addr.add])

theorem size_app2 (a b : ByteArray) : (a ++ b).size = a.size + b.size := by rw [Lib.size_eq, bytes_append, List.length_append, ← Lib.size_eq, ← Lib.size_eq]
theorem ext_size (t : ByteArray) (a b : Nat) : (t.extract a b).size ≤ t.size := by rw [ByteArray.size_extract]; omega
theorem end_size (t : ByteArray) (x : UInt8) (h : t.size ≤ 1000) : (t ++ ⟨#[x]⟩).size ≤ 2100 := by
  rw [size_app2]
  have : (⟨#[x]⟩ : ByteArray).size = 1 := rfl
  omega
theorem Src.drew {B : Nat} {w0 : World} {p : Nat} {v : Value} {len : Nat} {w : World} (h : Src B w0 p v len w) : Src B w0 p v len w.drew :=
  h.keep (row := none) ⟨rfl, rfl, rfl, Nat.le_refl _, fun _ _ _ => rfl⟩ (by simp) (fun k hk => by cases hk)
theorem three_size (t : ByteArray) (a b c d : Nat) (x : UInt8) (h : t.size ≤ 1000) : (t.extract a b ++ ⟨#[x]⟩ ++ t.extract c d).size ≤ 2100 := by
  rw [size_app2, size_app2]
  have := ext_size t a b
  have := ext_size t c d
  have : (⟨#[x]⟩ : ByteArray).size = 1 := rfl
  omega
theorem two_size (t : ByteArray) (a b c d : Nat) (h : t.size ≤ 1000) : (t.extract a b ++ t.extract c d).size ≤ 2100 := by
  rw [size_app2]
  have := ext_size t a b
  have := ext_size t c d
  omega

set_option maxHeartbeats 1600000 in
theorem spoil_any {B : Nat} {w0 : World} {p : Nat} {v : Value} {len : Nat} {w : World} (h : Src B w0 p v len w) (t : ByteArray) (ht : t.size ≤ 1000) :
    Calls Tryz.prog 40 #[.pointer (some ⟨p, 0, none⟩), .string t] w (DrewS B w0 p v len w 2100) := by
  have HS : Hid (Src B w0 p v len w) := h
  clear h
  go_enter Tryz.func40, Tryz.ntmps40
  go_wp2_with fail
  refine (HS.out.n ((t.size : Int) + 1) (by omega)).mono ?_
  rintro e w1 ⟨r, rfl, r0, r1, hS1, hg1⟩
  obtain ⟨k, rfl⟩ := Int.eq_ofNat_of_zero_le r0
  have hk : k ≤ t.size := by omega
  have HS1 : Hid (Src B w0 p v len w1) := hS1
  have HG1 : Hid (w.grownBy w1 (some p)) := hg1
  clear hS1 hg1 HS r1 r0
  go_wp2_with fail
  refine (HS1.out.n 17 (by decide)).mono ?_
  rintro e w2 ⟨r, rfl, r0, r1, hS2, hg2⟩
  obtain ⟨j, rfl⟩ := Int.eq_ofNat_of_zero_le r0
  have hj : j < 17 := by omega
  have HS2 : Hid (Src B w0 p v len w2) := hS2
  have HG2 : Hid (w.grownBy w2 (some p)) := grown_trans HG1.out hg2
  clear hS2 hg2 HS1 HG1 r1 r0
  have hcv := fun x => conv_byte w2 x
  have hS3 := fun o => HS2.out.keep (grown_alloc w2 o none) (by simp) (fun k hk => by cases hk)
  have HS3 : Hid (∀ o, Src B w0 p v len (w2.alloc o)) := hS3
  have HG3 : Hid (∀ o, w.grownBy (w2.alloc o) (some p)) := fun o => grown_trans HG2.out (grown_alloc w2 o _)
  clear hS3 HS2 HG2
  by_cases hks : k = t.size
  · have hkb : ((k : Int) == (t.size : Int)) = true := by simp [hks]
    have hx1 : ∀ x, (t.extract 0 k).size + (⟨#[x]⟩ : ByteArray).size ≤ 9223372036854775807 := fun x => by
      have := ext_size t 0 k
      have : (⟨#[x]⟩ : ByteArray).size = 1 := rfl
      omega
    have hx2 : ∀ x, (t.extract 0 k ++ ⟨#[x]⟩).size + (t.extract (k) t.size).size ≤ 9223372036854775807 := fun x => by
      rw [size_app2]
      have := ext_size t 0 k
      have := ext_size t (k) t.size
      have : (⟨#[x]⟩ : ByteArray).size = 1 := rfl
      omega
    have HS4 := HS3
    have HG4 := HG3
    go_wp2_with fail
    go_region
    all_goals (go_wp2_with fail; go_ret; exact ⟨_, rfl, end_size t _ ht, Src.drew (HS4.out _), grown_drew (HG4.out _)⟩)
  · have hkb : ((k : Int) == (t.size : Int)) = false := by simp; omega
    have hkl : k < t.size := by omega
    clear hks
    go_wp2_with fail
    refine (one_any (HS3.out _) 3 (by decide)).mono ?_
    rintro e w3 ⟨he, hS4, hg4⟩
    have HS4 : Hid (Src B w0 p v len w3) := hS4
    have HG4 : Hid (w.grownBy w3 (some p)) := grown_trans (HG3.out _) hg4
    clear hS4 hg4 HS3 HG3 hcv
    rcases he with rfl | rfl
    · have hx1 : ∀ x, (t.extract 0 k).size + (⟨#[x]⟩ : ByteArray).size ≤ 9223372036854775807 := fun x => by
        have := ext_size t 0 k
        have : (⟨#[x]⟩ : ByteArray).size = 1 := rfl
        omega
      have hx2 : ∀ x, (t.extract 0 k ++ ⟨#[x]⟩).size + (t.extract (k) t.size).size ≤ 9223372036854775807 := fun x => by
        rw [size_app2]
        have := ext_size t 0 k
        have := ext_size t (k) t.size
        have : (⟨#[x]⟩ : ByteArray).size = 1 := rfl
        omega
      go_wp2_with fail
      go_region
      all_goals (go_wp2_with fail; go_ret; exact ⟨_, rfl, three_size t _ _ _ _ _ ht, Src.drew HS4.out, grown_drew HG4.out⟩)
    · go_wp2_with fail
      refine (one_any HS4.out 2 (by decide)).mono ?_
      rintro e w4 ⟨he, hS5, hg5⟩
      have HS5 : Hid (Src B w0 p v len w4) := hS5
      have HG5 : Hid (w.grownBy w4 (some p)) := grown_trans HG4.out hg5
      clear hS5 hg5 HS4 HG4
      rcases he with rfl | rfl
      · have hx1 : (t.extract 0 k).size + (t.extract (k + 1) t.size).size ≤ 9223372036854775807 := by
          have := ext_size t 0 k
          have := ext_size t (k + 1) t.size
          omega
        go_wp2_with fail
        go_region
        all_goals (go_wp2_with fail; go_ret; exact ⟨_, rfl, two_size t _ _ _ _ ht, Src.drew HS5.out, grown_drew HG5.out⟩)
      · have hx1 : ∀ x, (t.extract 0 k).size + (⟨#[x]⟩ : ByteArray).size ≤ 9223372036854775807 := fun x => by
          have := ext_size t 0 k
          have : (⟨#[x]⟩ : ByteArray).size = 1 := rfl
          omega
        have hx2 : ∀ x, (t.extract 0 k ++ ⟨#[x]⟩).size + (t.extract (k + 1) t.size).size ≤ 9223372036854775807 := fun x => by
          rw [size_app2]
          have := ext_size t 0 k
          have := ext_size t (k + 1) t.size
          have : (⟨#[x]⟩ : ByteArray).size = 1 := rfl
          omega
        go_wp2_with fail
        go_region
        all_goals (go_wp2_with fail; go_ret; exact ⟨_, rfl, three_size t _ _ _ _ _ ht, Src.drew HS5.out, grown_drew HG5.out⟩)

end Dk
namespace Dk

def cpuL : List Int := [-1, 0, 1000, 1000000, 1000001]
set_option maxHeartbeats 1600000 in
theorem l02Cpu_any {B : Nat} {w0 : World} {p : Nat} {v : Value} {len : Nat} {w : World} (h : Src B w0 p v len w) :
    Calls Tryz.prog 49 #[.pointer (some ⟨p, 0, none⟩)] w (DrewI B w0 p v len w) := by
  have H1 : Hid (Calls Tryz.prog 50 #[.pointer (some ⟨p, 0, none⟩), .int .i64 6] w (DrewBool B w0 p v len w)) := one_any h 6 (by decide)
  clear h
  go_enter Tryz.func49, Tryz.ntmps49
  go_wp2_with fail
  refine H1.out.mono ?_
  rintro e w1 ⟨he, hS1, hg1⟩
  have HS1 : Hid (Src B w0 p v len w1) := hS1
  have HG1 : Hid (w.grownBy w1 (some p)) := hg1
  clear hS1 hg1 H1
  rcases he with rfl | rfl
  · go_wp2_with fail
    have hS0 := HS1.out.keep (grown_alloc w1 (.cells (cpuL.map (Value.int .i64)).toArray 2) none) (by simp) (fun k hk => by cases hk)
    refine (hS0.n 5 (by decide)).mono ?_
    rintro e w2 ⟨r, rfl, r0, r1, hS2, hg2⟩
    obtain ⟨k, rfl⟩ := Int.eq_ofNat_of_zero_le r0
    have hk : k < 5 := by omega
    obtain ⟨x, hx, x0, x1⟩ := ints_at cpuL (by decide) k hk
    have hpw : p < w1.heap.size := HS1.out.plt
    have hblk : w2.heap[w1.heap.size]? = some (.cells (cpuL.map (Value.int .i64)).toArray 2 (0, 0)) := by
      rw [hg2.block w1.heap.size (by simp) (fun e => by simp at e; omega)]
      show (w1.heap.push _)[w1.heap.size]? = _
      simp
    have hc : w2.cell? ⟨w1.heap.size, k, none⟩ = some (.int .i64 x) := by
      simp only [World.cell?, hblk]
      simpa using hx
    have HS2 : Hid (Src B w0 p v len w2) := hS2
    have HG : Hid (w.grownBy w2 (some p)) := grown_trans HG1.out (grown_trans (grown_alloc w1 _ _) hg2)
    have hki : (k : Int) < 5 := by omega
    clear hS0 hS2 hg2 hblk hx HS1 HG1 r1 r0
    go_wp2
    go_ret
    exact ⟨x, rfl, x0, x1, HS2.out, HG.out⟩
  · go_wp2_with fail
    refine (HS1.out.n 90 (by decide)).mono ?_
    rintro e w2 ⟨r, rfl, r0, r1, hS2, hg2⟩
    have HS2 : Hid (Src B w0 p v len w2) := hS2
    have HG2 : Hid (w.grownBy w2 (some p)) := grown_trans HG1.out hg2
    have hr : r ≤ 90 := by omega
    clear hS2 hg2 HS1 HG1 r1
    go_wp2
    go_ret
    exact ⟨50 * r, rfl, by omega, by omega, HS2.out, HG2.out⟩

def PSt (B : Nat) (w0 : World) (p : Nat) (v : Value) (len : Nat) (wa : World) (b m : Nat) (W : World) : Prop :=
  ∃ (n : ByteArray) (c : Int) (z : ByteArray) (lv : Value) (zs : List ByteArray) (d : ByteArray) (ph : Int), W.heap[b]? = some (.cells #[.string n, .int .i64 c, .string z, lv, .string d, .int .i64 ph] 28 (0, 0)) ∧ (n.size ≤ 100 ∧ z.size ≤ 100 ∧ d.size ≤ 100) ∧ zs.length ≤ m ∧ (∀ (j : Nat) x, zs[j]? = some x → x.size ≤ 100) ∧
    W.ownsRow wa.heap.size 9 1 lv zs.length (zs.map Value.string) ∧ Dr B w0 p v len wa W ∧ W.heap[wa.heap.size]? = some (.cells #[.string ⟨#[]⟩, .int .i64 0, .string ⟨#[]⟩, .slice none 0 0, .string ⟨#[]⟩, .int .i64 0] 28 (0, 0)) ∧ wa.heap.size < b
theorem own_ne {lo b n : Nat} {lv : Value} {xs : List Value} {W : World} {cur : Array Value} (h : W.ownsRow lo 9 1 lv n xs) (hb : W.heap[b]? = some (.cells cur 28 (0, 0))) : lv.ownBlock ≠ some b := fun e => by
  rcases h.2 with ⟨rfl, _⟩ | ⟨g', cap, cu, rfl, _, hg', _⟩
  · cases e
  · simp [Value.ownBlock] at e
    subst e
    rw [hb] at hg'
    simp at hg'
theorem PSt.next {B : Nat} {w0 : World} {p : Nat} {v : Value} {len : Nat} {wa : World} {b m : Nat} {W W' : World} (h : PSt B w0 p v len wa b m W) (hs : Src B w0 p v len W') (hg : W.grownBy W' (some p)) : PSt B w0 p v len wa b m W' := by
  obtain ⟨n, c, z, lv, zs, d, ph, h1, h2, h3, h4, h5, h6, h7, h8⟩ := h
  have hp := h6.lt
  refine ⟨n, c, z, lv, zs, d, ph, gk hg (by omega) h1, h2, h3, h4, h5.kept hg (.inr (fun e => by have := (h5.lt _ e).1; omega)), h6.next hs hg, gk hg (by omega) h7, h8⟩
theorem PSt.set {B : Nat} {w0 : World} {p : Nat} {v : Value} {len : Nat} {wa : World} {b m : Nat} {W : World} (h : PSt B w0 p v len wa b m W) :
    (∀ x, PSt B w0 p v len wa b m (W.setCell ⟨b, 1, none⟩ (.int .i64 x))) ∧ (∀ s : ByteArray, s.size ≤ 100 → PSt B w0 p v len wa b m (W.setCell ⟨b, 2, none⟩ (.string s))) ∧
    (∀ s : ByteArray, s.size ≤ 100 → PSt B w0 p v len wa b m (W.setCell ⟨b, 4, none⟩ (.string s))) ∧ (∀ x, PSt B w0 p v len wa b m (W.setCell ⟨b, 5, none⟩ (.int .i64 x))) := by
  obtain ⟨n, c, z, lv, zs, d, ph, h1, h2, h3, h4, h5, h6, h7, h8⟩ := h
  have k5 : ∀ i x, (W.setCell ⟨b, i, none⟩ x).ownsRow wa.heap.size 9 1 lv zs.length (zs.map Value.string) := fun i x => h5.kept (grown_set W b i x) (.inr (own_ne h5 h1))
  have k6 : ∀ i x, Dr B w0 p v len wa (W.setCell ⟨b, i, none⟩ x) := fun i x => h6.set x (by omega)
  have k7 : ∀ i x, (W.setCell ⟨b, i, none⟩ x).heap[wa.heap.size]? = some (.cells #[.string ⟨#[]⟩, .int .i64 0, .string ⟨#[]⟩, .slice none 0 0, .string ⟨#[]⟩, .int .i64 0] 28 (0, 0)) := fun i x => (Below.heap_setCell _ _ _ _ (show wa.heap.size ≠ b by omega)).trans h7
  exact ⟨fun x => ⟨n, x, z, lv, zs, d, ph, block_set h1 _, h2, h3, h4, k5 _ _, k6 _ _, k7 _ _, h8⟩, fun s hs => ⟨n, c, s, lv, zs, d, ph, block_set h1 _, ⟨h2.1, hs, h2.2.2⟩, h3, h4, k5 _ _, k6 _ _, k7 _ _, h8⟩,
    fun s hs => ⟨n, c, z, lv, zs, s, ph, block_set h1 _, ⟨h2.1, h2.2.1, hs⟩, h3, h4, k5 _ _, k6 _ _, k7 _ _, h8⟩, fun x => ⟨n, c, z, lv, zs, d, x, block_set h1 _, h2, h3, h4, k5 _ _, k6 _ _, k7 _ _, h8⟩⟩
theorem PSt.lay {B : Nat} {w0 : World} {p : Nat} {v : Value} {len : Nat} {wa : World} {b m : Nat} {W : World} (h : PSt B w0 p v len wa b m W) (ss : List ByteArray) (hl : ss.length ≤ m) (hl2 : ss.length ≤ 2) (hs : ∀ x ∈ ss, x.size ≤ 100) (k : Nat) (hk : ss.length = k) :
    PSt B w0 p v len wa b m ((W.setCell ⟨b, 3, none⟩ (.slice (some ⟨W.heap.size, 0, none⟩) k k)).alloc (.cells (ss.map Value.string).toArray 9)) := by
  obtain ⟨n, c, z, lv, zs, d, ph, h1, h2, h3, h4, h5, h6, h7, h8⟩ := h
  subst hk
  have hbw := lt_of_some h1
  have hsz : (W.setCell ⟨b, 3, none⟩ (.slice (some ⟨W.heap.size, 0, none⟩) ss.length ss.length)).heap.size = W.heap.size := by simp [World.setCell]
  refine ⟨n, c, z, .slice (some ⟨W.heap.size, 0, none⟩) ss.length ss.length, ss, d, ph, (Below.heap_alloc _ _ _ (by rw [hsz]; exact hbw)).trans (block_set h1 _), h2, hl, fun j x hx => hs x (List.mem_of_getElem? hx), ?_, (h6.set _ (by omega)).alloc _, (Below.heap_alloc _ _ _ (by rw [hsz]; omega)).trans ((Below.heap_setCell _ _ _ _ (show wa.heap.size ≠ b by omega)).trans h7), h8⟩
  refine ⟨by simp, .inr ⟨W.heap.size, ss.length, (ss.map Value.string).toArray, rfl, h6.size, push_at _ _ _ hsz, Nat.le_refl _, by unfold maxLen; omega, by simp, by simp; exact List.take_of_length_le (by simp)⟩⟩

theorem PSt.up {B : Nat} {w0 : World} {p : Nat} {v : Value} {len : Nat} {wa : World} {b m m' : Nat} {W : World} (h : PSt B w0 p v len wa b m W) (hm : m ≤ m') : PSt B w0 p v len wa b m' W := by
  obtain ⟨n, c, z, lv, zs, d, ph, h1, h2, h3, h⟩ := h
  exact ⟨n, c, z, lv, zs, d, ph, h1, h2, by omega, h⟩
theorem own_tx {W : World} {lo : Nat} {lv : Value} {zs : List ByteArray} (h5 : W.ownsRow lo 9 1 lv zs.length (zs.map Value.string)) (h4 : ∀ (j : Nat) x, zs[j]? = some x → x.size ≤ 100) : ∃ a l cp, lv = .slice a l cp ∧ TxRow W a l cp zs ∧ (a = none → cp = 0) := by
  rcases h5.2 with ⟨rfl, h0⟩ | ⟨g, cap, cu, rfl, hb, hg, hn, hc, hs, ht⟩
  · have : zs = [] := List.eq_nil_of_length_eq_zero h0
    subst this
    exact ⟨none, 0, 0, rfl, ⟨rfl, Nat.le_refl _, by omega, fun j x hx => by simp at hx, .inl rfl⟩, fun _ => rfl⟩
  · refine ⟨_, _, _, rfl, ⟨by simp, hn, by unfold maxLen at hc; omega, fun j x hx => by have := h4 j x hx; omega, .inr ⟨g, 0, rfl, lt_of_some hg, fun j x hx => ?_⟩⟩, fun e => by cases e⟩
    have hj : j < zs.length := (List.getElem?_eq_some_iff.1 hx).1
    have e1 : (cu.toList.take (zs.length * 1))[j]? = (zs.map Value.string)[j]? := by rw [ht]
    rw [List.getElem?_take, if_pos (by omega), List.getElem?_map, hx] at e1
    rw [cellK hg, Nat.zero_add, ← Array.getElem?_toList]
    exact e1

end Dk
namespace Dk

theorem step_append_own {P : Program} {ops : Array Oper} {o : Oper} {a : Act} {w : World} {K : Act → World → Prop} {Q : Exit → Act → World → Prop} {E : Prop} (hgd : o.guard = none) (s x : Operand) (t : TypeId)
    (ho : o.op = .call { callee := .builtin .append, args := #[s, x], argTypes := #[t, t] })
    (base : Nat) (e : TypeId) (i : TypeInfo) (z : Value) (size bytes : Nat) (ht : P.underlying t = some (.slice e)) (hi : P.info? e = some i) (hz : i.zero = some z)
    (hsize : i.size = size) (hby : i.bytes = bytes) (hzs : z.cells.size = size) (hsz : 0 < size)
    (v : Value) (n : Nat) (xs : List Value) (hs : a.eval s = v) (hown : w.ownsRow base e size v n xs)
    (ad : Addr) (m c : Nat) (news : List Value) (hx : a.eval x = .slice (some ad) m c) (hl : news.length = m * size) (hnews : ∀ j u, news[j]? = some u → w.cell? (ad.add j) = some u) (h1 : ∀ u ∈ news, u.oneCell' = true)
    (h63 : n + m ≤ maxLen) (hbytes : (n + m) * bytes ≤ 140737488355328) (hbase : base ≤ w.heap.size)
    (h : ∀ v' w', w'.ownsRow base e size v' (n + m) (xs ++ news) → w.grownBy w' v.ownBlock → (v' = .slice none 0 0 ↔ v = .slice none 0 0 ∧ m = 0) → K (a.put o.dst v') w') :
    if Region.wanted o (yielded ops a.tmps) = true then Oper.wp P o a w K Q else E := by
  have hw : Region.wanted o (yielded ops a.tmps) = true := by simp [Region.wanted, hgd]
  rw [if_pos hw]
  exact wp_append_own w s x t ho base e i z size bytes ht hi hz hsize hby hzs hsz v n xs hs hown ad m c news hx hl hnews h1 h63 hbytes hbase h
theorem own_sl {W : World} {lo n m : Nat} {T : TypeId} {v : Value} {xs : List Value} (h : W.ownsRow lo T m v n xs) : ∃ a l c, v = .slice a l c := by
  rcases h.2 with ⟨rfl, _⟩ | ⟨g, cap, cu, rfl, _⟩
  · exact ⟨_, _, _, rfl⟩
  · exact ⟨_, _, _, rfl⟩
theorem Dr.grownD {B : Nat} {w0 : World} {p : Nat} {v : Value} {len : Nat} {wa w w' : World} {row : Option Nat} (h : Dr B w0 p v len wa w) (hg : w.grownBy w' row) (hr : ∀ k, row = some k → wa.heap.size ≤ k) : Dr B w0 p v len wa w' := by
  have hp := h.lt
  have hB : B ≤ p := h.src.1
  refine ⟨h.src.keep hg (fun e => by have := hr p e; omega) (fun k e => by have := hr k e; omega), ⟨hg.os.trans h.gr.os, hg.tape.trans h.gr.tape, hg.output.trans h.gr.output, Nat.le_trans h.gr.size hg.size, fun i hi hne => ?_⟩, h.lt⟩
  exact (hg.block i (Nat.lt_of_lt_of_le hi h.gr.size) (fun e => by have := hr i e.symm; omega)).trans (h.gr.block i hi hne)
theorem step_call {P : Program} {ops : Array Oper} {o : Oper} {a : Act} {w : World} {K : Act → World → Prop} {Q : Exit → Act → World → Prop} {E : Prop} (hgd : o.guard = none) (f : FuncId) (args : Array Operand) (ts : Array TypeId) {fn : Func} {cd : Code} (hf : P.funcs[f]? = some fn) (hname : (fn.name == "runtime.NumGoroutine") = false) (hb : fn.body = some cd)
    (ho : o.op = .call { callee := .value (.func f), args := args, argTypes := ts }) (vs : Array Value) (hv : args.map a.eval = vs) {R : Ending → World → Prop} (h : Calls P f vs w R)
    (hR : ∀ e w', R e w' → ∃ v, e = .returned v ∧ K (a.put o.dst v) w') :
    if Region.wanted o (yielded ops a.tmps) = true then Oper.wp P o a w K Q else E := by
  have hw : Region.wanted o (yielded ops a.tmps) = true := by simp [Region.wanted, hgd]
  rw [if_pos hw]
  subst hv
  unfold Oper.wp
  have hrun : (execOp a.eval o).run P w = .ok (.enter f (args.map a.eval)) w := by
    have h1 : ¬ fn.name = "runtime.NumGoroutine" := by simpa using hname
    simp [execOp, ho, resolve, invoke, Act.eval, Deferred.ofValue, callFunc, hf, h1, hb, Result.andThen]
  rw [hrun, Oper.upon_enter]
  refine h.mono fun e w' hr => ?_
  obtain ⟨v, rfl, hk⟩ := hR e w' hr
  exact hk

theorem own_tx2 {W : World} {lo : Nat} {lv : Value} {zs : List ByteArray} (h5 : W.ownsRow lo 9 1 lv zs.length (zs.map Value.string)) (h4 : ∀ (j : Nat) x, zs[j]? = some x → x.size ≤ 100) : ∃ a l cp, lv = .slice a l cp ∧ TxRow W a l cp zs ∧ (a = none → cp = 0) ∧ (zs = [] ∨ ∃ g, a = some ⟨g, 0, none⟩ ∧ lo ≤ g) := by
  obtain ⟨a, l, cp, rfl, h1, h2⟩ := own_tx h5 h4
  refine ⟨a, l, cp, rfl, h1, h2, ?_⟩
  rcases h5.2 with ⟨e, h0⟩ | ⟨g, cap, cu, e, hb, _⟩
  · exact .inl (List.eq_nil_of_length_eq_zero h0)
  · injection e with e1 e2 e3
    exact .inr ⟨g, e1, hb⟩
def DrewP (B : Nat) (w0 : World) (p : Nat) (v : Value) (len : Nat) (w : World) (e : Ending) (w' : World) : Prop :=
  ∃ n c z a l cp zs d ph, e = .returned (.agg #[.string n, .int .i64 c, .string z, .slice a l cp, .string d, .int .i64 ph]) ∧ n.size ≤ 100 ∧ z.size ≤ 100 ∧ d.size ≤ 100 ∧ TxRow w' a l cp zs ∧ (a = none → cp = 0) ∧ (zs = [] ∨ ∃ g, a = some ⟨g, 0, none⟩ ∧ w.heap.size ≤ g) ∧ zs.length ≤ 4 ∧ (∀ (j : Nat) x, zs[j]? = some x → x.size ≤ 100) ∧ Dr B w0 p v len w w'
theorem PSt.src {B : Nat} {w0 : World} {p : Nat} {v : Value} {len : Nat} {wa : World} {b m : Nat} {W : World} (h : PSt B w0 p v len wa b m W) : Src B w0 p v len W := by
  obtain ⟨_, _, _, _, _, _, _, _, _, _, _, _, h, _⟩ := h
  exact h.src
theorem PSt.lt {B : Nat} {w0 : World} {p : Nat} {v : Value} {len : Nat} {wa : World} {b m : Nat} {W : World} (h : PSt B w0 p v len wa b m W) : b < W.heap.size := by
  obtain ⟨_, _, _, _, _, _, _, h, _⟩ := h
  exact lt_of_some h

set_option maxRecDepth 10000 in
set_option maxHeartbeats 6400000 in
theorem pod_any {B : Nat} {w0 : World} {p : Nat} {v : Value} {len : Nat} {w : World} (h : Src B w0 p v len w) :
    Calls Tryz.prog 32 #[.pointer (some ⟨p, 0, none⟩)] w (DrewP B w0 p v len w) := by
  have HD0 := hidK ((Dr.start h).alloc (.cells #[.string ⟨#[]⟩, .int .i64 0, .string ⟨#[]⟩, .slice none 0 0, .string ⟨#[]⟩, .int .i64 0] 28))
  have HP := hidK h.plt
  have G0 : Hid ((w.alloc (.cells #[.string ⟨#[]⟩, .int .i64 0, .string ⟨#[]⟩, .slice none 0 0, .string ⟨#[]⟩, .int .i64 0] 28)).heap[w.heap.size]? = some (.cells #[.string ⟨#[]⟩, .int .i64 0, .string ⟨#[]⟩, .slice none 0 0, .string ⟨#[]⟩, .int .i64 0] 28 (0, 0))) := Array.getElem?_push_size
  clear h
  go_enter Tryz.func32, Tryz.ntmps32
  go_wp2_with fail
  refine (pick_new HD0.out.src [⟨#[112, 49]⟩, ⟨#[112, 50]⟩, ⟨#[112, 51]⟩, ⟨#[112, 52]⟩] 4 _ _ (by simp) rfl (by decide) (by decide) (by decide)).mono ?_
  rintro e w1 ⟨t1, rfl, ht1, hs, hg⟩
  have HD1 := hidK (HD0.out.next hs hg)
  have G1 := hidK (gk hg (by have := HP.out; omega) G0.out)
  clear hs hg G0 HD0
  go_wp2_with fail
  refine (HD1.out.src.n 6 (by decide)).mono ?_
  rintro e w2 ⟨r2, rfl, ra2, rb2, hs, hg⟩
  have HD2 := hidK (HD1.out.next hs hg)
  have G2 := hidK (gk hg (by have := HP.out; omega) G1.out)
  clear hs hg G1 HD1
  have rc2 : r2 ≤ 6 := by omega
  clear rb2
  have HP3 : Hid (PSt B w0 p v len w w2.heap.size 3 (w2.alloc (.cells #[.string t1, .int .i64 (250 * r2), .string ⟨#[]⟩, .slice none 0 0, .string ⟨#[]⟩, .int .i64 0] 28))) := ⟨t1, 250 * r2, ⟨#[]⟩, .slice none 0 0, [], ⟨#[]⟩, 0, Array.getElem?_push_size, ⟨ht1, by decide, by decide⟩, by simp, fun j x hx => by simp at hx, ⟨rfl, .inl ⟨rfl, rfl⟩⟩, HD2.out.alloc _, (Below.heap_alloc _ _ _ (lt_of_some G2.out)).trans G2.out, lt_of_some G2.out⟩
  clear HD2 G2
  go_wp2_with fail
  generalize (w2.alloc (.cells #[.string t1, .int .i64 (250 * r2), .string ⟨#[]⟩, .slice none 0 0, .string ⟨#[]⟩, .int .i64 0] 28)) = W2 at *
  generalize w2.heap.size = b at *
  refine (one_any HP3.out.src 3 (by decide)).mono ?_
  rintro e w3 ⟨he, hs, hg⟩
  obtain ⟨x12, rfl⟩ := bool_of he
  have HP4 := hidK (HP3.out.next hs hg)
  clear hs hg he HP3 ra2 rc2 ht1
  go_upto_if 12 with fail
  go_cut [3] from 13 to 15 (fun s wx => s = .pointer (some ⟨b, 0, none⟩) ∧ PSt B w0 p v len w b 3 wx)
  case first =>
    cases x12 with
    | false =>
      go_wp2_with fail
      go_meet
      exact ⟨rfl, HP4.out⟩
    | true =>
      go_wp2_with fail
      refine (zone_any HP4.out.src).mono ?_
      rintro e w4 ⟨t, rfl, ht, hs, hg⟩
      have HP5 := hidK (HP4.out.next hs hg)
      have HP6 := hidK (HP5.out.set.2.1 t ht)
      obtain ⟨n, c, z, lv, zs, d, ph, q, -⟩ := HP5.out
      have y0 : w4.cell? ⟨b, 0, none⟩ = some (.string n) := cellK q 0
      have yf0 : w4.frozen? ⟨b, 0, none⟩ = false := froK q 0
      have y1 : w4.cell? ⟨b, 1, none⟩ = some (.int .i64 c) := cellK q 1
      have yf1 : w4.frozen? ⟨b, 1, none⟩ = false := froK q 1
      have y2 : w4.cell? ⟨b, 2, none⟩ = some (.string z) := cellK q 2
      have yf2 : w4.frozen? ⟨b, 2, none⟩ = false := froK q 2
      have y3 : w4.cell? ⟨b, 3, none⟩ = some (lv) := cellK q 3
      have yf3 : w4.frozen? ⟨b, 3, none⟩ = false := froK q 3
      have y4 : w4.cell? ⟨b, 4, none⟩ = some (.string d) := cellK q 4
      have yf4 : w4.frozen? ⟨b, 4, none⟩ = false := froK q 4
      have y5 : w4.cell? ⟨b, 5, none⟩ = some (.int .i64 ph) := cellK q 5
      have yf5 : w4.frozen? ⟨b, 5, none⟩ = false := froK q 5
      clear q
      clear hs hg HP4 HP5
      go_wp2_with fail
      go_meet
      exact ⟨rfl, HP6.out⟩
  case rest =>
    obtain ⟨rfl, hP⟩ := hcut
    have HP5 := hidK hP
    clear hP HP4
    go_wp2_with fail
    refine (one_any HP5.out.src 2 (by decide)).mono ?_
    rintro e w5 ⟨he, hs, hg⟩
    obtain ⟨x17, rfl⟩ := bool_of he
    have HP6 := hidK (HP5.out.next hs hg)
    clear hs hg he HP5
    go_upto_if 17 with fail
    go_cut [3] from 18 to 29 (fun s wx => s = .pointer (some ⟨b, 0, none⟩) ∧ PSt B w0 p v len w b 3 wx)
    case first =>
      cases x17 with
      | true =>
        go_wp2_with fail
        refine (pick_new HP6.out.src [⟨#[99, 49]⟩, ⟨#[99, 50]⟩, ⟨#[99, 51]⟩, ⟨#[99, 52]⟩] 4 _ _ (by simp) rfl (by decide) (by decide) (by decide)).mono ?_
        rintro e w6 ⟨t, rfl, ht, hs, hg⟩
        have HP7 := hidK (HP6.out.next hs hg)
        have HP8 := hidK (HP7.out.lay [t] (by simp) (by simp) (fun x hx => by simp at hx; rw [hx]; exact ht) 1 rfl)
        have hbl := HP7.out.lt
        obtain ⟨n, c, z, lv, zs, d, ph, q, -⟩ := HP7.out
        have y0 : w6.cell? ⟨b, 0, none⟩ = some (.string n) := cellK q 0
        have yf0 : w6.frozen? ⟨b, 0, none⟩ = false := froK q 0
        have y1 : w6.cell? ⟨b, 1, none⟩ = some (.int .i64 c) := cellK q 1
        have yf1 : w6.frozen? ⟨b, 1, none⟩ = false := froK q 1
        have y2 : w6.cell? ⟨b, 2, none⟩ = some (.string z) := cellK q 2
        have yf2 : w6.frozen? ⟨b, 2, none⟩ = false := froK q 2
        have y3 : w6.cell? ⟨b, 3, none⟩ = some (lv) := cellK q 3
        have yf3 : w6.frozen? ⟨b, 3, none⟩ = false := froK q 3
        have y4 : w6.cell? ⟨b, 4, none⟩ = some (.string d) := cellK q 4
        have yf4 : w6.frozen? ⟨b, 4, none⟩ = false := froK q 4
        have y5 : w6.cell? ⟨b, 5, none⟩ = some (.int .i64 ph) := cellK q 5
        have yf5 : w6.frozen? ⟨b, 5, none⟩ = false := froK q 5
        clear q
        clear hs hg HP6 HP7
        go_wp2_with fail
        go_meet
        exact ⟨rfl, HP8.out⟩
      | false =>
        go_wp2_with fail
        refine (one_any HP6.out.src 2 (by decide)).mono ?_
        rintro e w6 ⟨he, hs, hg⟩
        have HP7 := hidK (HP6.out.next hs hg)
        clear hs hg HP6
        rcases he with rfl | rfl
        · go_wp2_with fail
          refine (pick_new HP7.out.src [⟨#[99, 50]⟩, ⟨#[99, 51]⟩] 2 _ _ (by simp) rfl (by decide) (by decide) (by decide)).mono ?_
          rintro e w7 ⟨t, rfl, ht, hs, hg⟩
          have HP8 := hidK (HP7.out.next hs hg)
          have HP9 := hidK (HP8.out.lay [⟨#[99, 49]⟩, t] (by simp) (by simp) (fun x hx => by simp at hx; rcases hx with rfl | rfl; decide; exact ht) 2 rfl)
          have hbl := HP8.out.lt
          obtain ⟨n, c, z, lv, zs, d, ph, q, -⟩ := HP8.out
          have y0 : w7.cell? ⟨b, 0, none⟩ = some (.string n) := cellK q 0
          have yf0 : w7.frozen? ⟨b, 0, none⟩ = false := froK q 0
          have y1 : w7.cell? ⟨b, 1, none⟩ = some (.int .i64 c) := cellK q 1
          have yf1 : w7.frozen? ⟨b, 1, none⟩ = false := froK q 1
          have y2 : w7.cell? ⟨b, 2, none⟩ = some (.string z) := cellK q 2
          have yf2 : w7.frozen? ⟨b, 2, none⟩ = false := froK q 2
          have y3 : w7.cell? ⟨b, 3, none⟩ = some (lv) := cellK q 3
          have yf3 : w7.frozen? ⟨b, 3, none⟩ = false := froK q 3
          have y4 : w7.cell? ⟨b, 4, none⟩ = some (.string d) := cellK q 4
          have yf4 : w7.frozen? ⟨b, 4, none⟩ = false := froK q 4
          have y5 : w7.cell? ⟨b, 5, none⟩ = some (.int .i64 ph) := cellK q 5
          have yf5 : w7.frozen? ⟨b, 5, none⟩ = false := froK q 5
          clear q
          clear hs hg HP7 HP8
          go_wp2_with fail
          go_meet
          exact ⟨rfl, HP9.out⟩
        · go_wp2_with fail
          go_meet
          exact ⟨rfl, HP7.out⟩
    case rest =>
      obtain ⟨rfl, hP⟩ := hcut
      have HP7 := hidK hP
      clear hP HP6
      go_wp2_with fail
      refine (one_any HP7.out.src 15 (by decide)).mono ?_
      rintro e w6 ⟨he, hs, hg⟩
      obtain ⟨x31, rfl⟩ := bool_of he
      have HP8 := hidK (HP7.out.next hs hg)
      clear hs hg he HP7
      go_upto_if 31 with fail
      go_cut [3] from 32 to 55 (fun s wx => s = .pointer (some ⟨b, 0, none⟩) ∧ PSt B w0 p v len w b 4 wx)
      case first =>
        cases x31 with
        | false =>
          go_wp2_with fail
          go_meet
          exact ⟨rfl, HP8.out.up (by omega)⟩
        | true =>
          go_wp2_with fail
          refine (HP8.out.src.n 4 (by decide)).mono ?_
          rintro e w7 ⟨r7, rfl, ra7, rb7, hs, hg⟩
          have HP9 := hidK (HP8.out.next hs hg)
          clear hs hg HP8 rb7
          by_cases h0 : r7 = 0
          · subst h0
            go_wp2_with fail
            refine (l02Cpu_any HP9.out.src).mono ?_
            rintro e w8 ⟨r8, rfl, ra8, rb8, hs, hg⟩
            have HPA := hidK (HP9.out.next hs hg)
            have HPB := hidK (HPA.out.set.1 r8)
            obtain ⟨n, c, z, lv, zs, d, ph, q, -⟩ := HPA.out
            have y0 : w8.cell? ⟨b, 0, none⟩ = some (.string n) := cellK q 0
            have yf0 : w8.frozen? ⟨b, 0, none⟩ = false := froK q 0
            have y1 : w8.cell? ⟨b, 1, none⟩ = some (.int .i64 c) := cellK q 1
            have yf1 : w8.frozen? ⟨b, 1, none⟩ = false := froK q 1
            have y2 : w8.cell? ⟨b, 2, none⟩ = some (.string z) := cellK q 2
            have yf2 : w8.frozen? ⟨b, 2, none⟩ = false := froK q 2
            have y3 : w8.cell? ⟨b, 3, none⟩ = some (lv) := cellK q 3
            have yf3 : w8.frozen? ⟨b, 3, none⟩ = false := froK q 3
            have y4 : w8.cell? ⟨b, 4, none⟩ = some (.string d) := cellK q 4
            have yf4 : w8.frozen? ⟨b, 4, none⟩ = false := froK q 4
            have y5 : w8.cell? ⟨b, 5, none⟩ = some (.int .i64 ph) := cellK q 5
            have yf5 : w8.frozen? ⟨b, 5, none⟩ = false := froK q 5
            clear q
            clear hs hg HP9 HPA
            go_wp2_with fail
            go_meet
            exact ⟨rfl, HPB.out.up (by omega)⟩
          have q70 : (r7 == 0) = false := by simp [h0]
          by_cases h1 : r7 = 1
          · subst h1
            clear h0
            have hbl := HP9.out.lt
            have hpl := HP9.out.src.plt
            obtain ⟨n, c, z, lv, zs, d, ph, h1, h2, h3, h4, h5, h6, h7, h8⟩ := HP9.out
            have HO := hidK h5
            have H1 := hidK h1
            have H6 := hidK h6
            have H7 := hidK h7
            have y0 : w7.cell? ⟨b, 0, none⟩ = some (.string n) := cellK h1 0
            have yf0 : w7.frozen? ⟨b, 0, none⟩ = false := froK h1 0
            have y1 : w7.cell? ⟨b, 1, none⟩ = some (.int .i64 c) := cellK h1 1
            have yf1 : w7.frozen? ⟨b, 1, none⟩ = false := froK h1 1
            have y2 : w7.cell? ⟨b, 2, none⟩ = some (.string z) := cellK h1 2
            have yf2 : w7.frozen? ⟨b, 2, none⟩ = false := froK h1 2
            have y3 : w7.cell? ⟨b, 3, none⟩ = some (lv) := cellK h1 3
            have yf3 : w7.frozen? ⟨b, 3, none⟩ = false := froK h1 3
            have y4 : w7.cell? ⟨b, 4, none⟩ = some (.string d) := cellK h1 4
            have yf4 : w7.frozen? ⟨b, 4, none⟩ = false := froK h1 4
            have y5 : w7.cell? ⟨b, 5, none⟩ = some (.int .i64 ph) := cellK h1 5
            have yf5 : w7.frozen? ⟨b, 5, none⟩ = false := froK h1 5
            clear h1 h5 h6 h7
            have HPK := hidK (pick_any (Src.drew (H6.out.alloc (.cells #[.string ⟨#[97]⟩, .string ⟨#[65]⟩, .string ⟨#[122]⟩] 9)).src) w7.heap.size 3 [⟨#[97]⟩, ⟨#[65]⟩, ⟨#[122]⟩] 9 Array.getElem?_push_size (by omega) rfl (by decide) (by decide) (by decide))
            have HNX : Hid (∀ w8, Src B w0 p v len w8 → (w7.alloc (.cells #[.string ⟨#[97]⟩, .string ⟨#[65]⟩, .string ⟨#[122]⟩] 9)).drew.grownBy w8 (some p) → (w8.heap[b]? = some (.cells #[.string n, .int .i64 c, .string z, lv, .string d, .int .i64 ph] 28 (0, 0)) ∧ w8.ownsRow w.heap.size 9 1 lv zs.length (zs.map Value.string) ∧ Dr B w0 p v len w w8 ∧ w8.heap[w.heap.size]? = some (.cells #[.string ⟨#[]⟩, .int .i64 0, .string ⟨#[]⟩, .slice none 0 0, .string ⟨#[]⟩, .int .i64 0] 28 (0, 0)))) := fun w8 hs hg => by
              have hgw : w7.grownBy w8 (some p) := grown_trans (grown_alloc w7 (.cells #[.string ⟨#[97]⟩, .string ⟨#[65]⟩, .string ⟨#[122]⟩] 9) (some p)) ⟨hg.os, hg.tape, hg.output, hg.size, hg.block⟩
              have hpp := H6.out.lt
              exact ⟨gk hgw (by omega) H1.out, HO.out.kept hgw (.inr (fun e => by have := (HO.out.lt _ e).1; omega)), H6.out.next hs hgw, gk hgw (by omega) H7.out⟩
            obtain ⟨i0, hi, hz0, hz1, hz2⟩ := info_parts infoStr
            go_wp2_with fail
            go_region_law (first
              | (refine step_append_own rfl _ _ 26 rfl w.heap.size 9 i0 (.string ⟨#[]⟩) 1 16 Tryz.underlying26 hi hz0 hz1 hz2 rfl (by decide) lv zs.length (zs.map Value.string) (by simp [Act.eval]) (HO8.out.alloc _) ⟨w8.heap.size, 0, none⟩ 1 1 [.string t] (by simp [Act.eval]) rfl (fun j u hj => by have hq := cellK (w := w8.alloc (.cells #[.string t] 9)) (b := w8.heap.size) (push_at _ _ _ rfl) j; rw [Addr.add_lit, Nat.zero_add, hq]; simpa using hj) (fun u hu => by simp at hu; subst hu; rfl) (by unfold maxLen; omega) (by omega) (by simp; omega) ?_; intro v2 w9 hown hgrow _; obtain ⟨qa, ql, qc, rfl⟩ := own_sl hown; have hn8 := own_ne HO8.out H18.out; have hn9 := own_ne HO8.out H78.out; have g9 := (hgrow.block b (Nat.lt_of_lt_of_le (lt_of_some H18.out) (by simp)) (fun e => hn8 e.symm)).trans ((Below.heap_alloc w8 (.cells #[.string t] 9) _ (lt_of_some H18.out)).trans H18.out); have z9 := (hgrow.block w.heap.size (Nat.lt_of_lt_of_le (lt_of_some H78.out) (by simp)) (fun e => hn9 e.symm)).trans ((Below.heap_alloc w8 (.cells #[.string t] 9) _ (lt_of_some H78.out)).trans H78.out); have HW := hidK hown; have HG := hidK hgrow; have G9 := hidK g9; have Z9 := hidK z9; have v0 : w9.cell? ⟨b, 0, none⟩ = some (.string n) := cellK g9 0; have vf0 : w9.frozen? ⟨b, 0, none⟩ = false := froK g9 0; have v1 : w9.cell? ⟨b, 1, none⟩ = some (.int .i64 c) := cellK g9 1; have vf1 : w9.frozen? ⟨b, 1, none⟩ = false := froK g9 1; have v2 : w9.cell? ⟨b, 2, none⟩ = some (.string z) := cellK g9 2; have vf2 : w9.frozen? ⟨b, 2, none⟩ = false := froK g9 2; have v3 : w9.cell? ⟨b, 3, none⟩ = some (lv) := cellK g9 3; have vf3 : w9.frozen? ⟨b, 3, none⟩ = false := froK g9 3; have v4 : w9.cell? ⟨b, 4, none⟩ = some (.string d) := cellK g9 4; have vf4 : w9.frozen? ⟨b, 4, none⟩ = false := froK g9 4; have v5 : w9.cell? ⟨b, 5, none⟩ = some (.int .i64 ph) := cellK g9 5; have vf5 : w9.frozen? ⟨b, 5, none⟩ = false := froK g9 5; clear hown hgrow hn8 hn9 g9 z9)
              | (refine step_call rfl 41 _ _ Tryz.func41 (by kernel_rfl) rfl rfl _ (by simp [Act.eval]) HPK.out (fun e w8 hR => ?_); obtain ⟨t, rfl, ht, hs, hg⟩ := hR; refine ⟨_, rfl, ?_⟩; obtain ⟨g1, ho8, hd8, hz8⟩ := HNX.out w8 hs hg; have hl8 := lt_of_some g1; have HO8 := hidK ho8; have H68 := hidK hd8; have H78 := hidK hz8; have H18 := hidK g1; have x0 : w8.cell? ⟨b, 0, none⟩ = some (.string n) := cellK g1 0; have xf0 : w8.frozen? ⟨b, 0, none⟩ = false := froK g1 0; have x1 : w8.cell? ⟨b, 1, none⟩ = some (.int .i64 c) := cellK g1 1; have xf1 : w8.frozen? ⟨b, 1, none⟩ = false := froK g1 1; have x2 : w8.cell? ⟨b, 2, none⟩ = some (.string z) := cellK g1 2; have xf2 : w8.frozen? ⟨b, 2, none⟩ = false := froK g1 2; have x3 : w8.cell? ⟨b, 3, none⟩ = some (lv) := cellK g1 3; have xf3 : w8.frozen? ⟨b, 3, none⟩ = false := froK g1 3; have x4 : w8.cell? ⟨b, 4, none⟩ = some (.string d) := cellK g1 4; have xf4 : w8.frozen? ⟨b, 4, none⟩ = false := froK g1 4; have x5 : w8.cell? ⟨b, 5, none⟩ = some (.int .i64 ph) := cellK g1 5; have xf5 : w8.frozen? ⟨b, 5, none⟩ = false := froK g1 5; clear g1 hs hg ho8 hd8 hz8))
            all_goals (
              go_wp2_with fail
              go_meet
              refine ⟨rfl, n, c, z, .slice qa ql qc, zs ++ [t], d, ph, block_set G9.out _, h2, by simp; omega, fun j x hx => ?_, ?_, ?_, ?_, h8⟩
              · rcases Nat.lt_or_ge j zs.length with hj | hj
                · rw [List.getElem?_append_left hj] at hx
                  exact h4 j x hx
                · rw [List.getElem?_append_right hj] at hx
                  have hx2 := List.mem_of_getElem? hx
                  simp at hx2
                  rw [hx2]
                  exact ht
              · have h9 := HW.out.kept (grown_set w9 b 3 (.slice qa ql qc)) (.inr (own_ne HW.out G9.out))
                simpa using h9
              · exact ((H68.out.alloc _).grownD HG.out (fun k e => (HO8.out.lt _ e).1)).set _ (by omega)
              · exact (Below.heap_setCell _ _ _ _ (show w.heap.size ≠ b by omega)).trans Z9.out)
          have q71 : (r7 == 1) = false := by simp [h1]
          by_cases h2 : r7 = 2
          · subst h2
            clear h0 h1
            go_wp2_with fail
            refine (HP9.out.src.n 5 (by decide)).mono ?_
            rintro e w8 ⟨r8, rfl, ra8, rb8, hs, hg⟩
            have HPA := hidK (HP9.out.next hs hg)
            have HPB := hidK (HPA.out.set.2.2.2 (r8 - 1))
            have rc8 : r8 ≤ 5 := by omega
            obtain ⟨n, c, z, lv, zs, d, ph, q, -⟩ := HPA.out
            have y0 : w8.cell? ⟨b, 0, none⟩ = some (.string n) := cellK q 0
            have yf0 : w8.frozen? ⟨b, 0, none⟩ = false := froK q 0
            have y1 : w8.cell? ⟨b, 1, none⟩ = some (.int .i64 c) := cellK q 1
            have yf1 : w8.frozen? ⟨b, 1, none⟩ = false := froK q 1
            have y2 : w8.cell? ⟨b, 2, none⟩ = some (.string z) := cellK q 2
            have yf2 : w8.frozen? ⟨b, 2, none⟩ = false := froK q 2
            have y3 : w8.cell? ⟨b, 3, none⟩ = some (lv) := cellK q 3
            have yf3 : w8.frozen? ⟨b, 3, none⟩ = false := froK q 3
            have y4 : w8.cell? ⟨b, 4, none⟩ = some (.string d) := cellK q 4
            have yf4 : w8.frozen? ⟨b, 4, none⟩ = false := froK q 4
            have y5 : w8.cell? ⟨b, 5, none⟩ = some (.int .i64 ph) := cellK q 5
            have yf5 : w8.frozen? ⟨b, 5, none⟩ = false := froK q 5
            clear q
            clear hs hg HP9 HPA rb8
            go_wp2_with fail
            go_meet
            exact ⟨rfl, HPB.out.up (by omega)⟩
          have q72 : (r7 == 2) = false := by simp [h2]
          clear h0 h1 h2
          have HPB := hidK (HP9.out.set.2.2.1 ⟨#[110, 49]⟩ (by decide))
          obtain ⟨n, c, z, lv, zs, d, ph, q, -⟩ := HP9.out
          have y0 : w7.cell? ⟨b, 0, none⟩ = some (.string n) := cellK q 0
          have yf0 : w7.frozen? ⟨b, 0, none⟩ = false := froK q 0
          have y1 : w7.cell? ⟨b, 1, none⟩ = some (.int .i64 c) := cellK q 1
          have yf1 : w7.frozen? ⟨b, 1, none⟩ = false := froK q 1
          have y2 : w7.cell? ⟨b, 2, none⟩ = some (.string z) := cellK q 2
          have yf2 : w7.frozen? ⟨b, 2, none⟩ = false := froK q 2
          have y3 : w7.cell? ⟨b, 3, none⟩ = some (lv) := cellK q 3
          have yf3 : w7.frozen? ⟨b, 3, none⟩ = false := froK q 3
          have y4 : w7.cell? ⟨b, 4, none⟩ = some (.string d) := cellK q 4
          have yf4 : w7.frozen? ⟨b, 4, none⟩ = false := froK q 4
          have y5 : w7.cell? ⟨b, 5, none⟩ = some (.int .i64 ph) := cellK q 5
          have yf5 : w7.frozen? ⟨b, 5, none⟩ = false := froK q 5
          clear q
          clear HP9
          go_wp2_with fail
          go_meet
          exact ⟨rfl, HPB.out.up (by omega)⟩
      case rest =>
        obtain ⟨rfl, hP⟩ := hcut
        clear HP8
        obtain ⟨n, c, z, lv, zs, d, ph, h1, h2, h3, h4, h5, h6, h7, h8⟩ := hP
        have hbn : ¬ b = w.heap.size := by omega
        have y0 : wc.cell? ⟨b, 0, none⟩ = some (.string n) := cellK h1 0
        have yf0 : wc.frozen? ⟨b, 0, none⟩ = false := froK h1 0
        have y1 : wc.cell? ⟨b, 1, none⟩ = some (.int .i64 c) := cellK h1 1
        have yf1 : wc.frozen? ⟨b, 1, none⟩ = false := froK h1 1
        have y2 : wc.cell? ⟨b, 2, none⟩ = some (.string z) := cellK h1 2
        have yf2 : wc.frozen? ⟨b, 2, none⟩ = false := froK h1 2
        have y3 : wc.cell? ⟨b, 3, none⟩ = some (lv) := cellK h1 3
        have yf3 : wc.frozen? ⟨b, 3, none⟩ = false := froK h1 3
        have y4 : wc.cell? ⟨b, 4, none⟩ = some (.string d) := cellK h1 4
        have yf4 : wc.frozen? ⟨b, 4, none⟩ = false := froK h1 4
        have y5 : wc.cell? ⟨b, 5, none⟩ = some (.int .i64 ph) := cellK h1 5
        have yf5 : wc.frozen? ⟨b, 5, none⟩ = false := froK h1 5
        have z0 : wc.cell? ⟨w.heap.size, 0, none⟩ = some (.string ⟨#[]⟩) := cellK h7 0
        have zf0 : wc.frozen? ⟨w.heap.size, 0, none⟩ = false := froK h7 0
        have z1 : wc.cell? ⟨w.heap.size, 1, none⟩ = some (.int .i64 0) := cellK h7 1
        have zf1 : wc.frozen? ⟨w.heap.size, 1, none⟩ = false := froK h7 1
        have z2 : wc.cell? ⟨w.heap.size, 2, none⟩ = some (.string ⟨#[]⟩) := cellK h7 2
        have zf2 : wc.frozen? ⟨w.heap.size, 2, none⟩ = false := froK h7 2
        have z3 : wc.cell? ⟨w.heap.size, 3, none⟩ = some (.slice none 0 0) := cellK h7 3
        have zf3 : wc.frozen? ⟨w.heap.size, 3, none⟩ = false := froK h7 3
        have z4 : wc.cell? ⟨w.heap.size, 4, none⟩ = some (.string ⟨#[]⟩) := cellK h7 4
        have zf4 : wc.frozen? ⟨w.heap.size, 4, none⟩ = false := froK h7 4
        have z5 : wc.cell? ⟨w.heap.size, 5, none⟩ = some (.int .i64 0) := cellK h7 5
        have zf5 : wc.frozen? ⟨w.heap.size, 5, none⟩ = false := froK h7 5
        have hne := own_ne h5 h7
        have k5 := ((((((h5.kept (grown_set _ w.heap.size 0 (.string n)) (.inr hne)).kept (grown_set _ w.heap.size 1 (.int .i64 c)) (.inr hne)).kept (grown_set _ w.heap.size 2 (.string z)) (.inr hne)).kept (grown_set _ w.heap.size 3 (lv)) (.inr hne)).kept (grown_set _ w.heap.size 4 (.string d)) (.inr hne)).kept (grown_set _ w.heap.size 5 (.int .i64 ph)) (.inr hne))
        have HD := hidK (((((((h6.set (b := w.heap.size) (i := 0) (.string n) (Nat.le_refl _)).set (b := w.heap.size) (i := 1) (.int .i64 c) (Nat.le_refl _)).set (b := w.heap.size) (i := 2) (.string z) (Nat.le_refl _)).set (b := w.heap.size) (i := 3) (lv) (Nat.le_refl _)).set (b := w.heap.size) (i := 4) (.string d) (Nat.le_refl _)).set (b := w.heap.size) (i := 5) (.int .i64 ph) (Nat.le_refl _)))
        obtain ⟨a, l, cp, rfl, hx, hx2, hx3⟩ := own_tx2 k5 h4
        have HX := hidK (And.intro hx (And.intro hx2 h2))
        have HX3 := hidK (And.intro hx3 (And.intro h3 h4))
        clear hx hx2 hx3 h2 h1 h7 h5 h6 k5 hne h3 h4
        go_wp2_with fail
        exact bodyPost_ret (v := .agg #[.string n, .int .i64 c, .string z, .slice a l cp, .string d, .int .i64 ph]) (by simp [results, Tryz.results32, go_sem, *]) rfl ⟨n, c, z, a, l, cp, zs, d, ph, rfl, HX.out.2.2.1, HX.out.2.2.2.1, HX.out.2.2.2.2, HX.out.1, HX.out.2.1, HX3.out.1, HX3.out.2.1, HX3.out.2.2, HD.out⟩

end Dk
namespace Dk

def DrewW (B : Nat) (w0 : World) (p : Nat) (v : Value) (len : Nat) (w : World) (e : Ending) (w' : World) : Prop :=
  ∃ n c z k x m y a l cp zs, e = .returned (.agg #[.string n, .int .i64 c, .string z, .string k, .bool x, .string m, .bool y, .slice a l cp]) ∧ n.size ≤ 100 ∧ z.size ≤ 100 ∧ k.size ≤ 100 ∧ m.size ≤ 100 ∧ TxRow w' a l cp zs ∧ (zs = [] ∨ ∃ g cur, a = some (⟨g, 0, none⟩ : Addr) ∧ w.heap.size ≤ g ∧ w'.heap[g]? = some (.cells cur 9 (0, 0))) ∧ Dr B w0 p v len w w'

set_option maxHeartbeats 3200000 in
theorem volW_any {B : Nat} {w0 : World} {p : Nat} {v : Value} {len : Nat} {w : World} (h : Src B w0 p v len w) :
    Calls Tryz.prog 52 #[.pointer (some ⟨p, 0, none⟩)] w (DrewW B w0 p v len w) := by
  have HD0 := hidK ((Dr.start h).alloc (.cells #[.string ⟨#[]⟩, .int .i64 0, .string ⟨#[]⟩, .string ⟨#[]⟩, .bool false, .string ⟨#[]⟩, .bool false, .slice none 0 0] 46))
  have HP := hidK h.plt
  have G0 : Hid ((w.alloc (.cells #[.string ⟨#[]⟩, .int .i64 0, .string ⟨#[]⟩, .string ⟨#[]⟩, .bool false, .string ⟨#[]⟩, .bool false, .slice none 0 0] 46)).heap[w.heap.size]? = some (.cells #[.string ⟨#[]⟩, .int .i64 0, .string ⟨#[]⟩, .string ⟨#[]⟩, .bool false, .string ⟨#[]⟩, .bool false, .slice none 0 0] 46 (0, 0))) := Array.getElem?_push_size
  clear h
  go_enter Tryz.func52, Tryz.ntmps52
  go_wp2_with fail
  refine (pick_new HD0.out.src [⟨#[100, 49]⟩, ⟨#[100, 50]⟩, ⟨#[100, 51]⟩] 3 _ _ (by simp) rfl (by decide) (by decide) (by decide)).mono ?_
  rintro e w1 ⟨t1, rfl, ht1, hs, hg⟩
  have HD1 := hidK (HD0.out.next hs hg)
  have G1 := hidK (gk hg (by have := HP.out; omega) G0.out)
  clear hs hg G0 HD0
  go_wp2_with fail
  refine (HD1.out.src.n 20 (by decide)).mono ?_
  rintro e w2 ⟨r2, rfl, ra2, rb2, hs, hg⟩
  have HD2 := hidK (HD1.out.next hs hg)
  have G2 := hidK (gk hg (by have := HP.out; omega) G1.out)
  clear hs hg G1 HD1
  have rc2 : r2 ≤ 20 := by omega
  clear rb2
  go_wp2_with fail
  refine (zone_any HD2.out.src).mono ?_
  rintro e w3 ⟨t3, rfl, ht3, hs, hg⟩
  have HD3 := hidK (HD2.out.next hs hg)
  have G3 := hidK (gk hg (by have := HP.out; omega) G2.out)
  clear hs hg G2 HD2
  go_wp2_with fail
  refine (pick_new HD3.out.src [⟨#[102, 97, 115, 116]⟩, ⟨#[115, 108, 111, 119]⟩] 2 _ _ (by simp) rfl (by decide) (by decide) (by decide)).mono ?_
  rintro e w4 ⟨t4, rfl, ht4, hs, hg⟩
  have HD4 := hidK (HD3.out.next hs hg)
  have G4 := hidK (gk hg (by have := HP.out; omega) G3.out)
  clear hs hg G3 HD3
  go_wp2_with fail
  refine (one_any HD4.out.src 4 (by decide)).mono ?_
  rintro e w5 ⟨he, hs, hg⟩
  obtain ⟨x5, rfl⟩ := bool_of he
  clear he
  have HD5 := hidK (HD4.out.next hs hg)
  have G5 := hidK (gk hg (by have := HP.out; omega) G4.out)
  clear hs hg G4 HD4
  have HDA := hidK (HD5.out.alloc (.cells #[.string t1, .int .i64 (1 + r2), .string t3, .string t4, .bool (!x5), .string ⟨#[]⟩, .bool false, .slice none 0 0] 46))
  have hA : w.heap.size < w5.heap.size := lt_of_some G5.out
  have GA : Hid ((w5.alloc (.cells #[.string t1, .int .i64 (1 + r2), .string t3, .string t4, .bool (!x5), .string ⟨#[]⟩, .bool false, .slice none 0 0] 46)).heap[w5.heap.size]? = some (.cells #[.string t1, .int .i64 (1 + r2), .string t3, .string t4, .bool (!x5), .string ⟨#[]⟩, .bool false, .slice none 0 0] 46 (0, 0))) := Array.getElem?_push_size
  have GB := hidK ((Below.heap_alloc w5 (.cells #[.string t1, .int .i64 (1 + r2), .string t3, .string t4, .bool (!x5), .string ⟨#[]⟩, .bool false, .slice none 0 0] 46) _ hA).trans G5.out)
  clear HD5 G5
  go_wp2_with fail
  refine (one_any HDA.out.src 12 (by decide)).mono ?_
  rintro e w6 ⟨he, hs, hg⟩
  have HDJ := hidK (HDA.out.next hs hg)
  have hpn := HP.out
  have GA' := hidK (gk hg (by omega) GA.out)
  have GB' := hidK (gk hg (by omega) GB.out)
  clear hs hg GA GB HDA
  rcases he with rfl | rfl
  · go_wp2_with fail
    refine (HDJ.out.src.n 4 (by decide)).mono ?_
    rintro e w7 ⟨r7, rfl, ra7, rb7, hs, hg⟩
    have HD7 := hidK (HDJ.out.next hs hg)
    have GA7 := hidK (gk hg (by omega) GA'.out)
    have GB7 := hidK (gk hg (by omega) GB'.out)
    clear hs hg GA' GB' HDJ rb7
    by_cases h0 : r7 = 0
    · subst h0
      go_wp2_with fail
      refine (l02Size_any HD7.out.src).mono ?_
      rintro e w8 ⟨r8, rfl, ra8, rb8, hs, hg⟩
      have HD8 := hidK (HD7.out.next hs hg)
      have GA8 := hidK (gk hg (by omega) GA7.out)
      have GB8 := hidK (gk hg (by omega) GB7.out)
      clear hs hg GA7 GB7 HD7
      have q3 := GA8.out
      have q2 := GB8.out
      have y0 : w8.cell? ⟨w5.heap.size, 0, none⟩ = some (.string t1) := cellK q3 0
      have yf0 : w8.frozen? ⟨w5.heap.size, 0, none⟩ = false := froK q3 0
      have y1 : w8.cell? ⟨w5.heap.size, 1, none⟩ = some (.int .i64 (1 + r2)) := cellK q3 1
      have yf1 : w8.frozen? ⟨w5.heap.size, 1, none⟩ = false := froK q3 1
      have y2 : w8.cell? ⟨w5.heap.size, 2, none⟩ = some (.string t3) := cellK q3 2
      have yf2 : w8.frozen? ⟨w5.heap.size, 2, none⟩ = false := froK q3 2
      have y3 : w8.cell? ⟨w5.heap.size, 3, none⟩ = some (.string t4) := cellK q3 3
      have yf3 : w8.frozen? ⟨w5.heap.size, 3, none⟩ = false := froK q3 3
      have y4 : w8.cell? ⟨w5.heap.size, 4, none⟩ = some (.bool (!x5)) := cellK q3 4
      have yf4 : w8.frozen? ⟨w5.heap.size, 4, none⟩ = false := froK q3 4
      have y5 : w8.cell? ⟨w5.heap.size, 5, none⟩ = some (.string ⟨#[]⟩) := cellK q3 5
      have yf5 : w8.frozen? ⟨w5.heap.size, 5, none⟩ = false := froK q3 5
      have y6 : w8.cell? ⟨w5.heap.size, 6, none⟩ = some (.bool false) := cellK q3 6
      have yf6 : w8.frozen? ⟨w5.heap.size, 6, none⟩ = false := froK q3 6
      have y7 : w8.cell? ⟨w5.heap.size, 7, none⟩ = some (.slice none 0 0) := cellK q3 7
      have yf7 : w8.frozen? ⟨w5.heap.size, 7, none⟩ = false := froK q3 7
      have z0 : w8.cell? ⟨w.heap.size, 0, none⟩ = some (.string ⟨#[]⟩) := cellK q2 0
      have zf0 : w8.frozen? ⟨w.heap.size, 0, none⟩ = false := froK q2 0
      have z1 : w8.cell? ⟨w.heap.size, 1, none⟩ = some (.int .i64 0) := cellK q2 1
      have zf1 : w8.frozen? ⟨w.heap.size, 1, none⟩ = false := froK q2 1
      have z2 : w8.cell? ⟨w.heap.size, 2, none⟩ = some (.string ⟨#[]⟩) := cellK q2 2
      have zf2 : w8.frozen? ⟨w.heap.size, 2, none⟩ = false := froK q2 2
      have z3 : w8.cell? ⟨w.heap.size, 3, none⟩ = some (.string ⟨#[]⟩) := cellK q2 3
      have zf3 : w8.frozen? ⟨w.heap.size, 3, none⟩ = false := froK q2 3
      have z4 : w8.cell? ⟨w.heap.size, 4, none⟩ = some (.bool false) := cellK q2 4
      have zf4 : w8.frozen? ⟨w.heap.size, 4, none⟩ = false := froK q2 4
      have z5 : w8.cell? ⟨w.heap.size, 5, none⟩ = some (.string ⟨#[]⟩) := cellK q2 5
      have zf5 : w8.frozen? ⟨w.heap.size, 5, none⟩ = false := froK q2 5
      have z6 : w8.cell? ⟨w.heap.size, 6, none⟩ = some (.bool false) := cellK q2 6
      have zf6 : w8.frozen? ⟨w.heap.size, 6, none⟩ = false := froK q2 6
      have z7 : w8.cell? ⟨w.heap.size, 7, none⟩ = some (.slice none 0 0) := cellK q2 7
      have zf7 : w8.frozen? ⟨w.heap.size, 7, none⟩ = false := froK q2 7
      clear q2 q3
      go_wp2_with fail
      exact bodyPost_ret (v := .agg #[.string t1, .int .i64 r8, .string t3, .string t4, .bool (!x5), .string ⟨#[]⟩, .bool false, .slice none 0 0]) (by simp [results, Tryz.results52, go_sem, *]) rfl ⟨_, _, _, _, _, _, _, none, 0, 0, [], rfl, ht1, ht3, ht4, (by decide), ⟨rfl, Nat.le_refl _, by omega, fun j x hx => by simp at hx, .inl rfl⟩, .inl rfl, (((((((((HD8.out.set (b := w5.heap.size) (i := 1) _ (Nat.le_of_lt hA)).set (b := w.heap.size) (i := 0) _ (Nat.le_refl _)).set (b := w.heap.size) (i := 1) _ (Nat.le_refl _)).set (b := w.heap.size) (i := 2) _ (Nat.le_refl _)).set (b := w.heap.size) (i := 3) _ (Nat.le_refl _)).set (b := w.heap.size) (i := 4) _ (Nat.le_refl _)).set (b := w.heap.size) (i := 5) _ (Nat.le_refl _)).set (b := w.heap.size) (i := 6) _ (Nat.le_refl _)).set (b := w.heap.size) (i := 7) _ (Nat.le_refl _))⟩
    have q70 : (r7 == 0) = false := by simp [h0]
    by_cases h1 : r7 = 1
    · subst h1
      go_wp2_with fail
      refine (pick_new HD7.out.src [⟨#[99, 49]⟩, ⟨#[65]⟩] 2 _ _ (by simp) rfl (by decide) (by decide) (by decide)).mono ?_
      rintro e w8 ⟨t8, rfl, ht8, hs, hg⟩
      have HD8 := hidK (HD7.out.next hs hg)
      have GA8 := hidK (gk hg (by omega) GA7.out)
      have GB8 := hidK (gk hg (by omega) GB7.out)
      clear hs hg GA7 GB7 HD7
      have q3 := GA8.out
      have q2 := GB8.out
      have y0 : w8.cell? ⟨w5.heap.size, 0, none⟩ = some (.string t1) := cellK q3 0
      have yf0 : w8.frozen? ⟨w5.heap.size, 0, none⟩ = false := froK q3 0
      have y1 : w8.cell? ⟨w5.heap.size, 1, none⟩ = some (.int .i64 (1 + r2)) := cellK q3 1
      have yf1 : w8.frozen? ⟨w5.heap.size, 1, none⟩ = false := froK q3 1
      have y2 : w8.cell? ⟨w5.heap.size, 2, none⟩ = some (.string t3) := cellK q3 2
      have yf2 : w8.frozen? ⟨w5.heap.size, 2, none⟩ = false := froK q3 2
      have y3 : w8.cell? ⟨w5.heap.size, 3, none⟩ = some (.string t4) := cellK q3 3
      have yf3 : w8.frozen? ⟨w5.heap.size, 3, none⟩ = false := froK q3 3
      have y4 : w8.cell? ⟨w5.heap.size, 4, none⟩ = some (.bool (!x5)) := cellK q3 4
      have yf4 : w8.frozen? ⟨w5.heap.size, 4, none⟩ = false := froK q3 4
      have y5 : w8.cell? ⟨w5.heap.size, 5, none⟩ = some (.string ⟨#[]⟩) := cellK q3 5
      have yf5 : w8.frozen? ⟨w5.heap.size, 5, none⟩ = false := froK q3 5
      have y6 : w8.cell? ⟨w5.heap.size, 6, none⟩ = some (.bool false) := cellK q3 6
      have yf6 : w8.frozen? ⟨w5.heap.size, 6, none⟩ = false := froK q3 6
      have y7 : w8.cell? ⟨w5.heap.size, 7, none⟩ = some (.slice none 0 0) := cellK q3 7
      have yf7 : w8.frozen? ⟨w5.heap.size, 7, none⟩ = false := froK q3 7
      have z0 : w8.cell? ⟨w.heap.size, 0, none⟩ = some (.string ⟨#[]⟩) := cellK q2 0
      have zf0 : w8.frozen? ⟨w.heap.size, 0, none⟩ = false := froK q2 0
      have z1 : w8.cell? ⟨w.heap.size, 1, none⟩ = some (.int .i64 0) := cellK q2 1
      have zf1 : w8.frozen? ⟨w.heap.size, 1, none⟩ = false := froK q2 1
      have z2 : w8.cell? ⟨w.heap.size, 2, none⟩ = some (.string ⟨#[]⟩) := cellK q2 2
      have zf2 : w8.frozen? ⟨w.heap.size, 2, none⟩ = false := froK q2 2
      have z3 : w8.cell? ⟨w.heap.size, 3, none⟩ = some (.string ⟨#[]⟩) := cellK q2 3
      have zf3 : w8.frozen? ⟨w.heap.size, 3, none⟩ = false := froK q2 3
      have z4 : w8.cell? ⟨w.heap.size, 4, none⟩ = some (.bool false) := cellK q2 4
      have zf4 : w8.frozen? ⟨w.heap.size, 4, none⟩ = false := froK q2 4
      have z5 : w8.cell? ⟨w.heap.size, 5, none⟩ = some (.string ⟨#[]⟩) := cellK q2 5
      have zf5 : w8.frozen? ⟨w.heap.size, 5, none⟩ = false := froK q2 5
      have z6 : w8.cell? ⟨w.heap.size, 6, none⟩ = some (.bool false) := cellK q2 6
      have zf6 : w8.frozen? ⟨w.heap.size, 6, none⟩ = false := froK q2 6
      have z7 : w8.cell? ⟨w.heap.size, 7, none⟩ = some (.slice none 0 0) := cellK q2 7
      have zf7 : w8.frozen? ⟨w.heap.size, 7, none⟩ = false := froK q2 7
      clear q2 q3
      go_wp2_with fail
      exact bodyPost_ret (v := .agg #[.string t1, .int .i64 (1 + r2), .string t3, .string t4, .bool (!x5), .string t8, .bool false, .slice none 0 0]) (by simp [results, Tryz.results52, go_sem, *]) rfl ⟨_, _, _, _, _, _, _, none, 0, 0, [], rfl, ht1, ht3, ht4, ht8, ⟨rfl, Nat.le_refl _, by omega, fun j x hx => by simp at hx, .inl rfl⟩, .inl rfl, (((((((((HD8.out.set (b := w5.heap.size) (i := 5) _ (Nat.le_of_lt hA)).set (b := w.heap.size) (i := 0) _ (Nat.le_refl _)).set (b := w.heap.size) (i := 1) _ (Nat.le_refl _)).set (b := w.heap.size) (i := 2) _ (Nat.le_refl _)).set (b := w.heap.size) (i := 3) _ (Nat.le_refl _)).set (b := w.heap.size) (i := 4) _ (Nat.le_refl _)).set (b := w.heap.size) (i := 5) _ (Nat.le_refl _)).set (b := w.heap.size) (i := 6) _ (Nat.le_refl _)).set (b := w.heap.size) (i := 7) _ (Nat.le_refl _))⟩
    have q71 : (r7 == 1) = false := by simp [h1]
    by_cases h2 : r7 = 2
    · subst h2
      clear h0 h1
      have q3 := GA7.out
      have q2 := GB7.out
      have y0 : w7.cell? ⟨w5.heap.size, 0, none⟩ = some (.string t1) := cellK q3 0
      have yf0 : w7.frozen? ⟨w5.heap.size, 0, none⟩ = false := froK q3 0
      have y1 : w7.cell? ⟨w5.heap.size, 1, none⟩ = some (.int .i64 (1 + r2)) := cellK q3 1
      have yf1 : w7.frozen? ⟨w5.heap.size, 1, none⟩ = false := froK q3 1
      have y2 : w7.cell? ⟨w5.heap.size, 2, none⟩ = some (.string t3) := cellK q3 2
      have yf2 : w7.frozen? ⟨w5.heap.size, 2, none⟩ = false := froK q3 2
      have y3 : w7.cell? ⟨w5.heap.size, 3, none⟩ = some (.string t4) := cellK q3 3
      have yf3 : w7.frozen? ⟨w5.heap.size, 3, none⟩ = false := froK q3 3
      have y4 : w7.cell? ⟨w5.heap.size, 4, none⟩ = some (.bool (!x5)) := cellK q3 4
      have yf4 : w7.frozen? ⟨w5.heap.size, 4, none⟩ = false := froK q3 4
      have y5 : w7.cell? ⟨w5.heap.size, 5, none⟩ = some (.string ⟨#[]⟩) := cellK q3 5
      have yf5 : w7.frozen? ⟨w5.heap.size, 5, none⟩ = false := froK q3 5
      have y6 : w7.cell? ⟨w5.heap.size, 6, none⟩ = some (.bool false) := cellK q3 6
      have yf6 : w7.frozen? ⟨w5.heap.size, 6, none⟩ = false := froK q3 6
      have y7 : w7.cell? ⟨w5.heap.size, 7, none⟩ = some (.slice none 0 0) := cellK q3 7
      have yf7 : w7.frozen? ⟨w5.heap.size, 7, none⟩ = false := froK q3 7
      have z0 : w7.cell? ⟨w.heap.size, 0, none⟩ = some (.string ⟨#[]⟩) := cellK q2 0
      have zf0 : w7.frozen? ⟨w.heap.size, 0, none⟩ = false := froK q2 0
      have z1 : w7.cell? ⟨w.heap.size, 1, none⟩ = some (.int .i64 0) := cellK q2 1
      have zf1 : w7.frozen? ⟨w.heap.size, 1, none⟩ = false := froK q2 1
      have z2 : w7.cell? ⟨w.heap.size, 2, none⟩ = some (.string ⟨#[]⟩) := cellK q2 2
      have zf2 : w7.frozen? ⟨w.heap.size, 2, none⟩ = false := froK q2 2
      have z3 : w7.cell? ⟨w.heap.size, 3, none⟩ = some (.string ⟨#[]⟩) := cellK q2 3
      have zf3 : w7.frozen? ⟨w.heap.size, 3, none⟩ = false := froK q2 3
      have z4 : w7.cell? ⟨w.heap.size, 4, none⟩ = some (.bool false) := cellK q2 4
      have zf4 : w7.frozen? ⟨w.heap.size, 4, none⟩ = false := froK q2 4
      have z5 : w7.cell? ⟨w.heap.size, 5, none⟩ = some (.string ⟨#[]⟩) := cellK q2 5
      have zf5 : w7.frozen? ⟨w.heap.size, 5, none⟩ = false := froK q2 5
      have z6 : w7.cell? ⟨w.heap.size, 6, none⟩ = some (.bool false) := cellK q2 6
      have zf6 : w7.frozen? ⟨w.heap.size, 6, none⟩ = false := froK q2 6
      have z7 : w7.cell? ⟨w.heap.size, 7, none⟩ = some (.slice none 0 0) := cellK q2 7
      have zf7 : w7.frozen? ⟨w.heap.size, 7, none⟩ = false := froK q2 7
      clear q2 q3
      go_wp2_with fail
      exact bodyPost_ret (v := .agg #[.string t1, .int .i64 (1 + r2), .string t3, .string t4, .bool (!x5), .string ⟨#[]⟩, .bool true, .slice none 0 0]) (by simp [results, Tryz.results52, go_sem, *]) rfl ⟨_, _, _, _, _, _, _, none, 0, 0, [], rfl, ht1, ht3, ht4, (by decide), ⟨rfl, Nat.le_refl _, by omega, fun j x hx => by simp at hx, .inl rfl⟩, .inl rfl, (((((((((HD7.out.set (b := w5.heap.size) (i := 6) _ (Nat.le_of_lt hA)).set (b := w.heap.size) (i := 0) _ (Nat.le_refl _)).set (b := w.heap.size) (i := 1) _ (Nat.le_refl _)).set (b := w.heap.size) (i := 2) _ (Nat.le_refl _)).set (b := w.heap.size) (i := 3) _ (Nat.le_refl _)).set (b := w.heap.size) (i := 4) _ (Nat.le_refl _)).set (b := w.heap.size) (i := 5) _ (Nat.le_refl _)).set (b := w.heap.size) (i := 6) _ (Nat.le_refl _)).set (b := w.heap.size) (i := 7) _ (Nat.le_refl _))⟩
    have q72 : (r7 == 2) = false := by simp [h2]
    clear h0 h1 h2
    go_wp2_with fail
    refine (pick_new HD7.out.src [⟨#[110, 50]⟩, ⟨#[110, 49]⟩] 2 _ _ (by simp) rfl (by decide) (by decide) (by decide)).mono ?_
    rintro e w8 ⟨t8, rfl, ht8, hs, hg⟩
    have HD8 := hidK (HD7.out.next hs hg)
    have GA8 := hidK (gk hg (by omega) GA7.out)
    have GB8 := hidK (gk hg (by omega) GB7.out)
    clear hs hg GA7 GB7 HD7
    have h8A := lt_of_some GA8.out
    have h8B := lt_of_some GB8.out
    have q3 := GA8.out
    have q2 := GB8.out
    have HDZ := hidK ((((((((((HD8.out.set (b := w5.heap.size) (i := 7) (.slice (some ⟨w8.heap.size, 0, none⟩) 2 2) (Nat.le_of_lt hA)).set (b := w.heap.size) (i := 0) (.string t1) (Nat.le_refl _)).set (b := w.heap.size) (i := 1) (.int .i64 (1 + r2)) (Nat.le_refl _)).set (b := w.heap.size) (i := 2) (.string t3) (Nat.le_refl _)).set (b := w.heap.size) (i := 3) (.string t4) (Nat.le_refl _)).set (b := w.heap.size) (i := 4) (.bool (!x5)) (Nat.le_refl _)).set (b := w.heap.size) (i := 5) (.string ⟨#[]⟩) (Nat.le_refl _)).set (b := w.heap.size) (i := 6) (.bool false) (Nat.le_refl _)).set (b := w.heap.size) (i := 7) (.slice (some ⟨w8.heap.size, 0, none⟩) 2 2) (Nat.le_refl _)).alloc (.cells #[.string ⟨#[110, 49]⟩, .string t8] 9))
    have HLB : Hid (((((((((((w8.setCell ⟨w5.heap.size, 7, none⟩ (.slice (some ⟨w8.heap.size, 0, none⟩) 2 2)).setCell ⟨w.heap.size, 0, none⟩ (.string t1)).setCell ⟨w.heap.size, 1, none⟩ (.int .i64 (1 + r2))).setCell ⟨w.heap.size, 2, none⟩ (.string t3)).setCell ⟨w.heap.size, 3, none⟩ (.string t4)).setCell ⟨w.heap.size, 4, none⟩ (.bool (!x5))).setCell ⟨w.heap.size, 5, none⟩ (.string ⟨#[]⟩)).setCell ⟨w.heap.size, 6, none⟩ (.bool false)).setCell ⟨w.heap.size, 7, none⟩ (.slice (some ⟨w8.heap.size, 0, none⟩) 2 2)).alloc (.cells #[.string ⟨#[110, 49]⟩, .string t8] 9)).heap[w8.heap.size]? = some (.cells #[.string ⟨#[110, 49]⟩, .string t8] 9 (0, 0))) := push_at _ _ _ (by simp [World.setCell])
    have y0 : w8.cell? ⟨w5.heap.size, 0, none⟩ = some (.string t1) := cellK q3 0
    have yf0 : w8.frozen? ⟨w5.heap.size, 0, none⟩ = false := froK q3 0
    have y1 : w8.cell? ⟨w5.heap.size, 1, none⟩ = some (.int .i64 (1 + r2)) := cellK q3 1
    have yf1 : w8.frozen? ⟨w5.heap.size, 1, none⟩ = false := froK q3 1
    have y2 : w8.cell? ⟨w5.heap.size, 2, none⟩ = some (.string t3) := cellK q3 2
    have yf2 : w8.frozen? ⟨w5.heap.size, 2, none⟩ = false := froK q3 2
    have y3 : w8.cell? ⟨w5.heap.size, 3, none⟩ = some (.string t4) := cellK q3 3
    have yf3 : w8.frozen? ⟨w5.heap.size, 3, none⟩ = false := froK q3 3
    have y4 : w8.cell? ⟨w5.heap.size, 4, none⟩ = some (.bool (!x5)) := cellK q3 4
    have yf4 : w8.frozen? ⟨w5.heap.size, 4, none⟩ = false := froK q3 4
    have y5 : w8.cell? ⟨w5.heap.size, 5, none⟩ = some (.string ⟨#[]⟩) := cellK q3 5
    have yf5 : w8.frozen? ⟨w5.heap.size, 5, none⟩ = false := froK q3 5
    have y6 : w8.cell? ⟨w5.heap.size, 6, none⟩ = some (.bool false) := cellK q3 6
    have yf6 : w8.frozen? ⟨w5.heap.size, 6, none⟩ = false := froK q3 6
    have y7 : w8.cell? ⟨w5.heap.size, 7, none⟩ = some (.slice none 0 0) := cellK q3 7
    have yf7 : w8.frozen? ⟨w5.heap.size, 7, none⟩ = false := froK q3 7
    have z0 : w8.cell? ⟨w.heap.size, 0, none⟩ = some (.string ⟨#[]⟩) := cellK q2 0
    have zf0 : w8.frozen? ⟨w.heap.size, 0, none⟩ = false := froK q2 0
    have z1 : w8.cell? ⟨w.heap.size, 1, none⟩ = some (.int .i64 0) := cellK q2 1
    have zf1 : w8.frozen? ⟨w.heap.size, 1, none⟩ = false := froK q2 1
    have z2 : w8.cell? ⟨w.heap.size, 2, none⟩ = some (.string ⟨#[]⟩) := cellK q2 2
    have zf2 : w8.frozen? ⟨w.heap.size, 2, none⟩ = false := froK q2 2
    have z3 : w8.cell? ⟨w.heap.size, 3, none⟩ = some (.string ⟨#[]⟩) := cellK q2 3
    have zf3 : w8.frozen? ⟨w.heap.size, 3, none⟩ = false := froK q2 3
    have z4 : w8.cell? ⟨w.heap.size, 4, none⟩ = some (.bool false) := cellK q2 4
    have zf4 : w8.frozen? ⟨w.heap.size, 4, none⟩ = false := froK q2 4
    have z5 : w8.cell? ⟨w.heap.size, 5, none⟩ = some (.string ⟨#[]⟩) := cellK q2 5
    have zf5 : w8.frozen? ⟨w.heap.size, 5, none⟩ = false := froK q2 5
    have z6 : w8.cell? ⟨w.heap.size, 6, none⟩ = some (.bool false) := cellK q2 6
    have zf6 : w8.frozen? ⟨w.heap.size, 6, none⟩ = false := froK q2 6
    have z7 : w8.cell? ⟨w.heap.size, 7, none⟩ = some (.slice none 0 0) := cellK q2 7
    have zf7 : w8.frozen? ⟨w.heap.size, 7, none⟩ = false := froK q2 7
    clear q2 q3 GA8 GB8
    go_wp2_with fail
    refine bodyPost_ret (v := .agg #[.string t1, .int .i64 (1 + r2), .string t3, .string t4, .bool (!x5), .string ⟨#[]⟩, .bool false, .slice (some ⟨w8.heap.size, 0, none⟩) 2 2]) (by simp [results, Tryz.results52, go_sem, *]) rfl ⟨_, _, _, _, _, _, _, some ⟨w8.heap.size, 0, none⟩, 2, 2, [⟨#[110, 49]⟩, t8], rfl, ht1, ht3, ht4, (by decide), ?_, .inr ⟨_, _, rfl, by omega, HLB.out⟩, HDZ.out⟩
    refine TxRow.copy (T := 9) HLB.out rfl (by decide) ?_
    intro j x hx
    match j, hx with
    | 0, hx => cases hx; decide
    | 1, hx => cases hx; omega
    | j + 2, hx => simp at hx
  · skip
    have q3 := GA'.out
    have q2 := GB'.out
    have y0 : w6.cell? ⟨w5.heap.size, 0, none⟩ = some (.string t1) := cellK q3 0
    have yf0 : w6.frozen? ⟨w5.heap.size, 0, none⟩ = false := froK q3 0
    have y1 : w6.cell? ⟨w5.heap.size, 1, none⟩ = some (.int .i64 (1 + r2)) := cellK q3 1
    have yf1 : w6.frozen? ⟨w5.heap.size, 1, none⟩ = false := froK q3 1
    have y2 : w6.cell? ⟨w5.heap.size, 2, none⟩ = some (.string t3) := cellK q3 2
    have yf2 : w6.frozen? ⟨w5.heap.size, 2, none⟩ = false := froK q3 2
    have y3 : w6.cell? ⟨w5.heap.size, 3, none⟩ = some (.string t4) := cellK q3 3
    have yf3 : w6.frozen? ⟨w5.heap.size, 3, none⟩ = false := froK q3 3
    have y4 : w6.cell? ⟨w5.heap.size, 4, none⟩ = some (.bool (!x5)) := cellK q3 4
    have yf4 : w6.frozen? ⟨w5.heap.size, 4, none⟩ = false := froK q3 4
    have y5 : w6.cell? ⟨w5.heap.size, 5, none⟩ = some (.string ⟨#[]⟩) := cellK q3 5
    have yf5 : w6.frozen? ⟨w5.heap.size, 5, none⟩ = false := froK q3 5
    have y6 : w6.cell? ⟨w5.heap.size, 6, none⟩ = some (.bool false) := cellK q3 6
    have yf6 : w6.frozen? ⟨w5.heap.size, 6, none⟩ = false := froK q3 6
    have y7 : w6.cell? ⟨w5.heap.size, 7, none⟩ = some (.slice none 0 0) := cellK q3 7
    have yf7 : w6.frozen? ⟨w5.heap.size, 7, none⟩ = false := froK q3 7
    have z0 : w6.cell? ⟨w.heap.size, 0, none⟩ = some (.string ⟨#[]⟩) := cellK q2 0
    have zf0 : w6.frozen? ⟨w.heap.size, 0, none⟩ = false := froK q2 0
    have z1 : w6.cell? ⟨w.heap.size, 1, none⟩ = some (.int .i64 0) := cellK q2 1
    have zf1 : w6.frozen? ⟨w.heap.size, 1, none⟩ = false := froK q2 1
    have z2 : w6.cell? ⟨w.heap.size, 2, none⟩ = some (.string ⟨#[]⟩) := cellK q2 2
    have zf2 : w6.frozen? ⟨w.heap.size, 2, none⟩ = false := froK q2 2
    have z3 : w6.cell? ⟨w.heap.size, 3, none⟩ = some (.string ⟨#[]⟩) := cellK q2 3
    have zf3 : w6.frozen? ⟨w.heap.size, 3, none⟩ = false := froK q2 3
    have z4 : w6.cell? ⟨w.heap.size, 4, none⟩ = some (.bool false) := cellK q2 4
    have zf4 : w6.frozen? ⟨w.heap.size, 4, none⟩ = false := froK q2 4
    have z5 : w6.cell? ⟨w.heap.size, 5, none⟩ = some (.string ⟨#[]⟩) := cellK q2 5
    have zf5 : w6.frozen? ⟨w.heap.size, 5, none⟩ = false := froK q2 5
    have z6 : w6.cell? ⟨w.heap.size, 6, none⟩ = some (.bool false) := cellK q2 6
    have zf6 : w6.frozen? ⟨w.heap.size, 6, none⟩ = false := froK q2 6
    have z7 : w6.cell? ⟨w.heap.size, 7, none⟩ = some (.slice none 0 0) := cellK q2 7
    have zf7 : w6.frozen? ⟨w.heap.size, 7, none⟩ = false := froK q2 7
    clear q2 q3
    go_wp2_with fail
    exact bodyPost_ret (v := .agg #[.string t1, .int .i64 (1 + r2), .string t3, .string t4, .bool (!x5), .string ⟨#[]⟩, .bool false, .slice none 0 0]) (by simp [results, Tryz.results52, go_sem, *]) rfl ⟨_, _, _, _, _, _, _, none, 0, 0, [], rfl, ht1, ht3, ht4, (by decide), ⟨rfl, Nat.le_refl _, by omega, fun j x hx => by simp at hx, .inl rfl⟩, .inl rfl, ((((((((HDJ.out.set (b := w.heap.size) (i := 0) _ (Nat.le_refl _)).set (b := w.heap.size) (i := 1) _ (Nat.le_refl _)).set (b := w.heap.size) (i := 2) _ (Nat.le_refl _)).set (b := w.heap.size) (i := 3) _ (Nat.le_refl _)).set (b := w.heap.size) (i := 4) _ (Nat.le_refl _)).set (b := w.heap.size) (i := 5) _ (Nat.le_refl _)).set (b := w.heap.size) (i := 6) _ (Nat.le_refl _)).set (b := w.heap.size) (i := 7) _ (Nat.le_refl _))⟩

end Dk

def glue (p : List UInt8) : List (List UInt8) → List (List UInt8)
  | [] => [p]
  | h :: t => (p ++ h) :: t
def wsplit : List UInt8 → List (List UInt8)
  | [] => [[]]
  | c :: l => if c = 32 then [] :: wsplit l else glue [c] (wsplit l)
theorem wsplit_ne (l : List UInt8) : wsplit l ≠ [] := by
  cases l with
  | nil => simp [wsplit]
  | cons c l =>
    unfold wsplit
    split
    · simp
    · cases wsplit l <;> simp [glue]
theorem glue_nil {x : List (List UInt8)} (h : x ≠ []) : glue [] x = x := by cases x with | nil => exact absurd rfl h | cons a t => rfl
theorem glue_glue (p q : List UInt8) (x : List (List UInt8)) : glue p (glue q x) = glue (p ++ q) x := by cases x <;> simp [glue]
theorem wsplit_blank (l : List UInt8) : wsplit (32 :: l) = [] :: wsplit l := by simp [wsplit]
theorem wsplit_other {c : UInt8} (h : ¬ c = 32) (l : List UInt8) : wsplit (c :: l) = glue [c] (wsplit l) := by simp [wsplit, h]
theorem index_cons (c : UInt8) (l : List UInt8) : Lib.index (c :: l) [32] = if c = 32 then 0 else if Lib.index l [32] = -1 then -1 else Lib.index l [32] + 1 := by
  rw [Lib.index]
  by_cases h : c = 32
  · subst h; simp
  · have h' : ¬ (32 : UInt8) = c := fun e => h e.symm
    simp [h, h']
theorem wsplit_miss : ∀ {l : List UInt8}, Lib.index l [32] = -1 → wsplit l = [l]
  | [], _ => rfl
  | c :: l, h => by
    rw [index_cons] at h
    by_cases hc : c = 32
    · rw [if_pos hc] at h; cases h
    · rw [if_neg hc] at h
      by_cases hl : Lib.index l [32] = -1
      · rw [wsplit_other hc, wsplit_miss hl]; rfl
      · rw [if_neg hl] at h
        have := Lib.index_ge l [32]
        omega
theorem wsplit_hit : ∀ {l : List UInt8} {i : Nat}, Lib.index l [32] = i → wsplit l = l.take i :: wsplit (l.drop (i + 1))
  | [], i, h => by
    have : Lib.index [] [32] = -1 := rfl
    omega
  | c :: l, i, h => by
    rw [index_cons] at h
    by_cases hc : c = 32
    · rw [if_pos hc] at h
      obtain rfl : i = 0 := by omega
      subst hc
      rw [wsplit_blank]; rfl
    · rw [if_neg hc] at h
      by_cases hl : Lib.index l [32] = -1
      · rw [if_pos hl] at h; omega
      · rw [if_neg hl] at h
        have := Lib.index_ge l [32]
        obtain ⟨j, hj⟩ : ∃ j : Nat, Lib.index l [32] = j := ⟨(Lib.index l [32]).toNat, by omega⟩
        obtain rfl : i = j + 1 := by omega
        rw [wsplit_other hc, wsplit_hit hj]; rfl
def blank : ByteArray := ⟨#[32]⟩
theorem splitB_w : ∀ (k : Nat) (s : ByteArray), Lib.countB s blank = k → (Lib.splitB blank 0 k s).map (·.data.toList) = wsplit s.data.toList := by
  intro k
  induction k with
  | zero =>
    intro s h
    rcases Lib.indexB_cases s blank with hm | ⟨i, hi, hle⟩
    · rw [Lib.splitB_miss _ _ _ _ hm]
      exact (wsplit_miss (l := s.data.toList) hm).symm
    · rw [Lib.countB_hit s blank i (by decide) hi] at h
      omega
  | succ k ih =>
    intro s h
    rcases Lib.indexB_cases s blank with hm | ⟨i, hi, hle⟩
    · rw [Lib.countB_miss s blank hm] at h
      omega
    · rw [Lib.countB_hit s blank i (by decide) hi] at h
      rw [Lib.splitB_hit _ _ _ _ i hi, List.map_cons, ih _ (by omega)]
      rw [wsplit_hit (l := s.data.toList) (i := i) hi]
      congr 1
      · rw [Lib.extract_data]; simp
      · rw [Lib.extract_to_end]; rfl

def lays146_ren : Go.Shelf.Ren := ⟨fun | 146 => 78 | 221 => 90 | 268 => 97 | 138 => 98 | 143 => 99 | 195 => 107 | 197 => 108 | 218 => 109 | 219 => 110 | 260 => 117 | 217 => 118 | 225 => 119 | 224 => 120 | 267 => 121 | 266 => 124 | 314 => 125 | n => n, fun | 9 => 9 | 31 => 26 | 3 => 3 | 4 => 4 | 0 => 0 | 105 => 124 | 21 => 21 | 5 => 5 | 46 => 91 | 119 => 136 | 139 => 139 | 138 => 138 | 146 => 140 | 51 => 131 | n => n, fun | 1 => 0 | 3 => 2 | 4 => 3 | n => n⟩

theorem lays146 : Go.Proofs.LaysM.n146 Tryz.prog lays146_ren := {
  mixed := by kernel_rfl
  f138 := Tryz.func98.trans (congrArg some (by kernel_rfl))
  f143 := Tryz.func99.trans (congrArg some (by kernel_rfl))
  f146 := Tryz.func78.trans (congrArg some (by kernel_rfl))
  f195 := Tryz.func107.trans (congrArg some (by kernel_rfl))
  f197 := Tryz.func108.trans (congrArg some (by kernel_rfl))
  f217 := Tryz.func118.trans (congrArg some (by kernel_rfl))
  f218 := Tryz.func109.trans (congrArg some (by kernel_rfl))
  f219 := Tryz.func110.trans (congrArg some (by kernel_rfl))
  f221 := Tryz.func90.trans (congrArg some (by kernel_rfl))
  f224 := Tryz.func120.trans (congrArg some (by kernel_rfl))
  f225 := Tryz.func119.trans (congrArg some (by kernel_rfl))
  f260 := Tryz.func117.trans (congrArg some (by kernel_rfl))
  f266 := Tryz.func124.trans (congrArg some (by kernel_rfl))
  f267 := Tryz.func121.trans (congrArg some (by kernel_rfl))
  f268 := Tryz.func97.trans (congrArg some (by kernel_rfl))
  f314 := Tryz.func125.trans (congrArg some (by kernel_rfl))
  t0 := Tryz.underlying0
  a0 := Tryz.isAgg0
  z0 := Tryz.sizeOf0
  v0 := Tryz.zeroValue0
  t3 := Tryz.underlying3
  a3 := Tryz.isAgg3
  z3 := Tryz.sizeOf3
  v3 := Tryz.zeroValue3
  t4 := Tryz.underlying4
  a4 := Tryz.isAgg4
  z4 := Tryz.sizeOf4
  v4 := Tryz.zeroValue4
  t5 := Tryz.underlying5
  a5 := Tryz.isAgg5
  z5 := Tryz.sizeOf5
  v5 := Tryz.zeroValue5
  t9 := Tryz.underlying9
  a9 := Tryz.isAgg9
  z9 := Tryz.sizeOf9
  v9 := Tryz.zeroValue9
  t21 := Tryz.underlying21
  a21 := Tryz.isAgg21
  z21 := Tryz.sizeOf21
  v21 := Tryz.zeroValue21
  t31 := Tryz.underlying26
  a31 := Tryz.isAgg26
  z31 := Tryz.sizeOf26
  v31 := Tryz.zeroValue26
  t46 := Tryz.underlying91
  a46 := Tryz.isAgg91
  z46 := Tryz.sizeOf91
  v46 := Tryz.zeroValue91
  t51 := Tryz.underlying131
  a51 := Tryz.isAgg131
  z51 := Tryz.sizeOf131
  v51 := Tryz.zeroValue131
  t105 := Tryz.underlying124
  a105 := Tryz.isAgg124
  z105 := Tryz.sizeOf124
  v105 := Tryz.zeroValue124
  t119 := Tryz.underlying136
  a119 := Tryz.isAgg136
  z119 := Tryz.sizeOf136
  t138 := Tryz.underlying138
  a138 := Tryz.isAgg138
  z138 := Tryz.sizeOf138
  v138 := Tryz.zeroValue138
  t139 := Tryz.underlying139
  a139 := Tryz.isAgg139
  z139 := Tryz.sizeOf139
  v139 := Tryz.zeroValue139
  t146 := Tryz.underlying140
  a146 := Tryz.isAgg140
  z146 := Tryz.sizeOf140
  v146 := Tryz.zeroValue140
  g1 := by kernel_rfl
  g3 := by kernel_rfl
  g4 := by kernel_rfl
  i0 := by kernel_rfl
  i3 := by kernel_rfl
  i4 := by kernel_rfl
  i5 := by kernel_rfl
  i9 := by kernel_rfl
  i21 := by kernel_rfl
  i31 := by kernel_rfl
  i46 := by kernel_rfl
  i51 := by kernel_rfl
  i105 := by kernel_rfl
  i138 := by kernel_rfl
  i139 := by kernel_rfl
  i146 := by kernel_rfl
  m1 := by kernel_rfl
  s1_3 := fun w h => Go.Proofs.cell_of_shapedOpen_int (zero := #[.int .i64 0]) (t := 3) h (of_decide_eq_true (by kernel_rfl)) (by kernel_rfl) rfl (by kernel_rfl) (by kernel_rfl) Tryz.underlying3
  m3 := by kernel_rfl
  m4 := by kernel_rfl }

def lays316_ren : Go.Shelf.Ren := ⟨fun | 316 => 91 | n => n, fun | 9 => 9 | 3 => 3 | 4 => 4 | 37 => 22 | 0 => 0 | 127 => 111 | 5 => 5 | n => n, fun | n => n⟩

theorem lays316 : Go.Proofs.LaysM.n316 Tryz.prog lays316_ren := {
  mixed := by kernel_rfl
  f316 := Tryz.func91.trans (congrArg some (by kernel_rfl))
  t0 := Tryz.underlying0
  a0 := Tryz.isAgg0
  z0 := Tryz.sizeOf0
  v0 := Tryz.zeroValue0
  t3 := Tryz.underlying3
  a3 := Tryz.isAgg3
  z3 := Tryz.sizeOf3
  v3 := Tryz.zeroValue3
  t4 := Tryz.underlying4
  a4 := Tryz.isAgg4
  z4 := Tryz.sizeOf4
  v4 := Tryz.zeroValue4
  t9 := Tryz.underlying9
  a9 := Tryz.isAgg9
  z9 := Tryz.sizeOf9
  v9 := Tryz.zeroValue9
  t37 := Tryz.underlying22
  a37 := Tryz.isAgg22
  z37 := Tryz.sizeOf22
  v37 := Tryz.zeroValue22
  t127 := Tryz.underlying111
  a127 := Tryz.isAgg111
  z127 := Tryz.sizeOf111
  v127 := Tryz.zeroValue111
  t5 := Tryz.underlying5
  a5 := Tryz.isAgg5
  z5 := Tryz.sizeOf5
  v5 := Tryz.zeroValue5
  i0 := by kernel_rfl
  i3 := by kernel_rfl
  i4 := by kernel_rfl
  i5 := by kernel_rfl
  i9 := by kernel_rfl
  i37 := by kernel_rfl
  i127 := by kernel_rfl }

def mxl (w : World) : Prop := 0 < w.heap.size ∧ ∃ m, w.cell? ⟨0, 0, none⟩ = some (.int .i64 m)
theorem mxl.below {w w' : World} (h : mxl w) (hb : Below w.heap.size w w') : mxl w' := by
  obtain ⟨hl, m, hm⟩ := h
  exact ⟨Nat.lt_of_lt_of_le hl hb.size, m, (cell_below hb hl).trans hm⟩
theorem mxl.of_shaped {w : World} (h : w.ShapedOpen Tryz.prog) : mxl w := by
  obtain ⟨m, hm⟩ := lays146.s1_3 w h
  refine ⟨?_, m, hm⟩
  rcases Nat.lt_or_ge 0 w.heap.size with h1 | h1
  · exact h1
  · have e : w.cell? ⟨0, 0, none⟩ = none := by simp [World.cell?, Array.getElem?_eq_none h1]
    exact absurd (e.symm.trans hm) (by simp)
def wordsB (s : ByteArray) : List ByteArray := Lib.splitB blank 0 (Lib.countB s blank) s
theorem wordsB_data (s : ByteArray) : (wordsB s).map (·.data.toList) = wsplit s.data.toList := splitB_w _ s rfl
theorem data_inj {a b : ByteArray} (h : a.data.toList = b.data.toList) : a = b := by cases a; cases b; simp at h; rw [h]
theorem map_data_inj {xs ys : List ByteArray} (h : xs.map (·.data.toList) = ys.map (·.data.toList)) : xs = ys := by
  induction xs generalizing ys with
  | nil => cases ys with | nil => rfl | cons y l => simp at h
  | cons x xs ih =>
    cases ys with
    | nil => simp at h
    | cons y ys =>
      simp only [List.map_cons, List.cons.injEq] at h
      rw [data_inj h.1, ih h.2]
theorem wsplit_len (l : List UInt8) : ∀ x ∈ wsplit l, x.length ≤ l.length := by
  induction l with
  | nil => simp [wsplit]
  | cons c l ih =>
    intro x hx
    by_cases hc : c = 32
    · subst hc
      rw [wsplit_blank] at hx
      rcases List.mem_cons.1 hx with rfl | hx
      · simp
      · have := ih x hx; simp; omega
    · rw [wsplit_other hc] at hx
      cases e : wsplit l with
      | nil => exact absurd e (wsplit_ne l)
      | cons h t =>
        rw [e, glue] at hx
        rw [e] at ih
        rcases List.mem_cons.1 hx with rfl | hx
        · have := ih h (by simp); simp; omega
        · have := ih x (by simp [hx]); simp; omega
theorem wordsB_len (s : ByteArray) (j : Nat) (x : ByteArray) (h : (wordsB s)[j]? = some x) : x.size ≤ s.size := by
  have h1 : x.data.toList ∈ wsplit s.data.toList := by
    rw [← wordsB_data]
    exact List.mem_map.2 ⟨x, List.mem_of_getElem? h, rfl⟩
  have := wsplit_len _ _ h1
  rw [Lib.size_eq, Lib.size_eq]
  exact this

def WordsAns (s : ByteArray) (w : World) (e : Ending) (w' : World) : Prop :=
  ∃ g m c, e = .returned (.slice (some ⟨g, 0, none⟩) m c) ∧ TxRow w' (some ⟨g, 0, none⟩) m c (wordsB s) ∧ w.heap.size ≤ g ∧ Below w.heap.size w w'

set_option maxHeartbeats 400000 in
theorem clone_any (s : ByteArray) (w : World) (hs : s.size ≤ 8000) :
    Calls Tryz.prog 79 #[.string s] w fun e w' => e = .returned (.string s) ∧ Below w.heap.size w w' := by
  have HC : Hid (Calls Tryz.prog 91 #[.string s] w fun e w' => e = .returned (.string s) ∧ Below w.heap.size w w') := Any.stringslite_Clone lays316 s w (by omega)
  clear hs
  go_enter Tryz.func79, Tryz.ntmps79
  go_wp2_with fail
  refine HC.out.mono ?_
  rintro e w1 ⟨rfl, hb⟩
  go_wp2_with fail
  go_ret
  exact ⟨rfl, hb⟩

theorem wordsB_length (s : ByteArray) : (wordsB s).length = Lib.countB s blank + 1 := Lib.splitB_all blank (by decide) 0 _ s rfl

set_option maxHeartbeats 400000 in
theorem unworded_any (s : ByteArray) (w : World) (hs : s.size ≤ 8000) (hm : mxl w) :
    Calls Tryz.prog 43 #[.string s] w (WordsAns s w) := by
  have HM := hidK hm
  clear hm
  go_enter Tryz.func43, Tryz.ntmps43
  go_wp2_with fail
  refine (clone_any s w hs).mono ?_
  rintro e w1 ⟨rfl, hb⟩
  obtain ⟨-, m, hm⟩ := HM.out.below hb
  have HS := hidK (Any.strings_Split { lays146 with } lays146.i9 s blank m w1 (by omega) hm (by decide))
  clear hm
  go_wp2_with fail
  refine HS.out.mono ?_
  rintro e w2 ⟨rfl, rfl⟩
  have hcl := Lib.countB_le blank (by decide) s.size s (Nat.le_refl _)
  go_wp2_with fail
  go_ret
  have hg : (w1.alloc (.cells ((Lib.splitB blank 0 (Lib.countB s blank) s).map Value.string).toArray 9)).heap[w1.heap.size]? = some (.cells ((wordsB s).map Value.string).toArray 9 (0, 0)) := Array.getElem?_push_size
  refine ⟨w1.heap.size, _, _, rfl, ?_, hb.size, hb.trans ((below1 _ _).mono hb.size)⟩
  refine ⟨wordsB_length s, Nat.le_refl _, by omega, fun j x hx => Nat.le_trans (wordsB_len s j x hx) (by omega), .inr ⟨w1.heap.size, 0, rfl, by simp, fun j x hx => ?_⟩⟩
  exact (cellK hg (0 + j)).trans (by simp [hx])

theorem infoStrS : (Tryz.prog.info? 9).map (fun i => (i.zero, i.size, i.bytes)) = some (some (.string ⟨#[]⟩), 1, 16) := by kernel_rfl

theorem laid_one (w : World) (v : Value) (T : TypeId) : (w.alloc (.cells #[v] T)).cell? ⟨w.heap.size, 0 + 0, none⟩ = some v := by
  have e : (w.alloc (.cells #[v] T)).heap[w.heap.size]? = some (.cells #[v] T (0, 0)) := Array.getElem?_push_size
  exact cellK e 0
def SpInv (s : ByteArray) (p k : Nat) (outs : List ByteArray) : Prop := outs.map (·.data.toList) ++ glue (s.extract p k).data.toList (wsplit (s.data.toList.drop k)) = wsplit s.data.toList
theorem drop_at {s : ByteArray} {k : Nat} (hk : k < s.size) : s.data.toList.drop k = s[k]'hk :: s.data.toList.drop (k + 1) := by
  have hl : k < s.data.toList.length := by rw [← Lib.size_eq]; exact hk
  rw [List.drop_eq_getElem_cons hl]
  rfl
theorem ext_self (s : ByteArray) (k : Nat) : (s.extract k k).data.toList = [] := by
  rw [Lib.extract_data]; simp
theorem ext_step {s : ByteArray} {p k : Nat} (hp : p ≤ k) (hk : k < s.size) : (s.extract p (k + 1)).data.toList = (s.extract p k).data.toList ++ [s[k]'hk] := by
  have hl : k < s.data.toList.length := by rw [← Lib.size_eq]; exact hk
  rw [Lib.extract_data, Lib.extract_data]
  have e : k + 1 - p = (k - p) + 1 := by omega
  rw [e, List.take_add_one]
  congr 1
  rw [List.getElem?_drop]
  have e2 : p + (k - p) = k := by omega
  rw [e2, List.getElem?_eq_getElem hl]
  rfl
theorem SpInv.start (s : ByteArray) : SpInv s 0 0 [] := by
  unfold SpInv
  rw [ext_self, List.drop_zero, glue_nil (wsplit_ne _)]
  rfl
theorem SpInv.blank {s : ByteArray} {p k : Nat} {outs : List ByteArray} (h : SpInv s p k outs) (hk : k < s.size) (hb : s[k]'hk = 32) : SpInv s (k + 1) (k + 1) (outs ++ [s.extract p k]) := by
  unfold SpInv at h ⊢
  rw [drop_at hk, hb, wsplit_blank] at h
  rw [ext_self, glue_nil (wsplit_ne _), ← h]
  simp [glue]
theorem SpInv.other {s : ByteArray} {p k : Nat} {outs : List ByteArray} (h : SpInv s p k outs) (hp : p ≤ k) (hk : k < s.size) (hb : ¬ s[k]'hk = 32) : SpInv s p (k + 1) outs := by
  unfold SpInv at h ⊢
  rw [drop_at hk, wsplit_other hb, glue_glue] at h
  rw [ext_step hp hk]
  exact h
theorem SpInv.done {s : ByteArray} {p : Nat} {outs : List ByteArray} (h : SpInv s p s.size outs) : outs ++ [s.extract p s.size] = wordsB s := by
  apply map_data_inj
  unfold SpInv at h
  rw [wordsB_data, ← h, List.drop_eq_nil_of_le (by rw [← Lib.size_eq]; omega)]
  simp [wsplit, glue]
theorem own_row {w : World} {base n : Nat} {e : TypeId} {v : Value} {xs : List ByteArray} (h : w.ownsRow base e 1 v n (xs.map Value.string)) (h0 : 0 < n) (hs : ∀ (j : Nat) x, xs[j]? = some x → x.size ≤ 9223372036854775807) :
    ∃ g cap, v = .slice (some ⟨g, 0, none⟩) n cap ∧ base ≤ g ∧ TxRow w (some ⟨g, 0, none⟩) n cap xs := by
  obtain ⟨hl, h⟩ := h
  rcases h with ⟨_, h1⟩ | ⟨g, cap, cur, rfl, hb, hg, hnc, hcm, hsz, htk⟩
  · omega
  · have hlt : g < w.heap.size := by
      rcases Nat.lt_or_ge g w.heap.size with h1 | h1
      · exact h1
      · rw [Array.getElem?_eq_none h1] at hg; cases hg
    refine ⟨g, cap, rfl, hb, by simpa using hl, hnc, by unfold maxLen at hcm; omega, hs, .inr ⟨g, 0, rfl, hlt, fun j x hx => ?_⟩⟩
    rw [Nat.zero_add, cellK hg]
    have hj : j < n := by
      have := (List.getElem?_eq_some_iff.1 hx).1
      simp at hl; omega
    have e1 : (cur.toList.take (n * 1))[j]? = some (.string x) := by rw [htk]; simp [hx]
    rw [List.getElem?_take, if_pos (by omega)] at e1
    simpa using e1

set_option maxHeartbeats 3200000 in
theorem ssplit_any (s : ByteArray) (w : World) (hs : s.size ≤ 8000) :
    Calls Tryz.prog 55 #[.string s, .int .u8 32] w (WordsAns s w) := by
  obtain ⟨i0, hi, hz0, hz1, hz2⟩ := info_parts infoStrS
  go_enter Tryz.func55, Tryz.ntmps55
  go_wp2
  go_loopw [5, 6, 7] (fun o f i wr => ∃ (k p : Nat) (outs : List ByteArray), p ≤ k ∧ k ≤ s.size ∧ f = .int .i64 p ∧ i = .int .i64 k ∧ outs.length ≤ k ∧ Hid (wr.ownsRow w.heap.size 9 1 o outs.length (outs.map Value.string)) ∧ Hid (SpInv s p k outs) ∧ Hid (Below w.heap.size w wr)) (fun _ _ i _ => s.size - (intOf i).toNat)
  case atStart =>
    refine ⟨0, 0, [], by omega, by omega, rfl, rfl, by simp, ?_, SpInv.start s, below1 _ _⟩
    exact ⟨rfl, .inr ⟨w.heap.size, 0, #[], rfl, Nat.le_refl _, Array.getElem?_push_size, Nat.le_refl _, by unfold maxLen; omega, rfl, rfl⟩⟩
  case round =>
    obtain ⟨k, p, outs, hpk, hk, rfl, rfl, hol, HO, HS, HB⟩ := hrel
    have hBs := HB.out.size
    by_cases hlt : k < s.size
    · by_cases hb : s[k]'hlt = 32
      · have hq : (((s[k]'hlt).toNat : Int) == 32) = true := by rw [hb]; rfl
        go_wp2_with (first | (at_builtin; refine wpList_append_own _ rfl _ _ 26 rfl w.heap.size 9 i0 (.string ⟨#[]⟩) 1 16 Tryz.underlying26 hi hz0 hz1 hz2 rfl (by decide) _ _ _ rfl (HO.out.alloc _) ⟨wr.heap.size, 0, none⟩ 1 1 [.string (s.extract p k)] rfl rfl ?c1 ?c2 ?c3 ?c4 ?c5 ?_))
        case c1 =>
          intro j u hu
          cases j with
          | zero =>
            simp only [List.getElem?_cons_zero, Option.some.injEq] at hu
            subst hu
            rw [Addr.add_lit]
            exact laid_one _ _ _
          | succ j => simp at hu
        case c2 => intro u hu; rw [List.mem_singleton.1 hu]; rfl
        case c3 => unfold maxLen; omega
        case c4 => omega
        case c5 => simp; omega
        rintro v' w3 hown3 hgrow -
        have HO3 : Hid (w3.ownsRow w.heap.size 9 1 v' (outs ++ [s.extract p k]).length ((outs ++ [s.extract p k]).map Value.string)) := by
          show World.ownsRow _ _ _ _ _ _ _
          rw [List.map_append, List.length_append]
          exact hown3
        have HB3 := hidK ((HB.out.trans ((below1 _ _).mono hBs)).grown hgrow (by simp; omega) (fun g hg => (HO.out.lt g hg).1))
        clear hown3 hgrow
        go_wp2
        exact ⟨⟨k + 1, k + 1, outs ++ [s.extract p k], by omega, by omega, by go_num, by go_num, by simp; omega, HO3, HS.out.blank hlt hb, HB3⟩, by simp [intOf]; omega⟩
      · have hq : (((s[k]'hlt).toNat : Int) == 32) = false := by
          rw [beq_eq_false_iff_ne]
          intro e
          exact hb (UInt8.toNat_inj.1 (by simp; omega))
        go_wp2
        exact ⟨⟨k + 1, p, outs, by omega, by omega, rfl, by go_num, by omega, HO, HS.out.other hpk hlt hb, HB⟩, by simp [intOf]; omega⟩
    · obtain rfl : k = s.size := by omega
      go_wp2_with (first | (at_builtin; refine wpList_append_own _ rfl _ _ 26 rfl w.heap.size 9 i0 (.string ⟨#[]⟩) 1 16 Tryz.underlying26 hi hz0 hz1 hz2 rfl (by decide) _ _ _ rfl (HO.out.alloc _) ⟨wr.heap.size, 0, none⟩ 1 1 [.string (s.extract p s.size)] rfl rfl ?c1 ?c2 ?c3 ?c4 ?c5 ?_))
      case c1 =>
        intro j u hu
        cases j with
        | zero =>
          simp only [List.getElem?_cons_zero, Option.some.injEq] at hu
          subst hu
          rw [Addr.add_lit]
          exact laid_one _ _ _
        | succ j => simp at hu
      case c2 => intro u hu; rw [List.mem_singleton.1 hu]; rfl
      case c3 => unfold maxLen; omega
      case c4 => omega
      case c5 => simp; omega
      rintro v' w3 hown3 hgrow -
      have HO3 : Hid (w3.ownsRow w.heap.size 9 1 v' (outs.length + 1) ((wordsB s).map Value.string)) := by
        show World.ownsRow _ _ _ _ _ _ _
        rw [← HS.out.done, List.map_append]
        exact hown3
      have HB3 := hidK ((HB.out.trans ((below1 _ _).mono hBs)).grown hgrow (by simp; omega) (fun g hg => (HO.out.lt g hg).1))
      clear hown3 hgrow
      obtain ⟨g, cp, rfl, hg, hrow⟩ := own_row HO3.out (by omega) (fun j x hx => Nat.le_trans (wordsB_len s j x hx) (by omega))
      have HR := hidK hrow
      clear hrow HO3
      go_wp2
      go_ret
      exact ⟨g, _, cp, rfl, HR.out, hg, HB3.out⟩

def lays156_ren : Go.Shelf.Ren := ⟨fun | 156 => 74 | 165 => 85 | 166 => 86 | 169 => 87 | 240 => 94 | 241 => 95 | 276 => 101 | 277 => 102 | n => n, fun | 31 => 26 | 9 => 9 | 3 => 3 | 4 => 4 | 0 => 0 | 20 => 20 | 72 => 98 | 76 => 102 | 70 => 96 | 37 => 22 | 75 => 101 | 127 => 111 | 164 => 114 | 5 => 5 | 80 => 72 | n => n, fun | n => n⟩

theorem lays156 : Go.Proofs.Lays.n156 Tryz.prog lays156_ren := {
  mixed := by kernel_rfl
  f156 := Tryz.func74.trans (congrArg some (by kernel_rfl))
  f165 := Tryz.func85.trans (congrArg some (by kernel_rfl))
  f166 := Tryz.func86.trans (congrArg some (by kernel_rfl))
  f169 := Tryz.func87.trans (congrArg some (by kernel_rfl))
  f240 := Tryz.func94.trans (congrArg some (by kernel_rfl))
  f241 := Tryz.func95.trans (congrArg some (by kernel_rfl))
  f276 := Tryz.func101.trans (congrArg some (by kernel_rfl))
  f277 := Tryz.func102.trans (congrArg some (by kernel_rfl))
  t0 := Tryz.underlying0
  a0 := Tryz.isAgg0
  z0 := Tryz.sizeOf0
  v0 := Tryz.zeroValue0
  t3 := Tryz.underlying3
  a3 := Tryz.isAgg3
  z3 := Tryz.sizeOf3
  v3 := Tryz.zeroValue3
  t4 := Tryz.underlying4
  a4 := Tryz.isAgg4
  z4 := Tryz.sizeOf4
  v4 := Tryz.zeroValue4
  t9 := Tryz.underlying9
  a9 := Tryz.isAgg9
  z9 := Tryz.sizeOf9
  v9 := Tryz.zeroValue9
  t20 := Tryz.underlying20
  a20 := Tryz.isAgg20
  z20 := Tryz.sizeOf20
  v20 := Tryz.zeroValue20
  t31 := Tryz.underlying26
  a31 := Tryz.isAgg26
  z31 := Tryz.sizeOf26
  v31 := Tryz.zeroValue26
  t37 := Tryz.underlying22
  a37 := Tryz.isAgg22
  z37 := Tryz.sizeOf22
  v37 := Tryz.zeroValue22
  t70 := Tryz.underlying96
  a70 := Tryz.isAgg96
  z70 := Tryz.sizeOf96
  v70 := Tryz.zeroValue96
  t72 := Tryz.underlying98
  a72 := Tryz.isAgg98
  z72 := Tryz.sizeOf98
  v72 := Tryz.zeroValue98
  t75 := Tryz.underlying101
  a75 := Tryz.isAgg101
  z75 := Tryz.sizeOf101
  v75 := Tryz.zeroValue101
  t76 := Tryz.underlying102
  a76 := Tryz.isAgg102
  z76 := Tryz.sizeOf102
  v76 := Tryz.zeroValue102
  t127 := Tryz.underlying111
  a127 := Tryz.isAgg111
  z127 := Tryz.sizeOf111
  v127 := Tryz.zeroValue111
  t164 := Tryz.underlying114
  a164 := Tryz.isAgg114
  z164 := Tryz.sizeOf114
  v164 := Tryz.zeroValue114 }

theorem join_extra : Builder.Extra Tryz.prog lays156_ren := {
  sizeBuilder := by kernel_rfl
  liesBuilder := by kernel_rfl
  t5 := Tryz.underlying5
  a5 := Tryz.isAgg5
  z5 := Tryz.sizeOf5
  v5 := Tryz.zeroValue5
  infoByte := by kernel_rfl
  cellsByte := by kernel_rfl
  sizeByte := by kernel_rfl
  neB5 := by decide }

def wordsOf (xs : List ByteArray) : ByteArray := ⟨(Lib.join (xs.map (·.data.toList)) [32]).toArray⟩

set_option maxHeartbeats 400000 in
theorem worded_any (bk o c : Nat) (xs : List ByteArray) (n : Nat) (w : World) (hcells : ∀ (j : Nat) x, xs[j]? = some x → w.cell? ⟨bk, o + j, none⟩ = some (.string x)) (hbk : bk < w.heap.size) (hn : xs.length = n) (hN : n ≤ 1000) (hcap : n ≤ c)
    (hlen : (Lib.join (xs.map (·.data.toList)) [32]).length ≤ 140737488355328) :
    Calls Tryz.prog 34 #[.slice (some ⟨bk, o, none⟩) n c] w fun e w' => e = .returned (.string (wordsOf xs)) ∧ Below w.heap.size w w' := by
  subst hn
  have HJ : Hid (Calls Tryz.prog 74 #[.slice (some ⟨bk, o, none⟩) xs.length c, .string ⟨#[32]⟩] w fun e w' => e = .returned (.string (wordsOf xs)) ∧ Below w.heap.size w w') := Any.strings_Join lays156 join_extra bk o c xs ⟨#[32]⟩ w hcells hbk (by omega) hcap hlen
  clear hcells hbk hN hcap hlen
  go_enter Tryz.func34, Tryz.ntmps34
  go_wp2_with fail
  refine HJ.out.mono ?_
  rintro e w1 ⟨rfl, hb⟩
  go_wp2_with fail
  go_ret
  exact ⟨rfl, hb⟩

theorem cells_laid {w : World} {xs : List ByteArray} {T : TypeId} (j : Nat) (x : ByteArray) (h : xs[j]? = some x) : (w.alloc (.cells (xs.map Value.string).toArray T)).cell? ⟨w.heap.size, 0 + j, none⟩ = some (.string x) := by
  have e : (w.alloc (.cells (xs.map Value.string).toArray T)).heap[w.heap.size]? = some (.cells (xs.map Value.string).toArray T (0, 0)) := Array.getElem?_push_size
  rw [Nat.zero_add, cellK e]
  simp [h]

theorem worded_laid (xs : List ByteArray) (n : Nat) (T : TypeId) (w : World) (hn : xs.length = n) (hN : n ≤ 1000) (hlen : (Lib.join (xs.map (·.data.toList)) [32]).length ≤ 140737488355328) :
    Calls Tryz.prog 34 #[.slice (some ⟨w.heap.size, 0, none⟩) n n] (w.alloc (.cells (xs.map Value.string).toArray T)) fun e w' => e = .returned (.string (wordsOf xs)) ∧ Below w.heap.size w w' :=
  (worded_any w.heap.size 0 n xs n _ (fun j x h => cells_laid j x h) (by simp) hn hN (Nat.le_refl _) hlen).mono fun _ _ h => ⟨h.1, (below1 _ _).trans (h.2.mono (by simp))⟩

theorem no_app (x : ByteArray) : x ++ wNo = x := by apply bytes_ext; simp [wNo]
theorem retB {a b : Bool} (h : a = b) : Ending.returned (.bool a) = .returned (.bool b) := by rw [h]

set_option maxHeartbeats 400000 in
theorem sis_any (n a b : Int) (w : World) :
    Calls Tryz.prog 64 #[.int .i64 n, .int .i64 a, .int .i64 b] w fun e w' => e = .returned (.bool (decide (a ≤ n) && decide (n ≤ b))) ∧ w = w' := by
  go_enter Tryz.func64, Tryz.ntmps64
  go_wp2
  all_goals (go_ret; exact ⟨retB (by rw [Bool.eq_iff_iff]; simp; omega), rfl⟩)

set_option maxHeartbeats 400000 in
theorem ssizein_any (n : Int) (w : World) :
    Calls Tryz.prog 70 #[.int .i64 n] w fun e w' => e = .returned (.bool (decide (1 ≤ n) && decide (n ≤ 1048576))) ∧ w = w' := by
  go_enter Tryz.func70, Tryz.ntmps70
  go_wp2_with (go_at_call 64; refine (sis_any _ _ _ _).mono ?_; rintro e w1 ⟨rfl, rfl⟩)
  go_ret
  exact ⟨rfl, rfl⟩

set_option maxHeartbeats 800000 in
theorem ssizetext_any (n : Int) (w : World) :
    Calls Tryz.prog 53 #[.int .i64 n] w fun e w' => e = .returned (.string (szText n)) ∧ Below w.heap.size w w' := by
  by_cases hA : n < 1
  · have hin : (decide (1 ≤ n) && decide (n ≤ 1048576)) = false := by simp; omega
    go_enter Tryz.func53, Tryz.ntmps53
    go_wp2_with (go_at_call 70; refine (ssizein_any _ _).mono ?_; rw [hin]; rintro e w1 ⟨rfl, rfl⟩)
    go_ret
    exact ⟨ret_str (mtext_low hA), Below.refl _ _⟩
  by_cases hB : 1048576 < n
  · have hin : (decide (1 ≤ n) && decide (n ≤ 1048576)) = false := by simp; omega
    go_enter Tryz.func53, Tryz.ntmps53
    go_wp2_with (go_at_call 70; refine (ssizein_any _ _).mono ?_; rw [hin]; rintro e w1 ⟨rfl, rfl⟩)
    go_ret
    exact ⟨ret_str (mtext_high hB), Below.refl _ _⟩
  have hin : (decide (1 ≤ n) && decide (n ≤ 1048576)) = true := by simp; omega
  have hA' : 1 ≤ n := by omega
  have hB' : n ≤ 1048576 := by omega
  by_cases hz : n % 1024 = 0
  · have hz2 : (n % 1024 == 0) = true := by simp [hz]
    have hd2 := dec_size (n := n / 1024) (by omega)
    have hs : (dec (n / 1024)).size + (wTi).size ≤ 9223372036854775807 := Nat.le_trans (Nat.add_le_add_right hd2 _) (by decide)
    have HD : Hid (∀ w, Calls Tryz.prog 81 #[.int .i64 (n / 1024)] w fun e w' => e = .returned (.string (dec (n / 1024))) ∧ Below w.heap.size w w') := fun w => by
      have := sdec_any (n / 1024).toNat w (by omega)
      rw [Int.toNat_of_nonneg (by omega)] at this
      exact this
    go_enter Tryz.func53, Tryz.ntmps53
    go_wp2_with (first | (go_at_call 70; refine (ssizein_any _ _).mono ?_; rw [hin]; rintro e w1 ⟨rfl, rfl⟩) | (go_at_call 81; refine (HD.out _).mono ?_; rintro e w1 ⟨rfl, hb1⟩))
    go_ret
    exact ⟨ret_str (mtext_great hA' hB' hz), hb1⟩
  · have hz2 : (n % 1024 == 0) = false := by simp [hz]
    have hd2 := dec_size (n := n) (by omega)
    have hs : (dec n).size + (wGi).size ≤ 9223372036854775807 := Nat.le_trans (Nat.add_le_add_right hd2 _) (by decide)
    have HD : Hid (∀ w, Calls Tryz.prog 81 #[.int .i64 n] w fun e w' => e = .returned (.string (dec n)) ∧ Below w.heap.size w w') := fun w => by
      have := sdec_any n.toNat w (by omega)
      rw [Int.toNat_of_nonneg (by omega)] at this
      exact this
    go_enter Tryz.func53, Tryz.ntmps53
    go_wp2_with (first | (go_at_call 70; refine (ssizein_any _ _).mono ?_; rw [hin]; rintro e w1 ⟨rfl, rfl⟩) | (go_at_call 81; refine (HD.out _).mono ?_; rintro e w1 ⟨rfl, hb1⟩))
    go_ret
    exact ⟨ret_str (mtext_small (w1 := wGi) hA' hB' hz), hb1⟩

set_option maxHeartbeats 400000 in
theorem isizeText_any (n : Int) (w : World) (ht : ptab w) :
    Calls Tryz.prog 35 #[.int .i64 n] w fun e w' => e = .returned (.string (szText n)) ∧ Below w.heap.size w w' := by
  have HT : Hid (ptab w) := ht
  clear ht
  go_enter Tryz.func35, Tryz.ntmps35
  go_wp2_with fail
  refine (isize_meas _).mono ?_
  rintro e w1 ⟨rfl, hb1⟩
  go_wp2_with fail
  refine (isizetext_any _ _ (HT.out.below hb1)).mono ?_
  rintro e w2 ⟨rfl, hb2⟩
  go_wp2_with fail
  go_ret
  exact ⟨rfl, hb1.trans (hb2.mono hb1.size)⟩

set_option maxHeartbeats 400000 in
theorem scpuin_any (n : Int) (w : World) :
    Calls Tryz.prog 63 #[.int .i64 n] w fun e w' => e = .returned (.bool (decide (0 ≤ n) && decide (n ≤ 1000000))) ∧ w = w' := by
  go_enter Tryz.func63, Tryz.ntmps63
  go_wp2_with (go_at_call 64; refine (sis_any _ _ _ _).mono ?_; rintro e w1 ⟨rfl, rfl⟩)
  go_ret
  exact ⟨rfl, rfl⟩

set_option maxHeartbeats 800000 in
theorem scputext_any (n : Int) (w : World) :
    Calls Tryz.prog 54 #[.int .i64 n] w fun e w' => e = .returned (.string (cpText n)) ∧ Below w.heap.size w w' := by
  by_cases hA : n < 0
  · have hin : (decide (0 ≤ n) && decide (n ≤ 1000000)) = false := by simp; omega
    go_enter Tryz.func54, Tryz.ntmps54
    go_wp2_with (go_at_call 63; refine (scpuin_any _ _).mono ?_; rw [hin]; rintro e w1 ⟨rfl, rfl⟩)
    go_ret
    exact ⟨ret_str (mtext_low hA), Below.refl _ _⟩
  by_cases hB : 1000000 < n
  · have hin : (decide (0 ≤ n) && decide (n ≤ 1000000)) = false := by simp; omega
    go_enter Tryz.func54, Tryz.ntmps54
    go_wp2_with (go_at_call 63; refine (scpuin_any _ _).mono ?_; rw [hin]; rintro e w1 ⟨rfl, rfl⟩)
    go_ret
    exact ⟨ret_str (mtext_high hB), Below.refl _ _⟩
  have hin : (decide (0 ≤ n) && decide (n ≤ 1000000)) = true := by simp; omega
  have hA' : 0 ≤ n := by omega
  have hB' : n ≤ 1000000 := by omega
  by_cases hz : n % 1000 = 0
  · have hz2 : (n % 1000 == 0) = true := by simp [hz]
    have hd2 := dec_size (n := n / 1000) (by omega)
    have hs : (dec (n / 1000)).size + (wNo).size ≤ 9223372036854775807 := Nat.le_trans (Nat.add_le_add_right hd2 _) (by decide)
    have HD : Hid (∀ w, Calls Tryz.prog 81 #[.int .i64 (n / 1000)] w fun e w' => e = .returned (.string (dec (n / 1000))) ∧ Below w.heap.size w w') := fun w => by
      have := sdec_any (n / 1000).toNat w (by omega)
      rw [Int.toNat_of_nonneg (by omega)] at this
      exact this
    go_enter Tryz.func54, Tryz.ntmps54
    go_wp2_with (first | (go_at_call 63; refine (scpuin_any _ _).mono ?_; rw [hin]; rintro e w1 ⟨rfl, rfl⟩) | (go_at_call 81; refine (HD.out _).mono ?_; rintro e w1 ⟨rfl, hb1⟩))
    go_ret
    exact ⟨ret_str ((no_app _).symm.trans (mtext_great hA' hB' hz)), hb1⟩
  · have hz2 : (n % 1000 == 0) = false := by simp [hz]
    have hd2 := dec_size (n := n) (by omega)
    have hs : (dec n).size + (wM).size ≤ 9223372036854775807 := Nat.le_trans (Nat.add_le_add_right hd2 _) (by decide)
    have HD : Hid (∀ w, Calls Tryz.prog 81 #[.int .i64 n] w fun e w' => e = .returned (.string (dec n)) ∧ Below w.heap.size w w') := fun w => by
      have := sdec_any n.toNat w (by omega)
      rw [Int.toNat_of_nonneg (by omega)] at this
      exact this
    go_enter Tryz.func54, Tryz.ntmps54
    go_wp2_with (first | (go_at_call 63; refine (scpuin_any _ _).mono ?_; rw [hin]; rintro e w1 ⟨rfl, rfl⟩) | (go_at_call 81; refine (HD.out _).mono ?_; rintro e w1 ⟨rfl, hb1⟩))
    go_ret
    exact ⟨ret_str (mtext_small (w1 := wM) hA' hB' hz), hb1⟩

set_option maxHeartbeats 400000 in
theorem icpuText_any (n : Int) (w : World) (ht : ptab w) :
    Calls Tryz.prog 37 #[.int .i64 n] w fun e w' => e = .returned (.string (cpText n)) ∧ Below w.heap.size w w' := by
  have HT : Hid (ptab w) := ht
  clear ht
  go_enter Tryz.func37, Tryz.ntmps37
  go_wp2_with fail
  refine (icpu_meas _).mono ?_
  rintro e w1 ⟨rfl, hb1⟩
  go_wp2_with fail
  refine (icputext_any _ _ (HT.out.below hb1)).mono ?_
  rintro e w2 ⟨rfl, hb2⟩
  go_wp2_with fail
  go_ret
  exact ⟨rfl, hb1.trans (hb2.mono hb1.size)⟩

def Wd (W : World) : Type := { x : World // Below W.heap.size W x }
def Wd.w {W : World} (i : Wd W) : World := i.1
theorem Wd.b {W : World} (i : Wd W) : Below W.heap.size W i.w := i.2
theorem Wd.ne (W : World) : Nonempty (Wd W) := ⟨⟨W, Below.refl _ _⟩⟩
theorem Wd.cell {W : World} (i : Wd W) {b o : Nat} (h : b < W.heap.size) : i.w.cell? ⟨b, o, none⟩ = W.cell? ⟨b, o, none⟩ := cell_below i.b h
theorem Wd.heap {W : World} (i : Wd W) {b : Nat} (h : b < W.heap.size) : i.w.heap[b]? = W.heap[b]? := i.b.block b h
theorem Wd.slot {W : World} (i : Wd W) {b o : Nat} {vs : Array Value} {T : TypeId} {f : Nat × Nat} {v : Value} (h : W.heap[b]? = some (.cells vs T f)) (hv : vs[o]? = some v) : i.w.cell? ⟨b, o, none⟩ = some v := by
  have hb : b < W.heap.size := by
    rcases Nat.lt_or_ge b W.heap.size with h1 | h1
    · exact h1
    · rw [Array.getElem?_eq_none h1] at h; cases h
  rw [i.cell hb, cellK h, hv]

theorem wp_region_wide {P : Program} {id : Nat} {Q : Exit → Act → World → Prop} {a : Act} {w : World} {l : List Oper} (hm : P.follows .mixedOrders = true) (hB : Region.lexB .any l.toArray = true)
    (h : wpQuiet P l.toArray (fun w' => ∃ i : Wd w, w' = i.w) (fun a' => ∀ w', (∃ i : Wd w, w' = i.w) → Q .normal a' w') l a) : (Code.region id l.toArray true).wp P Q a w :=
  wp_region_quiet (C := fun w' => ∃ i : Wd w, w' = i.w) hm hB ⟨⟨_, (Below.refl w.heap.size w).drew⟩, rfl⟩ (by simpa using h)

theorem Calls.wide {P : Program} {f : FuncId} {args : Array Value} {W : World} {i : Wd W} {v : Value} (h : Calls P f args i.w fun e w' => e = .returned v ∧ Below i.w.heap.size i.w w') : Calls P f args i.w fun e w'' => e = .returned v ∧ ∃ j : Wd W, w'' = j.w :=
  h.mono fun _ w' ⟨he, hb⟩ => ⟨he, ⟨w', i.b.trans (hb.mono i.b.size)⟩, rfl⟩

def wClaim : ByteArray := ⟨#[99, 108, 97, 105, 109]⟩
def wSingle : ByteArray := ⟨#[115, 105, 110, 103, 108, 101]⟩
def wMany : ByteArray := ⟨#[109, 97, 110, 121]⟩
def wShare (x : Bool) : ByteArray := if x = true then wSingle else wMany
def claimT (n : ByteArray) (z : Int) (k : ByteArray) (x : Bool) : ByteArray := wordsOf [wClaim, n, szText z, k, wShare x]
open Classical in
noncomputable def claimX (n : ByteArray) (z : Int) (k : ByteArray) (x : Bool) (v : ByteArray) : ByteArray := if ClaimOk n z k v ∧ v = ⟨#[]⟩ then claimT n z k x else ⟨#[]⟩
theorem claimX_no {n : ByteArray} {z : Int} {k : ByteArray} {x : Bool} {v : ByteArray} (h : ¬ (ClaimOk n z k v ∧ v = ⟨#[]⟩)) : (⟨#[]⟩ : ByteArray) = claimX n z k x v := by unfold claimX; rw [if_neg h]
theorem claimX_yes {n : ByteArray} {z : Int} {k : ByteArray} {x : Bool} (h : ClaimOk n z k ⟨#[]⟩) : claimT n z k x = claimX n z k x ⟨#[]⟩ := by unfold claimX; rw [if_pos ⟨h, rfl⟩]
theorem size_appK (a b : ByteArray) : (a ++ b).size = a.size + b.size := by rw [Lib.size_eq, bytes_append, List.length_append, ← Lib.size_eq, ← Lib.size_eq]
theorem words_data (xs : List ByteArray) : (wordsOf xs).data.toList = Lib.join (xs.map (·.data.toList)) [32] := rfl
theorem claimT_single (n : ByteArray) (z : Int) (k : ByteArray) : (⟨#[99, 108, 97, 105, 109, 32]⟩ : ByteArray) ++ n ++ ⟨#[32]⟩ ++ szText z ++ ⟨#[32]⟩ ++ k ++ ⟨#[32, 115, 105, 110, 103, 108, 101]⟩ = claimT n z k true := by
  apply bytes_ext
  rw [claimT, words_data]
  simp [Lib.join, List.intercalate, List.intersperse, wClaim, wShare, wSingle]
theorem claimT_many (n : ByteArray) (z : Int) (k : ByteArray) : (⟨#[99, 108, 97, 105, 109, 32]⟩ : ByteArray) ++ n ++ ⟨#[32]⟩ ++ szText z ++ ⟨#[32]⟩ ++ k ++ ⟨#[32, 109, 97, 110, 121]⟩ = claimT n z k false := by
  apply bytes_ext
  rw [claimT, words_data]
  simp [Lib.join, List.intercalate, List.intersperse, wClaim, wShare, wMany]

theorem below_drewT {B : Nat} {x w1 : World} (h : Below x.drew.heap.size x.drew w1) (hB : B ≤ x.heap.size) : Below B x w1 := ⟨h.os, h.tape, h.output, h.size, fun k hk => h.block k (Nat.lt_of_lt_of_le hk hB)⟩
theorem BoolB.yes {p : Prop} {w w' : World} {e : Ending} (h : BoolB p w e w') (hp : p) : e = .returned (.bool true) ∧ Below w.heap.size w w' := by
  obtain ⟨r, rfl, hr, hb⟩ := h
  exact ⟨by rw [hr.2 hp], hb⟩
theorem BoolB.no {p : Prop} {w w' : World} {e : Ending} (h : BoolB p w e w') (hp : ¬ p) : e = .returned (.bool false) ∧ Below w.heap.size w w' := by
  obtain ⟨r, rfl, hr, hb⟩ := h
  cases r
  · exact ⟨rfl, hb⟩
  · exact absurd (hr.1 rfl) hp
theorem lt_of_someK {w : World} {b : Nat} {o : Obj} (h : w.heap[b]? = some o) : b < w.heap.size := by
  rcases Nat.lt_or_ge b w.heap.size with h1 | h1
  · exact h1
  · rw [Array.getElem?_eq_none h1] at h; cases h
theorem szText_size (z : Int) : (szText z).size ≤ 9 := by
  unfold szText mtext
  split
  · exact Nat.zero_le _
  · split
    · have := dec_size (n := z / 1024) (by omega)
      rw [size_appK]
      have e : wTi.size = 2 := rfl
      omega
    · have := dec_size (n := z) (by omega)
      rw [size_appK]
      have e : wGi.size = 2 := rfl
      omega

set_option maxHeartbeats 1600000 in
theorem sclaimText_any (n : ByteArray) (z : Int) (k : ByteArray) (x : Bool) (v : ByteArray) (w : World) (hn : n.size ≤ 9223372036854775807) (hk : k.size ≤ 9223372036854775807) (hv : v.size ≤ 9223372036854775807) :
    Calls Tryz.prog 15 #[.agg #[.string n, .int .i64 z, .string k, .bool x, .string v]] w fun e w' => e = .returned (.string (claimX n z k x v)) ∧ Below w.heap.size w w' := by
  go_enter Tryz.func15, Tryz.ntmps15
  go_wp2_with fail
  refine (sclaim_any n z k x v _ hn hk hv).mono ?_
  rintro e w1 ⟨r, rfl, hr, hb⟩
  obtain ⟨g, hb1, -⟩ := slotK hb
  have HB := hidK hb1
  have HG := hidK g
  clear hb hb1
  by_cases hq : r = true
  case neg =>
    have HN := hidK (fun h => hq (hr.2 h))
    have hrf : r = false := by simpa using hq
    clear hr g
    go_wp2_with fail
    go_ret
    exact ⟨ret_str (claimX_no fun h => HN.out h.1), HB.out⟩
  have h0 := hidK (hr.1 hq)
  subst hq
  have c4 : w1.cell? ⟨w.heap.size, 4, none⟩ = some (.string v) := cellK g 4
  clear hr
  by_cases hv0 : v = ⟨#[]⟩
  case neg =>
    have hve := isE_no hv0
    have HN := hidK hv0
    clear g hv0
    go_wp2_with fail
    go_ret
    exact ⟨ret_str (claimX_no fun h => HN.out h.2), HB.out⟩
  subst hv0
  have c0 : w1.cell? ⟨w.heap.size, 0, none⟩ = some (.string n) := cellK g 0
  have c1 : w1.cell? ⟨w.heap.size, 1, none⟩ = some (.int .i64 z) := cellK g 1
  have c2 : w1.cell? ⟨w.heap.size, 2, none⟩ = some (.string k) := cellK g 2
  have c3 : w1.cell? ⟨w.heap.size, 3, none⟩ = some (.bool x) := cellK g 3
  have hlt := lt_of_someK g
  clear g
  have hn20 : n.size ≤ 20 := h0.out.1.2.1
  have hk20 : k.size ≤ 20 := h0.out.2.2.1.2.1
  have hz9 : (szText z).size ≤ 9 := szText_size z
  cases x
  · go_wp2_with fail
    go_region_held (fun w' => w'.cell? ⟨w.heap.size, 0, none⟩ = some (.string n) ∧ w'.cell? ⟨w.heap.size, 1, none⟩ = some (.int .i64 z) ∧ w'.cell? ⟨w.heap.size, 2, none⟩ = some (.string k)) (go_keep)
      (first | (go_at_call 53; refine (ssizetext_any z _).mono ?_; rintro e w2 ⟨rfl, hb2⟩; have y0 : w2.cell? ⟨w.heap.size, 0, none⟩ = some (.string n) := (cell_below hb2 hlt).trans c0; have y1 : w2.cell? ⟨w.heap.size, 1, none⟩ = some (.int .i64 z) := (cell_below hb2 hlt).trans c1; have y2 : w2.cell? ⟨w.heap.size, 2, none⟩ = some (.string k) := (cell_below hb2 hlt).trans c2))
    all_goals (
      have HB2 := hidK (HB.out.trans (below_drewT hb2 HB.out.size))
      clear hb2
      go_wp2_with fail
      go_ret
      exact ⟨ret_str ((claimT_many n z k).trans (claimX_yes h0.out)), HB2.out⟩)
  · go_wp2_with fail
    go_region_held (fun w' => w'.cell? ⟨w.heap.size, 0, none⟩ = some (.string n) ∧ w'.cell? ⟨w.heap.size, 1, none⟩ = some (.int .i64 z) ∧ w'.cell? ⟨w.heap.size, 2, none⟩ = some (.string k)) (go_keep)
      (first | (go_at_call 53; refine (ssizetext_any z _).mono ?_; rintro e w2 ⟨rfl, hb2⟩; have y0 : w2.cell? ⟨w.heap.size, 0, none⟩ = some (.string n) := (cell_below hb2 hlt).trans c0; have y1 : w2.cell? ⟨w.heap.size, 1, none⟩ = some (.int .i64 z) := (cell_below hb2 hlt).trans c1; have y2 : w2.cell? ⟨w.heap.size, 2, none⟩ = some (.string k) := (cell_below hb2 hlt).trans c2))
    all_goals (
      have HB2 := hidK (HB.out.trans (below_drewT hb2 HB.out.size))
      clear hb2
      go_wp2_with fail
      go_ret
      exact ⟨ret_str ((claimT_single n z k).trans (claimX_yes h0.out)), HB2.out⟩)

theorem claim_len {n : ByteArray} {z : Int} {k v : ByteArray} {x : Bool} (h : ClaimOk n z k v) : (Lib.join (([wClaim, n, szText z, k, wShare x] : List ByteArray).map (·.data.toList)) [32]).length ≤ 140737488355328 := by
  have hn20 : n.size ≤ 20 := h.1.2.1
  have hk20 : k.size ≤ 20 := h.2.2.1.2.1
  have hz9 : (szText z).size ≤ 9 := szText_size z
  rw [Lib.size_eq] at hn20 hk20 hz9
  have hx : (wShare x).data.toList.length ≤ 6 := by cases x <;> decide
  simp [Lib.join, List.intercalate, List.intersperse, wClaim]
  simp at hn20 hk20 hz9 hx
  omega

set_option maxHeartbeats 400000 in
theorem asTold_any (n : ByteArray) (z : Int) (k : ByteArray) (x : Bool) (v : ByteArray) (w : World) :
    Calls Tryz.prog 33 #[.agg #[.string n, .int .i64 z, .string k, .bool x, .string v]] w fun e w' => e = .returned (.agg #[.string n, .int .i64 z, .string k, .bool x, .string ⟨#[]⟩]) ∧ Below w.heap.size w w' := by
  go_enter Tryz.func33, Tryz.ntmps33
  go_wp2
  exact bodyPost_ret (v := .agg #[.string n, .int .i64 z, .string k, .bool x, .string ⟨#[]⟩]) (by simp [results, Tryz.results33, go_sem]) rfl ⟨rfl, (below1 _ _).alloc (by simp) _⟩

set_option maxHeartbeats 400000 in
theorem sharing_any (x : Bool) (w : World) :
    Calls Tryz.prog 36 #[.bool x] w fun e w' => e = .returned (.string (wShare x)) ∧ w = w' := by
  cases x
  all_goals (
    go_enter Tryz.func36, Tryz.ntmps36
    go_wp2
    go_ret
    exact ⟨rfl, rfl⟩)

set_option maxHeartbeats 3200000 in
theorem iclaimText_any (n : ByteArray) (z : Int) (k : ByteArray) (x : Bool) (v : ByteArray) (w : World) (hn : n.size ≤ 9223372036854775807) (hk : k.size ≤ 9223372036854775807) (hv : v.size ≤ 9223372036854775807) (ht : ptab w) :
    Calls Tryz.prog 6 #[.agg #[.string n, .int .i64 z, .string k, .bool x, .string v]] w fun e w' => e = .returned (.string (claimX n z k x v)) ∧ Below w.heap.size w w' := by
  have HT := hidK ht
  clear ht
  by_cases hC : ClaimOk n z k v
  case neg =>
    have HC := hidK (fun w => (iclaim_any n z k x v w hn hk hv).mono fun _ _ h => h.no hC)
    have HN := hidK hC
    clear hC
    go_enter Tryz.func6, Tryz.ntmps6
    go_wp2_with fail
    obtain ⟨W, hW⟩ : ∃ W, W = w.alloc (.cells #[.string n, .int .i64 z, .string k, .bool x, .string v] 24) := ⟨_, rfl⟩
    have g : W.heap[w.heap.size]? = some (.cells #[.string n, .int .i64 z, .string k, .bool x, .string v] 24 (0, 0)) := by rw [hW]; exact Array.getElem?_push_size
    have c0 : ∀ i : Wd W, i.w.cell? ⟨w.heap.size, 0, none⟩ = some (.string n) := fun i => i.slot g rfl
    have c1 : ∀ i : Wd W, i.w.cell? ⟨w.heap.size, 1, none⟩ = some (.int .i64 z) := fun i => i.slot g rfl
    have c2 : ∀ i : Wd W, i.w.cell? ⟨w.heap.size, 2, none⟩ = some (.string k) := fun i => i.slot g rfl
    have c3 : ∀ i : Wd W, i.w.cell? ⟨w.heap.size, 3, none⟩ = some (.bool x) := fun i => i.slot g rfl
    have c4 : ∀ i : Wd W, i.w.cell? ⟨w.heap.size, 4, none⟩ = some (.string v) := fun i => i.slot g rfl
    have HB := hidK (show Below w.heap.size w W by rw [hW]; exact below1 _ _)
    rw [← hW]
    clear g hW
    have hne := Wd.ne W
    refine wp_region_wide (by kernel_rfl) (by kernel_rfl) ?_
    repeat (go_big_quiet_step (first | (go_at_call 26; exact Calls.wide (HC.out _)) | fail))
    refine wpQuiet_nil ?_
    rintro _ ⟨i, rfl⟩
    go_wp2_with fail
    go_ret
    exact ⟨ret_str (claimX_no fun h => HN.out h.1), HB.out.trans (i.b.mono HB.out.size)⟩
  have HC := hidK (fun w => (iclaim_any n z k x v w hn hk hv).mono fun _ _ h => h.yes hC)
  have HT' := hidK (fun w => asTold_any n z k x v w)
  have HY := hidK hC
  clear hC
  go_enter Tryz.func6, Tryz.ntmps6
  go_wp2_with fail
  obtain ⟨W, hW⟩ : ∃ W, W = w.alloc (.cells #[.string n, .int .i64 z, .string k, .bool x, .string v] 24) := ⟨_, rfl⟩
  have g : W.heap[w.heap.size]? = some (.cells #[.string n, .int .i64 z, .string k, .bool x, .string v] 24 (0, 0)) := by rw [hW]; exact Array.getElem?_push_size
  have HG := hidK g
  have HB := hidK (show Below w.heap.size w W by rw [hW]; exact below1 _ _)
  have c0 : ∀ i : Wd W, i.w.cell? ⟨w.heap.size, 0, none⟩ = some (.string n) := fun i => i.slot g rfl
  have c1 : ∀ i : Wd W, i.w.cell? ⟨w.heap.size, 1, none⟩ = some (.int .i64 z) := fun i => i.slot g rfl
  have c2 : ∀ i : Wd W, i.w.cell? ⟨w.heap.size, 2, none⟩ = some (.string k) := fun i => i.slot g rfl
  have c3 : ∀ i : Wd W, i.w.cell? ⟨w.heap.size, 3, none⟩ = some (.bool x) := fun i => i.slot g rfl
  have c4 : ∀ i : Wd W, i.w.cell? ⟨w.heap.size, 4, none⟩ = some (.string v) := fun i => i.slot g rfl
  rw [← hW]
  clear g hW
  by_cases hv0 : v = ⟨#[]⟩
  · subst hv0
    have hne := Wd.ne W
    refine wp_region_wide (by kernel_rfl) (by kernel_rfl) ?_
    repeat (go_big_quiet_step (first | (go_at_call 26; exact Calls.wide (HC.out _)) | (go_at_call 33; exact Calls.wide (HT'.out _))))
    refine wpQuiet_nil ?_
    rintro _ ⟨i, rfl⟩
    obtain ⟨V, hV⟩ : ∃ V, V = i.w := ⟨_, rfl⟩
    have d0 : V.cell? ⟨w.heap.size, 0, none⟩ = some (.string n) := by rw [hV]; exact c0 i
    have d1 : V.cell? ⟨w.heap.size, 1, none⟩ = some (.int .i64 z) := by rw [hV]; exact c1 i
    have d2 : V.cell? ⟨w.heap.size, 2, none⟩ = some (.string k) := by rw [hV]; exact c2 i
    have d3 : V.cell? ⟨w.heap.size, 3, none⟩ = some (.bool x) := by rw [hV]; exact c3 i
    have HV := hidK (show Below w.heap.size w V by rw [hV]; exact HB.out.trans (i.b.mono HB.out.size))
    have HL := hidK (show w.heap.size < V.heap.size by rw [hV]; exact Nat.lt_of_lt_of_le (lt_of_someK HG.out) i.b.size)
    have HP := hidK (HT.out.below HV.out.drew)
    rw [← hV]
    clear hV c0 c1 c2 c3 c4 hne HG HC HT' HT HB
    have hjl : (Lib.join (([wClaim, n, szText z, k, wShare x] : List ByteArray).map (·.data.toList)) [32]).length ≤ 140737488355328 := claim_len HY.out
    have HJ := hidK hjl
    clear hjl
    go_wp2_with fail
    go_region_held (fun w' => w'.cell? ⟨w.heap.size, 0, none⟩ = some (.string n) ∧ w'.cell? ⟨w.heap.size, 1, none⟩ = some (.int .i64 z) ∧ w'.cell? ⟨w.heap.size, 2, none⟩ = some (.string k) ∧ w'.cell? ⟨w.heap.size, 3, none⟩ = some (.bool x)) (go_keep)
      (first
        | (go_at_call 35; refine (isizeText_any z _ HP.out).mono ?_; rintro e w2 ⟨rfl, hb2⟩; have y0 : w2.cell? ⟨w.heap.size, 0, none⟩ = some (.string n) := (cell_below hb2 HL.out).trans d0; have y1 : w2.cell? ⟨w.heap.size, 1, none⟩ = some (.int .i64 z) := (cell_below hb2 HL.out).trans d1; have y2 : w2.cell? ⟨w.heap.size, 2, none⟩ = some (.string k) := (cell_below hb2 HL.out).trans d2; have y3 : w2.cell? ⟨w.heap.size, 3, none⟩ = some (.bool x) := (cell_below hb2 HL.out).trans d3)
        | (go_at_call 36; refine (sharing_any x _).mono ?_; rintro e w3 ⟨rfl, rfl⟩)
        | (go_at_call 34; refine (worded_laid [wClaim, n, szText z, k, wShare x] 5 _ _ rfl (by decide) HJ.out).mono ?_; rintro e w4 ⟨rfl, hb4⟩; have x0 : w4.cell? ⟨w.heap.size, 0, none⟩ = some (.string n) := (cell_below hb4 (Nat.lt_of_lt_of_le HL.out hb2.size)).trans y0; have x1 : w4.cell? ⟨w.heap.size, 1, none⟩ = some (.int .i64 z) := (cell_below hb4 (Nat.lt_of_lt_of_le HL.out hb2.size)).trans y1; have x2 : w4.cell? ⟨w.heap.size, 2, none⟩ = some (.string k) := (cell_below hb4 (Nat.lt_of_lt_of_le HL.out hb2.size)).trans y2; have x3 : w4.cell? ⟨w.heap.size, 3, none⟩ = some (.bool x) := (cell_below hb4 (Nat.lt_of_lt_of_le HL.out hb2.size)).trans y3))
    all_goals (
      have HB4 := hidK (HV.out.trans ((below_drewT hb2 HV.out.size).trans (hb4.mono (Nat.le_trans HV.out.size hb2.size))))
      clear hb2 hb4
      go_wp2_with fail
      go_ret
      exact ⟨ret_str (claimX_yes HY.out), HB4.out⟩)
  · have hve := isE_no hv0
    have hne := Wd.ne W
    refine wp_region_wide (by kernel_rfl) (by kernel_rfl) ?_
    repeat (go_big_quiet_step (first | (go_at_call 26; exact Calls.wide (HC.out _)) | (go_at_call 33; exact Calls.wide (HT'.out _))))
    refine wpQuiet_nil ?_
    rintro _ ⟨i, rfl⟩
    have HN := hidK hv0
    clear hv0
    go_wp2_with fail
    go_ret
    exact ⟨ret_str (claimX_no fun h => HN.out h.2), HB.out.trans (i.b.mono HB.out.size)⟩

def DigAt (s : ByteArray) (p : Nat) (n : Int) : Prop := p ≤ s.size ∧ (∀ j (h : j < s.size), j < p → isDig (s[j]'h)) ∧ n = (val (s.data.toList.take p) : Nat)
theorem list_at (s : ByteArray) (j : Nat) (h : j < s.size) : s.data.toList[j]'(by rw [← Lib.size_eq]; exact h) = s[j]'h := by
  rw [Array.getElem_toList]; rfl
theorem DigAt.zero (s : ByteArray) : DigAt s 0 0 := ⟨Nat.zero_le _, fun j _ h => by omega, by simp [val]⟩
theorem DigAt.step {s : ByteArray} {p : Nat} {n : Int} (h : DigAt s p n) (hp : p < s.size) (h1 : 48 ≤ ((s[p]'hp).toNat : Int)) (h2 : ((s[p]'hp).toNat : Int) ≤ 57) : DigAt s (p + 1) (10 * n + (((s[p]'hp).toNat : Int) - 48)) := by
  obtain ⟨a, b, c⟩ := h
  refine ⟨by omega, fun j hj hk => ?_, ?_⟩
  · by_cases e : j = p
    · subst e; unfold isDig; omega
    · exact b j hj (by omega)
  · rw [val_take_succ _ _ (by rw [← Lib.size_eq]; exact hp), list_at s p hp]
    omega
theorem DigAt.nonneg {s : ByteArray} {p : Nat} {n : Int} (h : DigAt s p n) : 0 ≤ n := by have := h.2.2; omega
theorem DigAt.bd {s : ByteArray} {p : Nat} {n : Int} (h : DigAt s p n) (h9 : s.size ≤ 9) : n < 1000000000 := by
  obtain ⟨a, b, c⟩ := h
  have h1 : val (s.data.toList.take p) < 10 ^ (s.data.toList.take p).length := val_lt _ fun x hx => by
    obtain ⟨j, hj, rfl⟩ := List.mem_iff_getElem.1 hx
    rw [List.getElem_take]
    rw [List.length_take] at hj
    have hj2 : j < s.size := by omega
    rw [list_at s j hj2]
    exact b j hj2 (by omega)
  have h2 : (s.data.toList.take p).length ≤ 9 := by rw [List.length_take, ← Lib.size_eq]; omega
  have h3 : 10 ^ (s.data.toList.take p).length ≤ 10 ^ 9 := Nat.pow_le_pow_right (by decide) h2
  omega
theorem DigAt.all {s : ByteArray} {n : Int} (h : DigAt s s.size n) : n = (val s.data.toList : Nat) := by
  rw [h.2.2, List.take_of_length_le (by rw [← Lib.size_eq]; exact Nat.le_refl _)]
def IsDec (s : ByteArray) (k : Nat) : Prop := s.data.toList = Lib.decDigits k
theorem IsDec.dig {s : ByteArray} {k : Nat} (h : IsDec s k) (j : Nat) (hj : j < s.size) : 48 ≤ ((s[j]'hj).toNat : Int) ∧ ((s[j]'hj).toNat : Int) ≤ 57 := by
  have := dec_dig k (s[j]'hj) (by rw [← list_at s j hj, ← h]; exact List.getElem_mem _)
  unfold isDig at this; omega
theorem IsDec.pos {s : ByteArray} {k : Nat} (h : IsDec s k) : 0 < s.size := by
  rw [Lib.size_eq, h]; exact List.length_pos_iff.2 (dec_ne k)
theorem IsDec.head {s : ByteArray} {k : Nat} (h : IsDec s k) (hs : 1 < s.size) (h0 : 0 < s.size) : ¬ ((s[0]'h0).toNat : Int) = 48 := by
  intro e
  have h1 := dec_head k (by rw [← h, ← Lib.size_eq]; exact hs)
  apply h1
  rw [← h, List.getElem?_eq_getElem (by rw [← Lib.size_eq]; exact h0), list_at s 0 h0]
  congr 1
  apply UInt8.toNat_inj.1
  have : (48 : UInt8).toNat = 48 := rfl
  omega
theorem IsDec.val {s : ByteArray} {k : Nat} (h : IsDec s k) : Go.Proofs.YtfhlhckjgdmgkaaGreatDoor.val s.data.toList = k := by rw [h, dec_val]
theorem IsDec.le {s : ByteArray} {k p : Nat} {n : Int} (h : IsDec s k) (hd : DigAt s p n) : n ≤ k := by
  have := val_take_le s.data.toList p
  rw [h.val] at this
  rw [hd.2.2]; omega

def PnIs (s : ByteArray) (m c : Int) (b : Bool) : Prop := 0 ≤ c ∧ c ≤ m ∧ ∀ k : Nat, IsDec s k → (k : Int) ≤ m → c = k ∧ b = true
def PnAns (s : ByteArray) (m : Int) (w : World) (e : Ending) (w' : World) : Prop := ∃ c b, e = .returned (.tuple #[.int .i64 c, .bool b]) ∧ PnIs s m c b ∧ Below w.heap.size w w'
theorem pn_no {s : ByteArray} {m : Int} (hm : 0 ≤ m) (h : ∀ k : Nat, IsDec s k → (k : Int) ≤ m → False) : PnIs s m 0 false := ⟨Int.le_refl _, hm, fun k h1 h2 => (h k h1 h2).elim⟩
theorem pn_yes {s : ByteArray} {m n : Int} (h : DigAt s s.size n) (hm : n ≤ m) : PnIs s m n true := ⟨h.nonneg, hm, fun k h1 _ => ⟨by rw [h.all, h1.val], rfl⟩⟩

theorem decide_high_rune (s : ByteArray) (p : Nat) (hp : p < s.size) (h : 128 ≤ (s[p]'hp).toNat) : 57 < ((Utf8.decode s p).1 : Int) := by
  have := (decode_high s p hp h).1
  omega
theorem toList_ne {s : ByteArray} (h : 0 < s.size) : s.toList.isEmpty = false := by
  rw [Lib.toList_data]
  cases e : s.data.toList with
  | nil => rw [Lib.size_eq, e] at h; simp at h
  | cons a l => rfl
theorem mono_step {s : ByteArray} {p : Nat} {n m : Int} (h : DigAt s p n) (hm : m < n) (k : Nat) (hk : IsDec s k) (h2 : (k : Int) ≤ m) : False := by
  have := hk.le h
  omega

set_option maxHeartbeats 1600000 in
theorem ipnum_any (s : ByteArray) (m : Int) (w : World) (hs : s.size ≤ 8000) (hm : 0 ≤ m) (hm2 : m ≤ 1048576) :
    Calls Tryz.prog 93 #[.string s, .int .i64 m] w (PnAns s m w) := by
  by_cases h0 : s = ⟨#[]⟩
  · subst h0
    have HP : Hid (PnIs ⟨#[]⟩ m 0 false) := pn_no hm fun k h1 _ => absurd h1.pos (by decide)
    go_enter Tryz.func93, Tryz.ntmps93
    go_wp2
    exact bodyPost_ret (v := .tuple #[.int .i64 0, .bool false]) (by simp [results, Tryz.results93, go_sem]) rfl ⟨_, _, rfl, HP.out, Below.refl _ _⟩
  have h0' : 0 < s.size := by
    rcases Nat.eq_zero_or_pos s.size with h | h
    · exact absurd (bytes_ext (List.eq_nil_of_length_eq_zero (by rw [← Lib.size_eq]; exact h))) h0
    · exact h
  have hne := toList_ne h0'
  clear h0
  by_cases hA : ((s[0]'h0').toNat : Int) = 48 ∧ 1 < s.size
  · have HP : Hid (PnIs s m 0 false) := pn_no hm fun k h1 _ => absurd hA.1 (h1.head hA.2 h0')
    have hA1 : (((s[0]'h0').toNat : Int) == 48) = true := by simp [hA.1]
    have hA2 : decide (1 < (s.size : Int)) = true := by have := hA.2; simp; omega
    clear hA
    go_enter Tryz.func93, Tryz.ntmps93
    go_wp2
    exact bodyPost_ret (v := .tuple #[.int .i64 0, .bool false]) (by simp [results, Tryz.results93, go_sem]) rfl ⟨_, _, rfl, HP.out, Below.refl _ _⟩
  have hB : ((((s[0]'h0').toNat : Int) == 48) = true ∧ decide (1 < (s.size : Int)) = false) ∨ (((s[0]'h0').toNat : Int) == 48) = false := by
    by_cases h : ((s[0]'h0').toNat : Int) = 48
    · left; exact ⟨by simp [h], by simp; omega⟩
    · right; simp [h]
  clear hA
  rcases hB with ⟨hB1, hB2⟩ | hB1
  all_goals
    go_enter Tryz.func93, Tryz.ntmps93
    go_wp2
    go_loopw [6] (fun n wr => ∃ (p : Nat) (a : Int), wr = w.iter s p ∧ n = .int .i64 a ∧ DigAt s p a ∧ a ≤ m) (fun _ wr => s.size - wr.iterPos w.heap.size)
    case atStart => exact ⟨0, 0, rfl, rfl, DigAt.zero s, hm⟩
    case round =>
      obtain ⟨p, a, rfl, rfl, hd, ha⟩ := hrel
      have hd0 := hd.nonneg
      have HD : Hid (DigAt s p a) := hd
      clear hd
      by_cases hp : p < s.size
      · have hwp := w.iter_heap s p
        rcases (show (128 ≤ (s[p]'hp).toNat) ∨ ((s[p]'hp).toNat < 128 ∧ ((s[p]'hp).toNat : Int) < 48) ∨ ((s[p]'hp).toNat < 128 ∧ 57 < ((s[p]'hp).toNat : Int)) ∨ ((s[p]'hp).toNat < 128 ∧ 48 ≤ ((s[p]'hp).toNat : Int) ∧ ((s[p]'hp).toNat : Int) ≤ 57) by omega) with hx | ⟨hx, hy⟩ | ⟨hx, hy⟩ | ⟨hx, hy, hz⟩
        · have HP : Hid (PnIs s m 0 false) := pn_no hm fun k h1 _ => by have := h1.dig p hp; omega
          have hr := (decide_high_rune s p hp hx)
          have hnx : ∀ ty, (Instr.next (.pointer (some ⟨w.heap.size, 0, none⟩)) true ty).run Tryz.prog (w.iter s p) = _ := fun ty => run_next_any w s p ty hp
          generalize (Utf8.decode s p).1 = rr at hnx hr
          go_wp2
          exact bodyPost_ret (v := .tuple #[.int .i64 0, .bool false]) (by simp [results, Tryz.results93, go_sem]) rfl ⟨_, _, rfl, HP.out, (Below.refl _ _).alloc (Nat.le_refl _) _⟩
        · have HP : Hid (PnIs s m 0 false) := pn_no hm fun k h1 _ => by have := h1.dig p hp; omega
          have hnx : ∀ ty, (Instr.next (.pointer (some ⟨w.heap.size, 0, none⟩)) true ty).run Tryz.prog (w.iter s p) = _ := fun ty => run_next_ascii w s p ty hp hx
          go_wp2
          exact bodyPost_ret (v := .tuple #[.int .i64 0, .bool false]) (by simp [results, Tryz.results93, go_sem]) rfl ⟨_, _, rfl, HP.out, (Below.refl _ _).alloc (Nat.le_refl _) _⟩
        · have HP : Hid (PnIs s m 0 false) := pn_no hm fun k h1 _ => by have := h1.dig p hp; omega
          have hnx : ∀ ty, (Instr.next (.pointer (some ⟨w.heap.size, 0, none⟩)) true ty).run Tryz.prog (w.iter s p) = _ := fun ty => run_next_ascii w s p ty hp hx
          go_wp2
          exact bodyPost_ret (v := .tuple #[.int .i64 0, .bool false]) (by simp [results, Tryz.results93, go_sem]) rfl ⟨_, _, rfl, HP.out, (Below.refl _ _).alloc (Nat.le_refl _) _⟩
        · have hnx : ∀ ty, (Instr.next (.pointer (some ⟨w.heap.size, 0, none⟩)) true ty).run Tryz.prog (w.iter s p) = _ := fun ty => run_next_ascii w s p ty hp hx
          by_cases hm3 : m < 10 * a + (((s[p]'hp).toNat : Int) - 48)
          · have HP : Hid (PnIs s m 0 false) := pn_no hm (mono_step (HD.out.step hp hy hz) hm3)
            go_wp2
            exact bodyPost_ret (v := .tuple #[.int .i64 0, .bool false]) (by simp [results, Tryz.results93, go_sem]) rfl ⟨_, _, rfl, HP.out, (Below.refl _ _).alloc (Nat.le_refl _) _⟩
          · go_wp2
            go_roundw
            case rel => exact ⟨p + 1, _, rfl, rfl, HD.out.step hp hy hz, by omega⟩
            case measure => simp; omega
      · have hnx : ∀ ty, (Instr.next (.pointer (some ⟨w.heap.size, 0, none⟩)) true ty).run Tryz.prog (w.iter s p) = _ := fun ty => run_next_end w s p ty hp
        have he : p = s.size := by have := HD.out.1; omega
        subst he
        go_wp2
        exact bodyPost_ret (v := .tuple #[.int .i64 a, .bool true]) (by simp [results, Tryz.results93, go_sem]) rfl ⟨_, _, rfl, pn_yes HD.out ha, (Below.refl _ _).alloc (Nat.le_refl _) _⟩

def NumIs (s : ByteArray) (v : Int) : Prop := -1 ≤ v ∧ v < 1000000000 ∧ ∀ k : Nat, IsDec s k → s.size ≤ 9 → v = k
theorem num_no {s : ByteArray} (h : ∀ k : Nat, IsDec s k → s.size ≤ 9 → False) : NumIs s (-1) := ⟨Int.le_refl _, by decide, fun k h1 h2 => (h k h1 h2).elim⟩
theorem num_yes {s : ByteArray} {n : Int} (h : DigAt s s.size n) (h9 : s.size ≤ 9) : NumIs s n := ⟨by have := h.nonneg; omega, h.bd h9, fun k h1 _ => by rw [h.all, h1.val]⟩

set_option maxHeartbeats 1600000 in
theorem snum_any (s : ByteArray) (w : World) (hs : s.size ≤ 9223372036854775807) :
    Calls Tryz.prog 82 #[.string s] w fun e w' => (∃ v, e = .returned (.int .i64 v) ∧ NumIs s v) ∧ w = w' := by
  by_cases h0 : s.size < 1
  · have HP : Hid (NumIs s (-1)) := num_no fun k h1 _ => by have := h1.pos; omega
    go_enter Tryz.func82, Tryz.ntmps82
    go_wp2
    go_ret
    exact ⟨⟨_, rfl, HP.out⟩, rfl⟩
  by_cases h9 : 9 < s.size
  · have HP : Hid (NumIs s (-1)) := num_no fun k h1 _ => by omega
    go_enter Tryz.func82, Tryz.ntmps82
    go_wp2
    go_ret
    exact ⟨⟨_, rfl, HP.out⟩, rfl⟩
  have h0' : 0 < s.size := by omega
  by_cases hA : ((s[0]'h0').toNat : Int) = 48 ∧ 1 < s.size
  · have HP : Hid (NumIs s (-1)) := num_no fun k h1 _ => absurd hA.1 (h1.head hA.2 h0')
    have hA1 : (((s[0]'h0').toNat : Int) == 48) = true := by simp [hA.1]
    have hA2 : decide (1 < (s.size : Int)) = true := by have := hA.2; simp; omega
    clear hA
    go_enter Tryz.func82, Tryz.ntmps82
    go_wp2
    go_ret
    exact ⟨⟨_, rfl, HP.out⟩, rfl⟩
  have hB : (decide (1 < (s.size : Int)) = true ∧ (((s[0]'h0').toNat : Int) == 48) = false) ∨ decide (1 < (s.size : Int)) = false := by
    by_cases h : 1 < s.size
    · left; exact ⟨by simp; omega, by simp; omega⟩
    · right; simp; omega
  clear hA
  rcases hB with ⟨hB1, hB2⟩ | hB1
  all_goals
    go_enter Tryz.func82, Tryz.ntmps82
    go_wp2
    clear hB1
    go_loop [3, 4] (fun n i => ∃ (p : Nat) (a : Int), i = .int .i64 p ∧ n = .int .i64 a ∧ DigAt s p a) (fun _ i => s.size - (intOf i).toNat)
    case atStart => exact ⟨0, 0, rfl, rfl, DigAt.zero s⟩
    case round =>
      obtain ⟨p, a, rfl, rfl, hd⟩ := hrel
      have hd0 := hd.nonneg
      have hd1 := hd.bd (by omega)
      have HD : Hid (DigAt s p a) := hd
      clear hd
      by_cases hp : p < s.size
      · rcases (show (((s[p]'hp).toNat : Int) < 48) ∨ (48 ≤ ((s[p]'hp).toNat : Int) ∧ 57 < ((s[p]'hp).toNat : Int)) ∨ (48 ≤ ((s[p]'hp).toNat : Int) ∧ ((s[p]'hp).toNat : Int) ≤ 57) by omega) with hy | ⟨hx, hy⟩ | ⟨hy, hz⟩
        · have HP : Hid (NumIs s (-1)) := num_no fun k h1 _ => by have := h1.dig p hp; omega
          go_wp2
          go_ret
          exact ⟨⟨_, rfl, HP.out⟩, rfl⟩
        · have HP : Hid (NumIs s (-1)) := num_no fun k h1 _ => by have := h1.dig p hp; omega
          go_wp2
          go_ret
          exact ⟨⟨_, rfl, HP.out⟩, rfl⟩
        · go_wp2
          go_round
          case rel => exact ⟨p + 1, _, by go_num, rfl, HD.out.step hp hy hz⟩
          case measure => simp [intOf]; omega
      · have he : p = s.size := by have := HD.out.1; omega
        subst he
        have HN : Hid (NumIs s a) := num_yes HD.out (by omega)
        go_wp2
        go_ret
        exact ⟨⟨_, rfl, HN.out⟩, rfl⟩

theorem slot3 {w x w1 : World} {v0 v1 v2 : Value} {T : TypeId} (hx : x.heap = (w.alloc (.cells #[v0, v1, v2] T)).heap) (ho : x.os = w.os) (ht : x.tape = w.tape) (hp : x.output = w.output) (hb : Below x.heap.size x w1) :
    w1.cell? ⟨w.heap.size, 0, none⟩ = some v0 ∧ w1.cell? ⟨w.heap.size, 1, none⟩ = some v1 ∧ w1.cell? ⟨w.heap.size, 2, none⟩ = some v2 ∧
    w1.frozen? ⟨w.heap.size, 0, none⟩ = false ∧ w1.frozen? ⟨w.heap.size, 1, none⟩ = false ∧ w1.frozen? ⟨w.heap.size, 2, none⟩ = false ∧ Below w.heap.size w w1 ∧ w.heap.size < w1.heap.size := by
  have hs : x.heap.size = w.heap.size + 1 := by rw [hx]; simp
  have hl : w.heap.size < x.heap.size := by omega
  have hblk : w1.heap[w.heap.size]? = some (.cells #[v0, v1, v2] T (0, 0)) := by
    rw [hb.block _ hl, hx]
    show (w.heap.push _)[w.heap.size]? = _
    simp
  have hw : Below w.heap.size w w1 := ⟨hb.os.trans ho, hb.tape.trans ht, hb.output.trans hp, by have := hb.size; omega, fun k hk => by
    rw [hb.block k (by omega), hx]
    exact Below.heap_alloc _ _ _ hk⟩
  refine ⟨?_, ?_, ?_, ?_, ?_, ?_, hw, by have := hb.size; omega⟩
  · simp [World.cell?, hblk]
  · simp [World.cell?, hblk]
  · simp [World.cell?, hblk]
  · simp [World.frozen?, hblk]
  · simp [World.frozen?, hblk]
  · simp [World.frozen?, hblk]

end Go.Proofs.YtfhlhckjgdmgkaaGreatDoor
