/-
  The drawing of numbers from bytes: whatever the bytes, a number below the bound; only the source's own block is written.
-/
import Derived.Test.YtjkgpkgbaapdmaaRows
import Derived.WalkKit
import Derived.WalkSpells
import Derived.OwnWalk
import Derived.Outline
import Derived.RegionTactic
import Derived.BigRegion
import Derived.ChangeAlike
import Derived.Deep.QuietTactic
import Derived.BigQuiet
import Derived.Laws.Rows
namespace Go.Proofs.Ytjkgpkgbaapdmaa
open Go.RowKit

theorem wp_forget {P : Program} {c : Code} {Q : Exit → Act → World → Prop} {a : Act} {w : World} (F : World → Prop) (hF : F w) (h : ∀ w2, F w2 → c.wp P Q a w2) : c.wp P Q a w := h w hF
theorem grown_trans {a b c : World} {row : Option Nat} (h : a.grownBy b row) (k : b.grownBy c row) : a.grownBy c row :=
  ⟨k.os.trans h.os, k.tape.trans h.tape, k.output.trans h.output, Nat.le_trans h.size k.size, fun i hi hne => (k.block i (Nat.lt_of_lt_of_le hi h.size) hne).trans (h.block i hi hne)⟩
theorem grown_set (w : World) (p i : Nat) (v : Value) : w.grownBy (w.setCell ⟨p, i, none⟩ v) (some p) :=
  ⟨rfl, rfl, rfl, by simp [World.setCell], fun k _ hk => Below.heap_setCell _ _ _ _ (fun e => hk (by simp [e]))⟩

theorem grown_drew {a b : World} {row : Option Nat} (h : a.grownBy b row) : a.grownBy b.drew row := ⟨h.os, h.tape, h.output, h.size, h.block⟩
theorem rem_bd (x most : Int) (h1 : 1 < most) (h2 : most ≤ 4611686018427387904) : 0 ≤ wrap64 ((IntKind.u64.wrap x).tmod most) ∧ wrap64 ((IntKind.u64.wrap x).tmod most) < most := by
  have e : IntKind.u64.wrap x = x % 18446744073709551616 := by simp [IntKind.wrap, IntKind.bits, IntKind.signed]
  have h0 : 0 ≤ IntKind.u64.wrap x := by rw [e]; omega
  rw [Int.tmod_eq_emod_of_nonneg h0]
  have b0 := Int.emod_nonneg (IntKind.u64.wrap x) (show most ≠ 0 by omega)
  have b1 := Int.emod_lt_of_pos (IntKind.u64.wrap x) (show 0 < most by omega)
  generalize IntKind.u64.wrap x % most = y at *
  simp only [wrap64]
  omega

/-- The source's block: the bytes, the place, the mix, the size. -/
def SrcBlk (w : World) (p : Nat) (b : Value) (k : Nat) (m sz : Int) : Prop := w.heap[p]? = some (.cells #[b, .int .i64 (k : Int), .int .u64 m, .int .i64 sz] 98 (0, 0))
theorem SrcBlk.cells {w : World} {p : Nat} {b : Value} {k : Nat} {m sz : Int} (h : SrcBlk w p b k m sz) :
    w.cell? ⟨p, 0, none⟩ = some b ∧ w.cell? ⟨p, 1, none⟩ = some (.int .i64 (k : Int)) ∧ w.cell? ⟨p, 2, none⟩ = some (.int .u64 m) ∧ w.cell? ⟨p, 3, none⟩ = some (.int .i64 sz) ∧
    w.frozen? ⟨p, 0, none⟩ = false ∧ w.frozen? ⟨p, 1, none⟩ = false ∧ w.frozen? ⟨p, 2, none⟩ = false ∧ w.frozen? ⟨p, 3, none⟩ = false := by
  unfold SrcBlk at h
  refine ⟨?_, ?_, ?_, ?_, ?_, ?_, ?_, ?_⟩ <;> simp [World.cell?, World.frozen?, h]
theorem SrcBlk.set1 {w : World} {p : Nat} {b : Value} {k : Nat} {m sz : Int} (h : SrcBlk w p b k m sz) (k' : Nat) : SrcBlk (w.setCell ⟨p, 1, none⟩ (.int .i64 (k' : Int))) p b k' m sz := Go.heap_setCell_same w p 1 _ _ _ h
theorem SrcBlk.set2 {w : World} {p : Nat} {b : Value} {k : Nat} {m sz : Int} (h : SrcBlk w p b k m sz) (m' : Int) : SrcBlk (w.setCell ⟨p, 2, none⟩ (.int .u64 m')) p b k m' sz := Go.heap_setCell_same w p 2 _ _ _ h
/-- A world behind some steps of a draw: the source stands at place k, with some mix; nothing else that was there has turned. -/
def SrcF (w0 : World) (p : Nat) (b : Value) (k : Nat) (sz : Int) (w : World) : Prop := ∃ m : Int, 0 ≤ m ∧ m ≤ 18446744073709551615 ∧ SrcBlk w p b k m sz ∧ w0.grownBy w (some p)
theorem xor64_bd (a b : Int) : 0 ≤ bits .xor .u64 a b ∧ bits .xor .u64 a b ≤ 18446744073709551615 := by
  have e : ∀ n : Int, IntKind.u64.wrap n = n % 18446744073709551616 := fun n => by simp [IntKind.wrap, IntKind.bits, IntKind.signed]
  simp only [bits, e]
  constructor <;> omega
theorem SrcF.mix {w0 : World} {p : Nat} {b : Value} {k : Nat} {sz : Int} {w : World} (h : SrcF w0 p b k sz w) (x y : Int) : SrcF w0 p b k sz (w.setCell ⟨p, 2, none⟩ (.int .u64 (bits .xor .u64 x y))).drew := by
  obtain ⟨m, _, _, h3, h4⟩ := h
  exact ⟨_, (xor64_bd x y).1, (xor64_bd x y).2, h3.set2 _, grown_drew (grown_trans h4 (grown_set w p 2 _))⟩
theorem SrcF.refl {w : World} {p : Nat} {b : Value} {k : Nat} {m sz : Int} (h : SrcBlk w p b k m sz) (h0 : 0 ≤ m) (h1 : m ≤ 18446744073709551615) (n : Nat) : SrcF w p b k sz (w.drewN n) :=
  ⟨m, h0, h1, h, ⟨rfl, rfl, rfl, Nat.le_refl _, fun _ _ _ => rfl⟩⟩
theorem SrcF.step {w : World} {p : Nat} {b : Value} {k : Nat} {m sz : Int} (h : SrcBlk w p b k m sz) (h0 : 0 ≤ m) (h1 : m ≤ 18446744073709551615) (n k' : Nat) (x : Int) (hx : x = (k' : Int)) : SrcF w p b k' sz ((w.drewN n).setCell ⟨p, 1, none⟩ (.int .i64 x)) := by
  subst hx
  exact ⟨m, h0, h1, SrcBlk.set1 (w := w.drewN n) h k', grown_trans (b := w.drewN n) ⟨rfl, rfl, rfl, Nat.le_refl _, fun _ _ _ => rfl⟩ (grown_set _ p 1 _)⟩

/-- A number was drawn: below most (or 0). -/
def NumAns (most : Int) (w : World) (p : Nat) (b : Value) (len : Nat) (sz : Int) (e : Ending) (w' : World) : Prop := ∃ (r : Int) (k : Nat), e = .returned (.int .i64 r) ∧ 0 ≤ r ∧ (r < most ∨ r = 0) ∧ k ≤ len ∧ SrcF w p b k sz w'

set_option maxHeartbeats 3200000 in
theorem src_n_over (p : Nat) (a0 : Option Addr) (len cap k : Nat) (most mix sz : Int) (w : World) (hm : 1 < most) (hm2 : most ≤ 4611686018427387904) (hb : SrcBlk w p (.slice a0 len cap) k mix sz) (m0 : 0 ≤ mix) (m1 : mix ≤ 18446744073709551615) (hat : ¬ (k : Int) < (len : Int)) (hk : k ≤ len) :
    Calls Try.prog 38 #[.pointer (some ⟨p, 0, none⟩), .int .i64 most] w (NumAns most w p (.slice a0 len cap) len sz) := by
  obtain ⟨c0, c1, c2, c3, f0, f1, f2, f3⟩ := hb.cells
  have HB : Hid (SrcBlk w p (.slice a0 len cap) k mix sz) := hb
  clear hb
  go_enter Try.func38, Try.ntmps38
  go_wp2
  go_quiet (fail)
  go_wp2
  refine wp_forget (SrcF w p (.slice a0 len cap) k sz) (SrcF.refl HB.out m0 m1 _) ?_
  clear c0 c1 c2 c3 f0 f1 f2 f3 HB m0 m1 mix
  rintro w2 hF
  have HF : Hid (SrcF w p (.slice a0 len cap) k sz w2) := hF
  obtain ⟨m, m0, m1, hb, -⟩ := hF
  obtain ⟨c0, c1, c2, c3, f0, f1, f2, f3⟩ := hb.cells
  clear hb
  go_region
  go_wp2
  refine wp_forget (SrcF w p (.slice a0 len cap) k sz) (HF.out.mix _ _) ?_
  clear c0 c1 c2 c3 f0 f1 f2 f3 HF m0 m1
  clear w2
  rintro w2 hF
  have HF : Hid (SrcF w p (.slice a0 len cap) k sz w2) := hF
  obtain ⟨m, m0, m1, hb, -⟩ := hF
  obtain ⟨c0, c1, c2, c3, f0, f1, f2, f3⟩ := hb.cells
  clear hb
  go_region
  go_wp2
  refine wp_forget (SrcF w p (.slice a0 len cap) k sz) (HF.out.mix _ _) ?_
  clear c0 c1 c2 c3 f0 f1 f2 f3 HF m0 m1
  clear w2
  rintro w2 hF
  have HF : Hid (SrcF w p (.slice a0 len cap) k sz w2) := hF
  obtain ⟨m, m0, m1, hb, -⟩ := hF
  obtain ⟨c0, c1, c2, c3, f0, f1, f2, f3⟩ := hb.cells
  clear hb
  go_region
  go_wp2_with fail
  go_ret
  exact ⟨_, k, rfl, (rem_bd _ most hm hm2).1, .inl (rem_bd _ most hm hm2).2, hk, HF.out.mix _ _⟩

set_option maxHeartbeats 3200000 in
theorem src_n_in (p b off : Nat) (len cap k : Nat) (most mix sz z : Int) (w : World) (hm : 1 < most) (hm2 : most ≤ 4611686018427387904) (hb : SrcBlk w p (.slice (some ⟨b, off, none⟩) len cap) k mix sz) (m0 : 0 ≤ mix) (m1 : mix ≤ 18446744073709551615) (hat : (k : Int) < (len : Int)) (hl : len ≤ 140737488355328) (hz : w.cell? ⟨b, off + k, none⟩ = some (.int .u8 z)) (z0 : 0 ≤ z) (z1 : z ≤ 255) :
    Calls Try.prog 38 #[.pointer (some ⟨p, 0, none⟩), .int .i64 most] w (NumAns most w p (.slice (some ⟨b, off, none⟩) len cap) len sz) := by
  obtain ⟨c0, c1, c2, c3, f0, f1, f2, f3⟩ := hb.cells
  have HB : Hid (SrcBlk w p (.slice (some ⟨b, off, none⟩) len cap) k mix sz) := hb
  have hat' : k < len := by omega
  clear hb
  go_enter Try.func38, Try.ntmps38
  go_wp2
  go_quiet (fail)
  go_wp2
  go_quiet (fail)
  go_wp2
  refine wp_forget (SrcF w p (.slice (some ⟨b, off, none⟩) len cap) (k + 1) sz) (SrcF.step HB.out m0 m1 _ (k + 1) _ (by omega)) ?_
  clear c0 c1 c2 c3 f0 f1 f2 f3 HB m0 m1 hz
  clear mix
  rintro w2 hF
  have HF : Hid (SrcF w p (.slice (some ⟨b, off, none⟩) len cap) (k + 1) sz w2) := hF
  obtain ⟨m, m0, m1, hb, -⟩ := hF
  obtain ⟨c0, c1, c2, c3, f0, f1, f2, f3⟩ := hb.cells
  clear hb
  go_region
  go_wp2
  refine wp_forget (SrcF w p (.slice (some ⟨b, off, none⟩) len cap) (k + 1) sz) (HF.out.mix _ _) ?_
  clear c0 c1 c2 c3 f0 f1 f2 f3 HF m0 m1
  clear w2
  rintro w2 hF
  have HF : Hid (SrcF w p (.slice (some ⟨b, off, none⟩) len cap) (k + 1) sz w2) := hF
  obtain ⟨m, m0, m1, hb, -⟩ := hF
  obtain ⟨c0, c1, c2, c3, f0, f1, f2, f3⟩ := hb.cells
  clear hb
  go_region
  go_wp2
  refine wp_forget (SrcF w p (.slice (some ⟨b, off, none⟩) len cap) (k + 1) sz) (HF.out.mix _ _) ?_
  clear c0 c1 c2 c3 f0 f1 f2 f3 HF m0 m1
  clear w2
  rintro w2 hF
  have HF : Hid (SrcF w p (.slice (some ⟨b, off, none⟩) len cap) (k + 1) sz w2) := hF
  obtain ⟨m, m0, m1, hb, -⟩ := hF
  obtain ⟨c0, c1, c2, c3, f0, f1, f2, f3⟩ := hb.cells
  clear hb
  go_region
  go_wp2_with fail
  go_ret
  exact ⟨_, k + 1, rfl, (rem_bd _ most hm hm2).1, .inl (rem_bd _ most hm hm2).2, by omega, HF.out.mix _ _⟩

/-- The bytes that came in, below block B. -/
def RowIn (B : Nat) (w : World) (v : Value) (len : Nat) : Prop := len ≤ 140737488355328 ∧ ∃ a0 cap, v = .slice a0 len cap ∧ ∀ j, j < len → ∃ (b off : Nat) (z : Int), a0 = some ⟨b, off, none⟩ ∧ b < B ∧ w.cell? ⟨b, off + j, none⟩ = some (.int .u8 z) ∧ 0 ≤ z ∧ z ≤ 255
theorem RowIn.below {B : Nat} {w w' : World} {v : Value} {len : Nat} (h : RowIn B w v len) (hb : Below B w w') : RowIn B w' v len := by
  obtain ⟨hl, a0, cap, hv, hc⟩ := h
  refine ⟨hl, a0, cap, hv, fun j hj => ?_⟩
  obtain ⟨b, off, z, h1, h2, h3, h4⟩ := hc j hj
  exact ⟨b, off, z, h1, h2, (hb.cell (p := ⟨b, off + j, none⟩) h2).trans h3, h4⟩
theorem grown_below {B p : Nat} {w w' : World} (h : w.grownBy w' (some p)) (hB : B ≤ p) (hw : B ≤ w.heap.size) : Below B w w' :=
  ⟨h.os, h.tape, h.output, h.size, fun k hk => h.block k (by omega) (fun e => by simp at e; omega)⟩

set_option maxHeartbeats 800000 in
theorem src_n_small (p : Nat) (most : Int) (w : World) (hm : most ≤ 1) :
    Calls Try.prog 38 #[.pointer (some ⟨p, 0, none⟩), .int .i64 most] w fun e w' => e = .returned (.int .i64 0) ∧ w = w' := by
  go_enter Try.func38, Try.ntmps38
  go_wp2
  go_ret
  exact ⟨rfl, rfl⟩

/-- A draw, from whatever source. -/
theorem src_n (B p len k : Nat) (v : Value) (most mix sz : Int) (w : World) (hm2 : most ≤ 4611686018427387904) (hb : SrcBlk w p v k mix sz) (m0 : 0 ≤ mix) (m1 : mix ≤ 18446744073709551615) (hk : k ≤ len) (hR : RowIn B w v len) :
    Calls Try.prog 38 #[.pointer (some ⟨p, 0, none⟩), .int .i64 most] w (NumAns most w p v len sz) := by
  obtain ⟨hl, a0, cap, rfl, hc⟩ := hR
  by_cases hm : most ≤ 1
  · refine (src_n_small p most w hm).mono ?_
    rintro e w' ⟨rfl, rfl⟩
    exact ⟨0, k, rfl, Int.le_refl _, .inr rfl, hk, ⟨mix, m0, m1, hb, ⟨rfl, rfl, rfl, Nat.le_refl _, fun _ _ _ => rfl⟩⟩⟩
  by_cases hat : k < len
  · obtain ⟨b, off, z, rfl, _, hz, z0, z1⟩ := hc k hat
    exact src_n_in p b off len cap k most mix sz z w (by omega) hm2 hb m0 m1 (by omega) hl hz z0 z1
  · exact src_n_over p a0 len cap k most mix sz w (by omega) hm2 hb m0 m1 (by omega) hk

/-- A source at work: its block from B on, the bytes below B. -/
def Src (B : Nat) (w0 : World) (p : Nat) (v : Value) (len : Nat) (w : World) : Prop := B ≤ p ∧ B ≤ w0.heap.size ∧ Below B w0 w ∧ p < w.heap.size ∧ RowIn B w v len ∧ ∃ (k : Nat) (m sz : Int), k ≤ len ∧ 0 ≤ m ∧ m ≤ 18446744073709551615 ∧ 0 ≤ sz ∧ sz ≤ 12 ∧ SrcBlk w p v k m sz
/-- A number was drawn, and the source goes on. -/
def Drew (B : Nat) (w0 : World) (p : Nat) (v : Value) (len : Nat) (w : World) (most : Int) (e : Ending) (w' : World) : Prop := ∃ r : Int, e = .returned (.int .i64 r) ∧ 0 ≤ r ∧ (r < most ∨ r = 0) ∧ Src B w0 p v len w' ∧ w.grownBy w' (some p)
theorem Src.n {B : Nat} {w0 : World} {p : Nat} {v : Value} {len : Nat} {w : World} (h : Src B w0 p v len w) (most : Int) (hm2 : most ≤ 4611686018427387904) :
    Calls Try.prog 38 #[.pointer (some ⟨p, 0, none⟩), .int .i64 most] w (Drew B w0 p v len w most) := by
  obtain ⟨hB, hB0, hbel, hp, hR, k, m, sz, hk, m0, m1, s0, s1, hb⟩ := h
  refine (src_n B p len k v most m sz w hm2 hb m0 m1 hk hR).mono ?_
  rintro e w' ⟨r, k', rfl, r0, r1, hk', m', m0', m1', hb', hg⟩
  have hbw : Below B w w' := grown_below hg hB (Nat.le_trans hB0 hbel.size)
  exact ⟨r, rfl, r0, r1, ⟨hB, hB0, hbel.trans hbw, Nat.lt_of_lt_of_le hp hg.size, hR.below hbw, k', m', sz, hk', m0', m1', s0, s1, hb'⟩, hg⟩

end Go.Proofs.Ytjkgpkgbaapdmaa
