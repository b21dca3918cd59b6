/-
  Draws: one of some texts, a size; a source at work among new blocks.
-/
import Derived.Test.YtjkgpkgbaapdmaaDraw2
import Derived.Test.YtjkgpkgbaapdmaaKLaw
import Derived.Deep.RegionWith
namespace Go.Proofs.Ytjkgpkgbaapdmaa
open Go.RowKit
namespace Dk

/-- Some number was drawn. -/
def DrewI (B : Nat) (w0 : World) (p : Nat) (v : Value) (len : Nat) (w : World) (e : Ending) (w' : World) : Prop := ∃ x : Int, e = .returned (.int .i64 x) ∧ -9223372036854775808 ≤ x ∧ x ≤ 9223372036854775807 ∧ Src B w0 p v len w' ∧ w.grownBy w' (some p)
theorem ints_at (l : List Int) (hall : ∀ x ∈ l, -9223372036854775808 ≤ x ∧ x ≤ 9223372036854775807) (k : Nat) (h : k < l.length) : ∃ x : Int, (l.map (Value.int .i64))[k]? = some (.int .i64 x) ∧ -9223372036854775808 ≤ x ∧ x ≤ 9223372036854775807 :=
  ⟨l[k], by simp [h], hall _ (List.getElem_mem h)⟩
def sizeL : List Int := [0, 1, 1023, 1024, 2048, 1048576, 1048577, -1024]

set_option maxHeartbeats 1600000 in
theorem l02Size_any {B : Nat} {w0 : World} {p : Nat} {v : Value} {len : Nat} {w : World} (h : Src B w0 p v len w) :
    Calls Try.prog 74 #[.pointer (some ⟨p, 0, none⟩)] w (DrewI B w0 p v len w) := by
  have H1 : Hid (Calls Try.prog 40 #[.pointer (some ⟨p, 0, none⟩), .int .i64 6] w (DrewBool B w0 p v len w)) := one_any h 6 (by decide)
  clear h
  go_enter Try.func74, Try.ntmps74
  go_wp2_with fail
  refine H1.out.mono ?_
  rintro e w1 ⟨he, hS1, hg1⟩
  have HS1 : Hid (Src B w0 p v len w1) := hS1
  have HG1 : Hid (w.grownBy w1 (some p)) := hg1
  clear hS1 hg1 H1
  rcases he with rfl | rfl
  · go_wp2_with fail
    have hS0 := HS1.out.keep (grown_alloc w1 (.cells (sizeL.map (Value.int .i64)).toArray 2) none) (by simp) (fun k hk => by cases hk)
    refine (hS0.n 8 (by decide)).mono ?_
    rintro e w2 ⟨r, rfl, r0, r1, hS2, hg2⟩
    obtain ⟨k, rfl⟩ := Int.eq_ofNat_of_zero_le r0
    have hk : k < 8 := by omega
    obtain ⟨x, hx, x0, x1⟩ := ints_at sizeL (by decide) k hk
    have hpw : p < w1.heap.size := HS1.out.plt
    have hblk : w2.heap[w1.heap.size]? = some (.cells (sizeL.map (Value.int .i64)).toArray 2 (0, 0)) := by
      rw [hg2.block w1.heap.size (by simp) (fun e => by simp at e; omega)]
      show (w1.heap.push _)[w1.heap.size]? = _
      simp
    have hc : w2.cell? ⟨w1.heap.size, k, none⟩ = some (.int .i64 x) := by
      simp only [World.cell?, hblk]
      simpa using hx
    have HS2 : Hid (Src B w0 p v len w2) := hS2
    have HG : Hid (w.grownBy w2 (some p)) := grown_trans HG1.out (grown_trans (grown_alloc w1 _ _) hg2)
    have hki : (k : Int) < 8 := by omega
    clear hS0 hS2 hg2 hblk hx HS1 HG1 r1 r0
    go_wp2
    go_ret
    exact ⟨x, rfl, x0, x1, HS2.out, HG.out⟩
  · go_wp2_with fail
    refine (HS1.out.n 90 (by decide)).mono ?_
    rintro e w2 ⟨r, rfl, r0, r1, hS2, hg2⟩
    have HS2 : Hid (Src B w0 p v len w2) := hS2
    have HG2 : Hid (w.grownBy w2 (some p)) := grown_trans HG1.out hg2
    have hr : r ≤ 90 := by omega
    clear hS2 hg2 HS1 HG1 r1
    go_wp2
    go_ret
    exact ⟨1 + r, rfl, by omega, by omega, HS2.out, HG2.out⟩

/-- Some text, no longer than n, was drawn. -/
def DrewS (B : Nat) (w0 : World) (p : Nat) (v : Value) (len : Nat) (w : World) (n : Nat) (e : Ending) (w' : World) : Prop := ∃ t : ByteArray, e = .returned (.string t) ∧ t.size ≤ n ∧ Src B w0 p v len w' ∧ w.grownBy w' (some p)

set_option maxHeartbeats 1600000 in
theorem pick_any {B : Nat} {w0 : World} {p : Nat} {v : Value} {len : Nat} {w : World} (h : Src B w0 p v len w) (b n : Nat) (ss : List ByteArray) (T : TypeId) (hb : w.heap[b]? = some (.cells (ss.map Value.string).toArray T (0, 0))) (hbp : ¬ b = p) (hn : ss.length = n) (h0 : 0 < n) (h1 : n ≤ 100) (hz : ∀ x ∈ ss, x.size ≤ 100) :
    Calls Try.prog 51 #[.pointer (some ⟨p, 0, none⟩), .slice (some ⟨b, 0, none⟩) n n] w (DrewS B w0 p v len w 100) := by
  have HS : Hid (Src B w0 p v len w) := h
  have HB : Hid (w.heap[b]? = some (.cells (ss.map Value.string).toArray T (0, 0))) := hb
  have HZ : Hid (∀ x ∈ ss, x.size ≤ 100) := hz
  clear h hb hz
  go_enter Try.func51, Try.ntmps51
  go_wp2_with fail
  refine (HS.out.n n (by omega)).mono ?_
  rintro e w1 ⟨r, rfl, r0, r1, hS1, hg1⟩
  obtain ⟨k, rfl⟩ := Int.eq_ofNat_of_zero_le r0
  have hk : k < n := by omega
  have hblk : w1.heap[b]? = some (.cells (ss.map Value.string).toArray T (0, 0)) := by
    rw [hg1.block b (by
      rcases Nat.lt_or_ge b w.heap.size with h' | h'
      · exact h'
      · have := HB.out; rw [Array.getElem?_eq_none h'] at this; cases this) (fun e => by simp at e; omega)]
    exact HB.out
  have hkl : k < ss.length := by omega
  have hc : w1.cell? ⟨b, k, none⟩ = some (.string ss[k]) := by
    simp [World.cell?, hblk, hkl]
  have HX : Hid ((ss[k]).size ≤ 100) := HZ.out _ (List.getElem_mem hkl)
  have HS1 : Hid (Src B w0 p v len w1) := hS1
  have HG1 : Hid (w.grownBy w1 (some p)) := hg1
  clear hS1 hg1 hblk HS HB HZ r1 r0
  generalize ss[k] = x at hc HX
  go_wp2
  go_ret
  exact ⟨x, rfl, HX.out, HS1.out, HG1.out⟩

/-- A source at work since the world wa: all but its block and what is new stands. -/
structure Dr (B : Nat) (w0 : World) (p : Nat) (v : Value) (len : Nat) (wa w : World) : Prop where
  src : Src B w0 p v len w
  gr : wa.grownBy w (some p)
  lt : p < wa.heap.size
theorem Dr.start {B : Nat} {w0 : World} {p : Nat} {v : Value} {len : Nat} {w : World} (h : Src B w0 p v len w) : Dr B w0 p v len w w := ⟨h, ⟨rfl, rfl, rfl, Nat.le_refl _, fun _ _ _ => rfl⟩, h.plt⟩
theorem Dr.size {B : Nat} {w0 : World} {p : Nat} {v : Value} {len : Nat} {wa w : World} (h : Dr B w0 p v len wa w) : wa.heap.size ≤ w.heap.size := h.gr.size
theorem Dr.alloc {B : Nat} {w0 : World} {p : Nat} {v : Value} {len : Nat} {wa w : World} (h : Dr B w0 p v len wa w) (o : Obj) : Dr B w0 p v len wa (w.alloc o) :=
  ⟨h.src.keep (grown_alloc w o none) (by simp) (fun k hk => by cases hk), grown_trans h.gr (grown_alloc w o _), h.lt⟩
theorem Dr.set {B : Nat} {w0 : World} {p : Nat} {v : Value} {len : Nat} {wa w : World} (h : Dr B w0 p v len wa w) {b i : Nat} (x : Value) (hb : wa.heap.size ≤ b) : Dr B w0 p v len wa (w.setCell ⟨b, i, none⟩ x) := by
  have hl := h.lt
  have hB : B ≤ p := h.src.1
  refine ⟨h.src.keep (grown_set w b i x) (fun e => by simp at e; omega) (fun k hk => by simp at hk; omega), ?_, h.lt⟩
  exact grown_app h.gr (grown_set w b i x) (fun k hk => by simp at hk; omega)
theorem Dr.next {B : Nat} {w0 : World} {p : Nat} {v : Value} {len : Nat} {wa w w' : World} (h : Dr B w0 p v len wa w) (hs : Src B w0 p v len w') (hg : w.grownBy w' (some p)) : Dr B w0 p v len wa w' := ⟨hs, grown_trans h.gr hg, h.lt⟩
theorem Dr.below {B : Nat} {w0 : World} {p : Nat} {v : Value} {len : Nat} {wa w w' : World} (h : Dr B w0 p v len wa w) (hb : Below w.heap.size w w') : Dr B w0 p v len wa w' :=
  ⟨h.src.keep (row := none) ⟨hb.os, hb.tape, hb.output, hb.size, fun k hk _ => hb.block k hk⟩ (by simp) (fun k hk => by cases hk), grown_trans h.gr ⟨hb.os, hb.tape, hb.output, hb.size, fun k hk _ => hb.block k hk⟩, h.lt⟩
/-- A block that is not the source's stands. -/
theorem gk {w w' : World} {p k : Nat} {o : Obj} (hg : w.grownBy w' (some p)) (hn : ¬ k = p) (h : w.heap[k]? = some o) : w'.heap[k]? = some o :=
  (hg.block k (lt_of_some h) (fun e => hn (by simpa using e))).trans h

theorem pick_new {B : Nat} {w0 : World} {p : Nat} {v : Value} {len : Nat} {w : World} (h : Src B w0 p v len w) (ss : List ByteArray) (n b : Nat) (T : TypeId) (hq : b = w.heap.size) (hn : ss.length = n) (h0 : 0 < n) (h1 : n ≤ 100) (hz : ∀ x ∈ ss, x.size ≤ 100) :
    Calls Try.prog 51 #[.pointer (some ⟨p, 0, none⟩), .slice (some ⟨b, 0, none⟩) n n] (w.alloc (.cells (ss.map Value.string).toArray T)) (DrewS B w0 p v len w 100) := by
  subst hq
  have h2 : Src B w0 p v len (w.alloc (.cells (ss.map Value.string).toArray T)) := h.keep (grown_alloc w _ none) (by simp) (fun k hk => by cases hk)
  refine (pick_any h2 w.heap.size n ss T Array.getElem?_push_size (by have := h.plt; omega) hn h0 h1 hz).mono ?_
  rintro e w' ⟨t, rfl, ht, hs, hg⟩
  exact ⟨t, rfl, ht, hs, grown_trans (grown_alloc w _ _) hg⟩

set_option maxHeartbeats 800000 in
theorem zone_any {B : Nat} {w0 : World} {p : Nat} {v : Value} {len : Nat} {w : World} (h : Src B w0 p v len w) :
    Calls Try.prog 76 #[.pointer (some ⟨p, 0, none⟩)] w (DrewS B w0 p v len w 100) := by
  have HS := hidK h
  clear h
  go_enter Try.func76, Try.ntmps76
  go_wp2_with fail
  refine (pick_new HS.out [⟨#[101, 97, 115, 116]⟩, ⟨#[119, 101, 115, 116]⟩] 2 _ _ rfl rfl (by decide) (by decide) (by decide)).mono ?_
  rintro e w1 ⟨t, rfl, ht, hs, hg⟩
  have HR : Hid (t.size ≤ 100 ∧ Src B w0 p v len w1 ∧ w.grownBy w1 (some p)) := ⟨ht, hs, hg⟩
  clear ht hs hg
  go_wp2_with fail
  go_ret
  exact ⟨t, rfl, HR.out⟩

set_option maxHeartbeats 800000 in
theorem bad_any {B : Nat} {w0 : World} {p : Nat} {v : Value} {len : Nat} {w : World} (h : Src B w0 p v len w) :
    Calls Try.prog 75 #[.pointer (some ⟨p, 0, none⟩)] w (DrewS B w0 p v len w 100) := by
  have HS := hidK h
  clear h
  go_enter Try.func75, Try.ntmps75
  go_wp2_with fail
  refine (pick_new HS.out [⟨#[]⟩, ⟨#[65]⟩, ⟨#[49, 50, 51]⟩] 3 _ _ rfl rfl (by decide) (by decide) (by decide)).mono ?_
  rintro e w1 ⟨t, rfl, ht, hs, hg⟩
  have HR : Hid (t.size ≤ 100 ∧ Src B w0 p v len w1 ∧ w.grownBy w1 (some p)) := ⟨ht, hs, hg⟩
  clear ht hs hg
  go_wp2_with fail
  go_ret
  exact ⟨t, rfl, HR.out⟩

set_option maxHeartbeats 800000 in
theorem zone4_any {B : Nat} {w0 : World} {p : Nat} {v : Value} {len : Nat} {w : World} (h : Src B w0 p v len w) :
    Calls Try.prog 41 #[.pointer (some ⟨p, 0, none⟩)] w (DrewS B w0 p v len w 100) := by
  have HS := hidK h
  clear h
  go_enter Try.func41, Try.ntmps41
  go_wp2_with fail
  refine (pick_new HS.out [⟨#[]⟩, ⟨#[101, 97, 115, 116]⟩, ⟨#[119, 101, 115, 116]⟩, ⟨#[65]⟩] 4 _ _ rfl rfl (by decide) (by decide) (by decide)).mono ?_
  rintro e w1 ⟨t, rfl, ht, hs, hg⟩
  have HR : Hid (t.size ≤ 100 ∧ Src B w0 p v len w1 ∧ w.grownBy w1 (some p)) := ⟨ht, hs, hg⟩
  clear ht hs hg
  go_wp2_with fail
  go_ret
  exact ⟨t, rfl, HR.out⟩

end Dk
end Go.Proofs.Ytjkgpkgbaapdmaa
