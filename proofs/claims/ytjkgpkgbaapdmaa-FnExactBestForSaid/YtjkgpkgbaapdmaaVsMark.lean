/-
  The marks written into a list of volumes of the call's own.
-/
import Derived.Test.YtjkgpkgbaapdmaaMark
import Derived.Test.YtjkgpkgbaapdmaaVList2
namespace Go.Proofs.Ytjkgpkgbaapdmaa
open Go.RowKit Mk

/-- All but the blocks of a span stands. -/
structure Span (X Y : Nat) (w w' : World) : Prop where
  os : w'.os = w.os
  tape : w'.tape = w.tape
  output : w'.output = w.output
  size : w.heap.size ≤ w'.heap.size
  block : ∀ k, k < w.heap.size → (k < X ∨ Y ≤ k) → w'.heap[k]? = w.heap[k]?
theorem Span.refl (X Y : Nat) (w : World) : Span X Y w w := ⟨rfl, rfl, rfl, Nat.le_refl _, fun _ _ _ => rfl⟩
theorem Span.trans {X Y : Nat} {a b c : World} (h : Span X Y a b) (k : Span X Y b c) : Span X Y a c := ⟨k.os.trans h.os, k.tape.trans h.tape, k.output.trans h.output, Nat.le_trans h.size k.size, fun i hi hn => (k.block i (Nat.lt_of_lt_of_le hi h.size) hn).trans (h.block i hi hn)⟩
theorem Span.below {X Y : Nat} {a b c : World} (h : Span X Y a b) (k : Below b.heap.size b c) : Span X Y a c := h.trans ⟨k.os, k.tape, k.output, k.size, fun i hi _ => k.block i hi⟩
theorem Span.set {X Y g i : Nat} {w w' : World} {v : Value} (h : Span X Y w w') (h1 : X ≤ g) (h2 : g < Y) : Span X Y w (w'.setCell ⟨g, i, none⟩ v) :=
  ⟨h.os, h.tape, h.output, by simpa [World.setCell] using h.size, fun k hk hn => (Below.heap_setCell _ _ _ _ (show k ≠ g by omega)).trans (h.block k hk hn)⟩
theorem Span.kept {X Y g : Nat} {w w1 w2 : World} (h : Span X Y w w1) (h1 : X ≤ g) (h2 : g < Y) (k : Kept g w1 w2) : Span X Y w w2 :=
  h.trans ⟨k.os, k.tape, k.output, k.size, fun i hi hn => k.block i hi (by omega)⟩
theorem Span.low {X Y : Nat} {w w' : World} (h : Span X Y w w') (hX : X ≤ w.heap.size) : Below X w w' := ⟨h.os, h.tape, h.output, h.size, fun k hk => h.block k (Nat.lt_of_lt_of_le hk hX) (.inl hk)⟩

/-- The state of the marking. -/
structure MkSt (g len X Y : Nat) (w wr : World) : Prop where
  own : VsOwn wr g len X Y
  span : Span X Y w wr
  size : Y ≤ wr.heap.size
theorem MkSt.below {g len X Y : Nat} {w wr w2 : World} (h : MkSt g len X Y w wr) (hb : Below wr.heap.size wr w2) : MkSt g len X Y w w2 := ⟨h.own.below h.size hb, h.span.below hb, Nat.le_trans h.size hb.size⟩
theorem MkSt.set {g len X Y : Nat} {w wr : World} (h : MkSt g len X Y w wr) (k f : Nat) (hf : f < 7) (v : Value) : MkSt g len X Y w (wr.setCell ⟨g, k * 8 + f, none⟩ v) := by
  obtain ⟨⟨h1, h2, cur, h3, h4, h5⟩, hs, hY⟩ := h
  refine ⟨⟨h1, h2, _, block_set h3 v, by simpa using h4, fun j hj => ?_⟩, hs.set h1 h2, by simpa [World.setCell] using hY⟩
  obtain ⟨a, l, c, h6, h7, h8⟩ := h5 j hj
  refine ⟨a, l, c, (Array.getElem?_setIfInBounds_ne (by omega)).trans h6, h7, h8.imp id ?_⟩
  rintro ⟨h, cu, h9, h10, h11, h12, h13, h14⟩
  exact ⟨h, cu, h9, h10, h11, h12, (Below.heap_setCell _ _ _ _ h12).trans h13, h14⟩
theorem MkSt.cell {g len X Y : Nat} {w wr : World} (h : MkSt g len X Y w wr) {k f : Nat} (hk : k < len) (hf : f < 8) : ∃ v, wr.cell? ⟨g, k * 8 + f, none⟩ = some v := by
  obtain ⟨⟨h1, h2, cur, h3, h4, h5⟩, hs, hY⟩ := h
  exact ⟨_, (cellK h3 _).trans (Array.getElem?_eq_getElem (by omega))⟩
theorem MkSt.fro {g len X Y : Nat} {w wr : World} (h : MkSt g len X Y w wr) (i : Nat) : wr.frozen? ⟨g, i, none⟩ = false := by
  obtain ⟨⟨h1, h2, cur, h3, h4, h5⟩, hs, hY⟩ := h
  exact froK h3 i
theorem MkSt.list {g len X Y : Nat} {w wr : World} (h : MkSt g len X Y w wr) {k : Nat} (hk : k < len) : ∃ a l c, wr.cell? ⟨g, k * 8 + 7, none⟩ = some (.slice a l c) ∧ l ≤ 1048576 := by
  obtain ⟨⟨h1, h2, cur, h3, h4, h5⟩, hs, hY⟩ := h
  obtain ⟨a, l, c, h6, h7, h8⟩ := h5 k hk
  exact ⟨a, l, c, (cellK h3 _).trans h6, h7⟩
/-- The mark of a list that may be empty. -/
theorem markL_any {g len X Y : Nat} {w wr : World} (h : MkSt g len X Y w wr) {k : Nat} (hk : k < len) {a : Option Addr} {l c : Nat} (hc : wr.cell? ⟨g, k * 8 + 7, none⟩ = some (.slice a l c)) (u : Int) (hu0 : 0 < u) (hu1 : u ≤ 2199023255552) :
    Calls Try.prog 71 #[.slice a l c, .int .i64 u] wr fun e w' => e = .returned (.int .i64 (u + l)) ∧ MkSt g len X Y w w' := by
  obtain ⟨⟨h1, h2, cur, h3, h4, h5⟩, hs, hY⟩ := h
  obtain ⟨a', l', c', h6, h7, h8⟩ := h5 k hk
  rw [cellK h3, h6] at hc
  cases hc
  obtain ⟨n, rfl⟩ : ∃ n : Nat, u = n := ⟨u.toNat, by omega⟩
  rcases h8 with rfl | ⟨h, cu, rfl, h10, h11, h12, h13, h14⟩
  · refine (markZn_any a c n wr).mono ?_
    rintro e w' ⟨rfl, hb⟩
    exact ⟨by simp, (MkSt.below ⟨⟨h1, h2, cur, h3, h4, h5⟩, hs, hY⟩ hb)⟩
  · refine (markS_any h l c n cu wr h13 h14 (by omega) (by omega)).mono ?_
    rintro e w' ⟨rfl, hk, cu', hg', -, hsz⟩
    refine ⟨by simp, ⟨h1, h2, cur, (hk.block _ (lt_of_some h3) (fun e => h12 e.symm)).trans h3, h4, fun j hj => ?_⟩, hs.kept h10 h11 hk, Nat.le_trans hY hk.size⟩
    obtain ⟨a', l', c', q1, q2, q3⟩ := h5 j hj
    refine ⟨a', l', c', q1, q2, q3.imp id ?_⟩
    rintro ⟨h', cx, p1, p2, p3, p4, p5, p6⟩
    by_cases e : h' = h
    · subst e
      rw [p5] at h13
      cases h13
      exact ⟨h', cu', p1, p2, p3, p4, hg', by omega⟩
    · exact ⟨h', cx, p1, p2, p3, p4, (hk.block _ (lt_of_some p5) e).trans p5, p6⟩
theorem cell_set_ne {w : World} {g i j : Nat} {v : Value} (h : ¬ i = j) : (w.setCell ⟨g, i, none⟩ v).cell? ⟨g, j, none⟩ = w.cell? ⟨g, j, none⟩ := by
  cases hg : w.heap[g]? with
  | none =>
    have hs : (w.setCell ⟨g, i, none⟩ v).heap[g]? = none := by
      have h1 := Array.getElem?_eq_none_iff.1 hg
      exact Array.getElem?_eq_none_iff.2 (by simpa [World.setCell] using h1)
    simp [World.cell?, hg, hs]
  | some o =>
    cases o with
    | cells cs t fr =>
      have := block_set (i := i) hg v
      simp only [World.cell?, hg, this]
      simp [Array.getElem?_setIfInBounds_ne h]
    | _ => simp [World.cell?, World.setCell, Array.getElem?_modify, hg]
theorem markX (u : Int) (w : World) (h0 : 0 < u) (h1 : u ≤ 4398046511104) : Calls Try.prog 70 #[.int .i64 u] w fun e w' => ∃ s, e = .returned (.string s) ∧ Below w.heap.size w w' := by
  obtain ⟨n, rfl⟩ : ∃ n : Nat, u = n := ⟨u.toNat, by omega⟩
  exact (markText_any n w (by omega) (by omega)).mono fun e w' ⟨h, hb⟩ => ⟨_, h, hb⟩

set_option maxHeartbeats 6400000 in
theorem markVs_any (g len cap X Y : Nat) (w : World) (ho : VsOwn w g len X Y) (hY : Y ≤ w.heap.size) (hl : len ≤ 1048576) :
    Calls Try.prog 31 #[.slice (some ⟨g, 0, none⟩) len cap, .int .i64 1] w fun e w' => ∃ r : Int, e = .returned (.int .i64 r) ∧ 0 ≤ r ∧ Span X Y w w' := by
  have HO : Hid (MkSt g len X Y w w) := ⟨ho, Span.refl _ _ _, hY⟩
  clear ho hY
  go_enter Try.func31, Try.ntmps31
  go_wp2
  go_loopw [1, 5] (fun vk vi wr => ∃ (i : Nat) (u : Int), i ≤ len ∧ vk = .int .i64 u ∧ vi = .int .i64 i ∧ 0 < u ∧ u ≤ 1 + i * 1048583 ∧ Hid (MkSt g len X Y w wr)) (fun _ vi _ => len - (intOf vi).toNat)
  case atStart => exact ⟨0, 1, by omega, rfl, rfl, by omega, by omega, HO⟩
  case round =>
    obtain ⟨i, u, hi, rfl, rfl, hu0, hu1, HS⟩ := hrel
    clear HO
    by_cases hlt : i < len
    · go_wp2_with fail
      refine (markX _ _ (by omega) (by omega)).mono ?_
      rintro e w1 ⟨s1, rfl, hb⟩
      have h1 := HS.out.below hb
      have H1 := hidK h1
      obtain ⟨p0, c0⟩ := h1.cell (f := 0) hlt (by omega)
      obtain ⟨p1, c1⟩ := h1.cell (f := 1) hlt (by omega)
      have f0 := h1.fro (i * 8)
      have f1 := h1.fro (i * 8 + 1)
      rw [Nat.add_zero] at c0
      clear h1 hb HS
      go_wp2_with fail
      refine (markX _ _ (by omega) (by omega)).mono ?_
      rintro e w2 ⟨s2, rfl, hb⟩
      have h1 := ((H1.out.set i 0 (by omega) _).set i 1 (by omega) _).below hb
      have H2 := hidK h1
      obtain ⟨p2, c2⟩ := h1.cell (f := 2) hlt (by omega)
      have f2 := h1.fro (i * 8 + 2)
      clear h1 hb H1 c0 c1 f0 f1
      go_wp2_with fail
      refine (markX _ _ (by omega) (by omega)).mono ?_
      rintro e w3 ⟨s3, rfl, hb⟩
      have h1 := (H2.out.set i 2 (by omega) _).below hb
      have H3 := hidK h1
      obtain ⟨p3, c3⟩ := h1.cell (f := 3) hlt (by omega)
      obtain ⟨p4, c4⟩ := h1.cell (f := 4) hlt (by omega)
      have f3 := h1.fro (i * 8 + 3)
      have f4 := h1.fro (i * 8 + 4)
      clear h1 hb H2 c2 f2
      go_wp2_with fail
      refine (markX _ _ (by omega) (by omega)).mono ?_
      rintro e w4 ⟨s4, rfl, hb⟩
      have h1 := ((H3.out.set i 3 (by omega) _).set i 4 (by omega) _).below hb
      have H4 := hidK h1
      obtain ⟨p5, c5⟩ := h1.cell (f := 5) hlt (by omega)
      obtain ⟨p6, c6⟩ := h1.cell (f := 6) hlt (by omega)
      obtain ⟨la, ll, lc, c7, hll⟩ := h1.list hlt
      have f5 := h1.fro (i * 8 + 5)
      have f6 := h1.fro (i * 8 + 6)
      clear h1 hb H3 c3 f3 c4 f4
      go_wp2_with fail
      refine (markL_any ((H4.out.set i 5 (by omega) _).set i 6 (by omega) _) hlt ((cell_set_ne (by omega)).trans ((cell_set_ne (by omega)).trans c7)) _ (by omega) (by omega)).mono ?_
      rintro e w5 ⟨rfl, h5⟩
      have H5 := hidK h5
      clear h5 H4 c5 c6 c7 f5 f6
      go_wp2_with fail
      exact ⟨⟨i + 1, _, by omega, rfl, by go_num, by omega, by omega, H5⟩, by simp [intOf]; omega⟩
    · obtain rfl : i = len := by omega
      go_wp2
      go_ret
      exact ⟨u, rfl, by omega, HS.out.span⟩

end Go.Proofs.Ytjkgpkgbaapdmaa
