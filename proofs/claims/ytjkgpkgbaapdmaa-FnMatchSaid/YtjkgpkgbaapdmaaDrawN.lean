/-
  The draws for Serves and MakeFor.
-/
import Derived.Test.YtjkgpkgbaapdmaaDrawM
namespace Go.Proofs.Ytjkgpkgbaapdmaa
open Go.RowKit
namespace Dk

theorem row_but {w w' : World} {a : Option Addr} {l c : Nat} {zs : List ByteArray} (h : TxRow w a l c zs) (hs : w.heap.size ≤ w'.heap.size) (hn : zs = [] ∨ ∃ g, a = some ⟨g, 0, none⟩ ∧ w'.heap[g]? = w.heap[g]?) : TxRow w' a l c zs := by
  obtain ⟨h1, h2, h3, h4, h5⟩ := h
  refine ⟨h1, h2, h3, h4, ?_⟩
  rcases hn with hz | ⟨g, rfl, hg⟩
  · exact .inl hz
  rcases h5 with h5 | ⟨b', o, e, hlt, hc⟩
  · exact .inl h5
  cases e
  exact .inr ⟨g, 0, rfl, by omega, fun j x hx => by have := hc j x hx; simp only [World.cell?, hg] at this ⊢; exact this⟩
/-- The blocks from lo to hi stand. -/
def Stay (lo hi : Nat) (w w' : World) : Prop := w.heap.size ≤ w'.heap.size ∧ ∀ g, lo ≤ g → g < hi → w'.heap[g]? = w.heap[g]?
theorem Stay.refl (lo hi : Nat) (w : World) : Stay lo hi w w := ⟨Nat.le_refl _, fun _ _ _ => rfl⟩
theorem Stay.trans {lo hi : Nat} {a b c : World} (h : Stay lo hi a b) (k : Stay lo hi b c) : Stay lo hi a c := ⟨Nat.le_trans h.1 k.1, fun g h1 h2 => (k.2 g h1 h2).trans (h.2 g h1 h2)⟩
theorem Stay.grown {lo hi p : Nat} {a b c : World} (h : Stay lo hi a b) (hg : b.grownBy c (some p)) (hp : p < lo) (hh : hi ≤ b.heap.size) : Stay lo hi a c := h.trans ⟨hg.size, fun g h1 h2 => hg.block g (by omega) (fun e => by simp at e; omega)⟩
theorem Stay.alloc {lo hi : Nat} {a b : World} (h : Stay lo hi a b) (o : Obj) (hh : hi ≤ b.heap.size) : Stay lo hi a (b.alloc o) := h.trans ⟨by simp, fun g h1 h2 => Below.heap_alloc _ _ _ (by omega)⟩
theorem Stay.set {lo hi k i : Nat} {a b : World} {x : Value} (h : Stay lo hi a b) (hk : k < lo ∨ hi ≤ k) : Stay lo hi a (b.setCell ⟨k, i, none⟩ x) := h.trans ⟨by simp [World.setCell], fun g h1 h2 => Below.heap_setCell _ _ _ _ (show g ≠ k by omega)⟩
def DrewVCZ (w : World) (e : Ending) (w' : World) : Prop :=
  ∃ n c z k x m y a l cp zs n' c' k' x' u' t, e = .returned (.tuple #[.agg #[.string n, .int .i64 c, .string z, .string k, .bool x, .string m, .bool y, .slice a l cp], .agg #[.string n', .int .i64 c', .string k', .bool x', .string u'], .string t]) ∧ (n.size ≤ 100 ∧ z.size ≤ 100 ∧ k.size ≤ 100 ∧ m.size ≤ 100) ∧ (n'.size ≤ 100 ∧ k'.size ≤ 100 ∧ u'.size ≤ 100 ∧ t.size ≤ 100) ∧ TxRow w' a l cp zs ∧ Below w.heap.size w w'

set_option maxHeartbeats 6400000 in
theorem drawServes_any (v : Value) (len : Nat) (w : World) (hR : RowIn w.heap.size w v len) : Calls Try.prog 10 #[v] w (DrewVCZ w) := by
  have hb0 := below2 w (.cells #[.string ⟨#[]⟩, .int .i64 0, .string ⟨#[]⟩, .string ⟨#[]⟩, .bool false, .string ⟨#[]⟩, .bool false, .slice none 0 0] 30) (.cells #[.string ⟨#[]⟩, .int .i64 0, .string ⟨#[]⟩, .bool false, .string ⟨#[]⟩] 25)
  have HR := hidK (RowIn.up (hR.below hb0) hb0.size)
  have HGV := hidK (heap2_0 w (.cells #[.string ⟨#[]⟩, .int .i64 0, .string ⟨#[]⟩, .string ⟨#[]⟩, .bool false, .string ⟨#[]⟩, .bool false, .slice none 0 0] 30) (.cells #[.string ⟨#[]⟩, .int .i64 0, .string ⟨#[]⟩, .bool false, .string ⟨#[]⟩] 25))
  have HGC := hidK (heap2_1 w (.cells #[.string ⟨#[]⟩, .int .i64 0, .string ⟨#[]⟩, .string ⟨#[]⟩, .bool false, .string ⟨#[]⟩, .bool false, .slice none 0 0] 30) (.cells #[.string ⟨#[]⟩, .int .i64 0, .string ⟨#[]⟩, .bool false, .string ⟨#[]⟩] 25))
  have HB0 := hidK hb0
  clear hR hb0
  go_enter Try.func10, Try.ntmps10
  go_wp2_with fail
  refine (source_any v len _ HR.out).mono ?_
  rintro e w1 ⟨p, rfl, hs1⟩
  have HS1 := hidK hs1
  have hp1 := hs1.plt
  have hp0 : w.heap.size + 1 < p := by have := hs1.1; simp at this; omega
  clear hs1
  go_wp2_with fail
  refine (vol_any HS1.out).mono ?_
  rintro e w2 ⟨n, c, z, k, x, m, y, a, l, cp, zs, rfl, hn, hz, hk, hm, htx, hti, hd⟩
  have HD2 := hidK hd
  have HTX := hidK htx
  have HTI : Hid (zs = [] ∨ ∃ g, a = some (⟨g, 0, none⟩ : Addr) ∧ w1.heap.size ≤ g ∧ g < w2.heap.size) := by
    rcases hti with h | ⟨g, rfl, hg⟩
    · exact .inl h
    rcases htx.2.2.2.2 with h | ⟨b', o, e, hlt, -⟩
    · exact .inl h
    · cases e
      exact .inr ⟨g, rfl, hg, hlt⟩
  have h12 := hd.gr.size
  have HDA := hidK (hd.alloc (.cells #[.string n, .int .i64 c, .string z, .string k, .bool x, .string m, .bool y, .slice a l cp] 30))
  have G6 : Hid ((w2.alloc (.cells #[.string n, .int .i64 c, .string z, .string k, .bool x, .string m, .bool y, .slice a l cp] 30)).heap[w2.heap.size]? = some (.cells #[.string n, .int .i64 c, .string z, .string k, .bool x, .string m, .bool y, .slice a l cp] 30 (0, 0))) := Array.getElem?_push_size
  clear hd htx hti
  go_wp2_with fail
  refine (claim_any HDA.out.src).mono ?_
  rintro e w3 ⟨n', c', k', x', u', rfl, hn', hk', hu', hd3⟩
  have h23 : w2.heap.size < w3.heap.size := by have := hd3.gr.size; simp at this; omega
  have HD3 := hidK (HDA.out.next hd3.src hd3.gr)
  have HST := hidK (((Stay.refl w1.heap.size w2.heap.size w2).alloc (.cells #[.string n, .int .i64 c, .string z, .string k, .bool x, .string m, .bool y, .slice a l cp] 30) (Nat.le_refl _)).grown hd3.gr hp1 (by simp))
  have G63 := hidK (gk hd3.gr (by omega) G6.out)
  clear hd3 G6 HDA
  have HD4 := hidK (HD3.out.alloc (.cells #[.string n', .int .i64 c', .string k', .bool x', .string u'] 25))
  have HST4 := hidK (HST.out.alloc (.cells #[.string n', .int .i64 c', .string k', .bool x', .string u'] 25) (by omega))
  have G7 : Hid ((w3.alloc (.cells #[.string n', .int .i64 c', .string k', .bool x', .string u'] 25)).heap[w3.heap.size]? = some (.cells #[.string n', .int .i64 c', .string k', .bool x', .string u'] 25 (0, 0))) := Array.getElem?_push_size
  have G64 := hidK ((Below.heap_alloc w3 (.cells #[.string n', .int .i64 c', .string k', .bool x', .string u'] 25) _ h23).trans G63.out)
  clear G63 HD3 HST
  go_wp2_with fail
  refine (one_any HD4.out.src 2 (by decide)).mono ?_
  rintro e w4 ⟨he, hs, hg⟩
  have HD5 := hidK (HD4.out.next hs hg)
  have HST5 := hidK (HST4.out.grown hg hp1 (by simp; omega))
  have G65 := hidK (gk hg (by omega) G64.out)
  have G75 := hidK (gk hg (by omega) G7.out)
  have h34 : w3.heap.size < w4.heap.size := lt_of_some G75.out
  have GV5 := hidK ((HD5.out.src.2.2.1.block _ (lt_of_some HGV.out)).trans HGV.out)
  have GC5 := hidK ((HD5.out.src.2.2.1.block _ (lt_of_some HGC.out)).trans HGC.out)
  have q6 := G65.out
  have q7 := G75.out
  have a0 : w4.cell? ⟨w2.heap.size, 0, none⟩ = some (.string n) := cellK q6 0
  have a1 : w4.cell? ⟨w2.heap.size, 1, none⟩ = some (.int .i64 c) := cellK q6 1
  have a2 : w4.cell? ⟨w2.heap.size, 2, none⟩ = some (.string z) := cellK q6 2
  have a3 : w4.cell? ⟨w2.heap.size, 3, none⟩ = some (.string k) := cellK q6 3
  have a4 : w4.cell? ⟨w2.heap.size, 4, none⟩ = some (.bool x) := cellK q6 4
  have a5 : w4.cell? ⟨w2.heap.size, 5, none⟩ = some (.string m) := cellK q6 5
  have a6 : w4.cell? ⟨w2.heap.size, 6, none⟩ = some (.bool y) := cellK q6 6
  have a7 : w4.cell? ⟨w2.heap.size, 7, none⟩ = some (.slice a l cp) := cellK q6 7
  have b0 : w4.cell? ⟨w3.heap.size, 0, none⟩ = some (.string n') := cellK q7 0
  have bf0 : w4.frozen? ⟨w3.heap.size, 0, none⟩ = false := froK q7 0
  have b1 : w4.cell? ⟨w3.heap.size, 1, none⟩ = some (.int .i64 c') := cellK q7 1
  have bf1 : w4.frozen? ⟨w3.heap.size, 1, none⟩ = false := froK q7 1
  have b2 : w4.cell? ⟨w3.heap.size, 2, none⟩ = some (.string k') := cellK q7 2
  have bf2 : w4.frozen? ⟨w3.heap.size, 2, none⟩ = false := froK q7 2
  have b3 : w4.cell? ⟨w3.heap.size, 3, none⟩ = some (.bool x') := cellK q7 3
  have bf3 : w4.frozen? ⟨w3.heap.size, 3, none⟩ = false := froK q7 3
  have b4 : w4.cell? ⟨w3.heap.size, 4, none⟩ = some (.string u') := cellK q7 4
  have bf4 : w4.frozen? ⟨w3.heap.size, 4, none⟩ = false := froK q7 4
  clear hs hg G64 G7 HD4 HST4 q6 q7
  rcases he with rfl | rfl
  · have HSR := hidK ((HD5.out.set (b := w3.heap.size) (i := 2) (.string k) (by omega)).set (b := w3.heap.size) (i := 3) (.bool x) (by omega)).src
    have H6 := hidK ((Below.heap_setCell (w4.setCell ⟨w3.heap.size, 2, none⟩ (.string k)) ⟨w3.heap.size, 3, none⟩ (.bool x) _ (show w2.heap.size ≠ w3.heap.size by omega)).trans ((Below.heap_setCell w4 ⟨w3.heap.size, 2, none⟩ (.string k) _ (show w2.heap.size ≠ w3.heap.size by omega)).trans G65.out))
    have H7 : Hid (((w4.setCell ⟨w3.heap.size, 2, none⟩ (.string k)).setCell ⟨w3.heap.size, 3, none⟩ (.bool x)).heap[w3.heap.size]? = some (.cells #[.string n', .int .i64 c', .string k, .bool x, .string u'] 25 (0, 0))) := block_set (block_set G75.out _) _
    have HV2 := hidK ((Below.heap_setCell (w4.setCell ⟨w3.heap.size, 2, none⟩ (.string k)) ⟨w3.heap.size, 3, none⟩ (.bool x) _ (show w.heap.size ≠ w3.heap.size by omega)).trans ((Below.heap_setCell w4 ⟨w3.heap.size, 2, none⟩ (.string k) _ (show w.heap.size ≠ w3.heap.size by omega)).trans GV5.out))
    have HC2 := hidK ((Below.heap_setCell (w4.setCell ⟨w3.heap.size, 2, none⟩ (.string k)) ⟨w3.heap.size, 3, none⟩ (.bool x) _ (show w.heap.size + 1 ≠ w3.heap.size by omega)).trans ((Below.heap_setCell w4 ⟨w3.heap.size, 2, none⟩ (.string k) _ (show w.heap.size + 1 ≠ w3.heap.size by omega)).trans GC5.out))
    have HSTR := hidK ((HST5.out.set (k := w3.heap.size) (i := 2) (x := .string k) (by omega)).set (k := w3.heap.size) (i := 3) (x := .bool x) (by omega))
    have HSZ0 : Hid (w2.heap.size ≤ ((w4.setCell ⟨w3.heap.size, 2, none⟩ (.string k)).setCell ⟨w3.heap.size, 3, none⟩ (.bool x)).heap.size) := by show _ ≤ _; simp [World.setCell]; omega
    go_wp2_with fail
    generalize ((w4.setCell ⟨w3.heap.size, 2, none⟩ (.string k)).setCell ⟨w3.heap.size, 3, none⟩ (.bool x)) = WR at HSR H6 H7 HV2 HC2 HSTR HSZ0 ⊢
    clear a0 a1 a2 a3 a4 a5 a6 a7 b0 b1 b2 b3 b4 bf0 bf1 bf2 bf3 bf4
    have q6 := H6.out
    have q7 := H7.out
    have a0 : WR.cell? ⟨w2.heap.size, 0, none⟩ = some (.string n) := cellK q6 0
    have a1 : WR.cell? ⟨w2.heap.size, 1, none⟩ = some (.int .i64 c) := cellK q6 1
    have a2 : WR.cell? ⟨w2.heap.size, 2, none⟩ = some (.string z) := cellK q6 2
    have a3 : WR.cell? ⟨w2.heap.size, 3, none⟩ = some (.string k) := cellK q6 3
    have a4 : WR.cell? ⟨w2.heap.size, 4, none⟩ = some (.bool x) := cellK q6 4
    have a5 : WR.cell? ⟨w2.heap.size, 5, none⟩ = some (.string m) := cellK q6 5
    have a6 : WR.cell? ⟨w2.heap.size, 6, none⟩ = some (.bool y) := cellK q6 6
    have a7 : WR.cell? ⟨w2.heap.size, 7, none⟩ = some (.slice a l cp) := cellK q6 7
    have b0 : WR.cell? ⟨w3.heap.size, 0, none⟩ = some (.string n') := cellK q7 0
    have b1 : WR.cell? ⟨w3.heap.size, 1, none⟩ = some (.int .i64 c') := cellK q7 1
    have b2 : WR.cell? ⟨w3.heap.size, 2, none⟩ = some (.string k) := cellK q7 2
    have b3 : WR.cell? ⟨w3.heap.size, 3, none⟩ = some (.bool x) := cellK q7 3
    have b4 : WR.cell? ⟨w3.heap.size, 4, none⟩ = some (.string u') := cellK q7 4
    clear q6 q7
    go_region_with (first | (go_at_call 41; refine (zone4_any (Src.drew HSR.out)).mono ?_; rintro e wz ⟨tz, rfl, htz, hsz, hgz⟩; have g6 := gk hgz (by omega) (show WR.drew.heap[w2.heap.size]? = _ from H6.out); have g7 := gk hgz (by omega) (show WR.drew.heap[w3.heap.size]? = _ from H7.out); have gv := gk hgz (by omega) (show WR.drew.heap[w.heap.size]? = _ from HV2.out); have gc := gk hgz (by omega) (show WR.drew.heap[w.heap.size + 1]? = _ from HC2.out); have y0 : wz.cell? ⟨w2.heap.size, 0, none⟩ = some (.string n) := cellK g6 0; have y1 : wz.cell? ⟨w2.heap.size, 1, none⟩ = some (.int .i64 c) := cellK g6 1; have y2 : wz.cell? ⟨w2.heap.size, 2, none⟩ = some (.string z) := cellK g6 2; have y3 : wz.cell? ⟨w2.heap.size, 3, none⟩ = some (.string k) := cellK g6 3; have y4 : wz.cell? ⟨w2.heap.size, 4, none⟩ = some (.bool x) := cellK g6 4; have y5 : wz.cell? ⟨w2.heap.size, 5, none⟩ = some (.string m) := cellK g6 5; have y6 : wz.cell? ⟨w2.heap.size, 6, none⟩ = some (.bool y) := cellK g6 6; have y7 : wz.cell? ⟨w2.heap.size, 7, none⟩ = some (.slice a l cp) := cellK g6 7; have s0 : wz.cell? ⟨w3.heap.size, 0, none⟩ = some (.string n') := cellK g7 0; have s1 : wz.cell? ⟨w3.heap.size, 1, none⟩ = some (.int .i64 c') := cellK g7 1; have s2 : wz.cell? ⟨w3.heap.size, 2, none⟩ = some (.string k) := cellK g7 2; have s3 : wz.cell? ⟨w3.heap.size, 3, none⟩ = some (.bool x) := cellK g7 3; have s4 : wz.cell? ⟨w3.heap.size, 4, none⟩ = some (.string u') := cellK g7 4; have z0 : wz.cell? ⟨w.heap.size, 0, none⟩ = some (.string ⟨#[]⟩) := cellK gv 0; have zf0 : wz.frozen? ⟨w.heap.size, 0, none⟩ = false := froK gv 0; have z1 : wz.cell? ⟨w.heap.size, 1, none⟩ = some (.int .i64 0) := cellK gv 1; have zf1 : wz.frozen? ⟨w.heap.size, 1, none⟩ = false := froK gv 1; have z2 : wz.cell? ⟨w.heap.size, 2, none⟩ = some (.string ⟨#[]⟩) := cellK gv 2; have zf2 : wz.frozen? ⟨w.heap.size, 2, none⟩ = false := froK gv 2; have z3 : wz.cell? ⟨w.heap.size, 3, none⟩ = some (.string ⟨#[]⟩) := cellK gv 3; have zf3 : wz.frozen? ⟨w.heap.size, 3, none⟩ = false := froK gv 3; have z4 : wz.cell? ⟨w.heap.size, 4, none⟩ = some (.bool false) := cellK gv 4; have zf4 : wz.frozen? ⟨w.heap.size, 4, none⟩ = false := froK gv 4; have z5 : wz.cell? ⟨w.heap.size, 5, none⟩ = some (.string ⟨#[]⟩) := cellK gv 5; have zf5 : wz.frozen? ⟨w.heap.size, 5, none⟩ = false := froK gv 5; have z6 : wz.cell? ⟨w.heap.size, 6, none⟩ = some (.bool false) := cellK gv 6; have zf6 : wz.frozen? ⟨w.heap.size, 6, none⟩ = false := froK gv 6; have z7 : wz.cell? ⟨w.heap.size, 7, none⟩ = some (.slice none 0 0) := cellK gv 7; have zf7 : wz.frozen? ⟨w.heap.size, 7, none⟩ = false := froK gv 7; have o0 : wz.cell? ⟨w.heap.size + 1, 0, none⟩ = some (.string ⟨#[]⟩) := cellK gc 0; have of0 : wz.frozen? ⟨w.heap.size + 1, 0, none⟩ = false := froK gc 0; have o1 : wz.cell? ⟨w.heap.size + 1, 1, none⟩ = some (.int .i64 0) := cellK gc 1; have of1 : wz.frozen? ⟨w.heap.size + 1, 1, none⟩ = false := froK gc 1; have o2 : wz.cell? ⟨w.heap.size + 1, 2, none⟩ = some (.string ⟨#[]⟩) := cellK gc 2; have of2 : wz.frozen? ⟨w.heap.size + 1, 2, none⟩ = false := froK gc 2; have o3 : wz.cell? ⟨w.heap.size + 1, 3, none⟩ = some (.bool false) := cellK gc 3; have of3 : wz.frozen? ⟨w.heap.size + 1, 3, none⟩ = false := froK gc 3; have o4 : wz.cell? ⟨w.heap.size + 1, 4, none⟩ = some (.string ⟨#[]⟩) := cellK gc 4; have of4 : wz.frozen? ⟨w.heap.size + 1, 4, none⟩ = false := froK gc 4; have HBZ := hidK (HB0.out.trans (hsz.2.2.1.mono HB0.out.size)); have HSZ := hidK (HSTR.out.trans (⟨hgz.size, fun g h1 h2 => hgz.block g (by have := HSZ0.out; show g < WR.heap.size; omega) (fun e => by simp at e; omega)⟩ : Stay w1.heap.size w2.heap.size WR wz)); clear g6 g7 gv gc hsz hgz))
    all_goals (
      go_wp2_with fail
      refine bodyPost_ret (v := .tuple #[.agg #[.string n, .int .i64 c, .string z, .string k, .bool x, .string m, .bool y, .slice a l cp], .agg #[.string n', .int .i64 c', .string k, .bool x, .string u'], .string tz]) (by simp [results, Try.results10, go_sem, *]) rfl ⟨n, c, z, k, x, m, y, a, l, cp, zs, n', c', k, x, u', tz, rfl, ⟨hn, hz, hk, hm⟩, ⟨hn', hk, hu', htz⟩, ?_, set_below (by omega) (set_below (by omega) (set_below (by omega) (set_below (by omega) (set_below (by omega) (set_below (Nat.le_refl _) (set_below (Nat.le_refl _) (set_below (Nat.le_refl _) (set_below (Nat.le_refl _) (set_below (Nat.le_refl _) (set_below (Nat.le_refl _) (set_below (Nat.le_refl _) (set_below (Nat.le_refl _) (HBZ.out)))))))))))))⟩
      have hst := (((((((((((((HSZ.out.set (k := w.heap.size) (i := 0) (x := .string n) (by omega)).set (k := w.heap.size) (i := 1) (x := .int .i64 c) (by omega)).set (k := w.heap.size) (i := 2) (x := .string z) (by omega)).set (k := w.heap.size) (i := 3) (x := .string k) (by omega)).set (k := w.heap.size) (i := 4) (x := .bool x) (by omega)).set (k := w.heap.size) (i := 5) (x := .string m) (by omega)).set (k := w.heap.size) (i := 6) (x := .bool y) (by omega)).set (k := w.heap.size) (i := 7) (x := .slice a l cp) (by omega)).set (k := w.heap.size + 1) (i := 0) (x := .string n') (by omega)).set (k := w.heap.size + 1) (i := 1) (x := .int .i64 c') (by omega)).set (k := w.heap.size + 1) (i := 2) (x := .string k) (by omega)).set (k := w.heap.size + 1) (i := 3) (x := .bool x) (by omega)).set (k := w.heap.size + 1) (i := 4) (x := .string u') (by omega))
      exact row_but HTX.out hst.1 (HTI.out.imp id fun ⟨g, e, h1, h2⟩ => ⟨g, e, hst.2 g h1 h2⟩))
  · have HSR := hidK HD5.out.src
    have H6 := G65
    have H7 := G75
    have HV2 := GV5
    have HC2 := GC5
    have HSTR := HST5
    have HSZ0 : Hid (w2.heap.size ≤ w4.heap.size) := by show _ ≤ _; omega
    go_wp2_with fail
    clear a0 a1 a2 a3 a4 a5 a6 a7 b0 b1 b2 b3 b4 bf0 bf1 bf2 bf3 bf4
    have q6 := H6.out
    have q7 := H7.out
    have a0 : w4.cell? ⟨w2.heap.size, 0, none⟩ = some (.string n) := cellK q6 0
    have a1 : w4.cell? ⟨w2.heap.size, 1, none⟩ = some (.int .i64 c) := cellK q6 1
    have a2 : w4.cell? ⟨w2.heap.size, 2, none⟩ = some (.string z) := cellK q6 2
    have a3 : w4.cell? ⟨w2.heap.size, 3, none⟩ = some (.string k) := cellK q6 3
    have a4 : w4.cell? ⟨w2.heap.size, 4, none⟩ = some (.bool x) := cellK q6 4
    have a5 : w4.cell? ⟨w2.heap.size, 5, none⟩ = some (.string m) := cellK q6 5
    have a6 : w4.cell? ⟨w2.heap.size, 6, none⟩ = some (.bool y) := cellK q6 6
    have a7 : w4.cell? ⟨w2.heap.size, 7, none⟩ = some (.slice a l cp) := cellK q6 7
    have b0 : w4.cell? ⟨w3.heap.size, 0, none⟩ = some (.string n') := cellK q7 0
    have b1 : w4.cell? ⟨w3.heap.size, 1, none⟩ = some (.int .i64 c') := cellK q7 1
    have b2 : w4.cell? ⟨w3.heap.size, 2, none⟩ = some (.string k') := cellK q7 2
    have b3 : w4.cell? ⟨w3.heap.size, 3, none⟩ = some (.bool x') := cellK q7 3
    have b4 : w4.cell? ⟨w3.heap.size, 4, none⟩ = some (.string u') := cellK q7 4
    clear q6 q7
    go_region_with (first | (go_at_call 41; refine (zone4_any (Src.drew HSR.out)).mono ?_; rintro e wz ⟨tz, rfl, htz, hsz, hgz⟩; have g6 := gk hgz (by omega) (show w4.drew.heap[w2.heap.size]? = _ from H6.out); have g7 := gk hgz (by omega) (show w4.drew.heap[w3.heap.size]? = _ from H7.out); have gv := gk hgz (by omega) (show w4.drew.heap[w.heap.size]? = _ from HV2.out); have gc := gk hgz (by omega) (show w4.drew.heap[w.heap.size + 1]? = _ from HC2.out); have y0 : wz.cell? ⟨w2.heap.size, 0, none⟩ = some (.string n) := cellK g6 0; have y1 : wz.cell? ⟨w2.heap.size, 1, none⟩ = some (.int .i64 c) := cellK g6 1; have y2 : wz.cell? ⟨w2.heap.size, 2, none⟩ = some (.string z) := cellK g6 2; have y3 : wz.cell? ⟨w2.heap.size, 3, none⟩ = some (.string k) := cellK g6 3; have y4 : wz.cell? ⟨w2.heap.size, 4, none⟩ = some (.bool x) := cellK g6 4; have y5 : wz.cell? ⟨w2.heap.size, 5, none⟩ = some (.string m) := cellK g6 5; have y6 : wz.cell? ⟨w2.heap.size, 6, none⟩ = some (.bool y) := cellK g6 6; have y7 : wz.cell? ⟨w2.heap.size, 7, none⟩ = some (.slice a l cp) := cellK g6 7; have s0 : wz.cell? ⟨w3.heap.size, 0, none⟩ = some (.string n') := cellK g7 0; have s1 : wz.cell? ⟨w3.heap.size, 1, none⟩ = some (.int .i64 c') := cellK g7 1; have s2 : wz.cell? ⟨w3.heap.size, 2, none⟩ = some (.string k') := cellK g7 2; have s3 : wz.cell? ⟨w3.heap.size, 3, none⟩ = some (.bool x') := cellK g7 3; have s4 : wz.cell? ⟨w3.heap.size, 4, none⟩ = some (.string u') := cellK g7 4; have z0 : wz.cell? ⟨w.heap.size, 0, none⟩ = some (.string ⟨#[]⟩) := cellK gv 0; have zf0 : wz.frozen? ⟨w.heap.size, 0, none⟩ = false := froK gv 0; have z1 : wz.cell? ⟨w.heap.size, 1, none⟩ = some (.int .i64 0) := cellK gv 1; have zf1 : wz.frozen? ⟨w.heap.size, 1, none⟩ = false := froK gv 1; have z2 : wz.cell? ⟨w.heap.size, 2, none⟩ = some (.string ⟨#[]⟩) := cellK gv 2; have zf2 : wz.frozen? ⟨w.heap.size, 2, none⟩ = false := froK gv 2; have z3 : wz.cell? ⟨w.heap.size, 3, none⟩ = some (.string ⟨#[]⟩) := cellK gv 3; have zf3 : wz.frozen? ⟨w.heap.size, 3, none⟩ = false := froK gv 3; have z4 : wz.cell? ⟨w.heap.size, 4, none⟩ = some (.bool false) := cellK gv 4; have zf4 : wz.frozen? ⟨w.heap.size, 4, none⟩ = false := froK gv 4; have z5 : wz.cell? ⟨w.heap.size, 5, none⟩ = some (.string ⟨#[]⟩) := cellK gv 5; have zf5 : wz.frozen? ⟨w.heap.size, 5, none⟩ = false := froK gv 5; have z6 : wz.cell? ⟨w.heap.size, 6, none⟩ = some (.bool false) := cellK gv 6; have zf6 : wz.frozen? ⟨w.heap.size, 6, none⟩ = false := froK gv 6; have z7 : wz.cell? ⟨w.heap.size, 7, none⟩ = some (.slice none 0 0) := cellK gv 7; have zf7 : wz.frozen? ⟨w.heap.size, 7, none⟩ = false := froK gv 7; have o0 : wz.cell? ⟨w.heap.size + 1, 0, none⟩ = some (.string ⟨#[]⟩) := cellK gc 0; have of0 : wz.frozen? ⟨w.heap.size + 1, 0, none⟩ = false := froK gc 0; have o1 : wz.cell? ⟨w.heap.size + 1, 1, none⟩ = some (.int .i64 0) := cellK gc 1; have of1 : wz.frozen? ⟨w.heap.size + 1, 1, none⟩ = false := froK gc 1; have o2 : wz.cell? ⟨w.heap.size + 1, 2, none⟩ = some (.string ⟨#[]⟩) := cellK gc 2; have of2 : wz.frozen? ⟨w.heap.size + 1, 2, none⟩ = false := froK gc 2; have o3 : wz.cell? ⟨w.heap.size + 1, 3, none⟩ = some (.bool false) := cellK gc 3; have of3 : wz.frozen? ⟨w.heap.size + 1, 3, none⟩ = false := froK gc 3; have o4 : wz.cell? ⟨w.heap.size + 1, 4, none⟩ = some (.string ⟨#[]⟩) := cellK gc 4; have of4 : wz.frozen? ⟨w.heap.size + 1, 4, none⟩ = false := froK gc 4; have HBZ := hidK (HB0.out.trans (hsz.2.2.1.mono HB0.out.size)); have HSZ := hidK (HSTR.out.trans (⟨hgz.size, fun g h1 h2 => hgz.block g (by have := HSZ0.out; show g < w4.heap.size; omega) (fun e => by simp at e; omega)⟩ : Stay w1.heap.size w2.heap.size w4 wz)); clear g6 g7 gv gc hsz hgz))
    all_goals (
      go_wp2_with fail
      refine bodyPost_ret (v := .tuple #[.agg #[.string n, .int .i64 c, .string z, .string k, .bool x, .string m, .bool y, .slice a l cp], .agg #[.string n', .int .i64 c', .string k', .bool x', .string u'], .string tz]) (by simp [results, Try.results10, go_sem, *]) rfl ⟨n, c, z, k, x, m, y, a, l, cp, zs, n', c', k', x', u', tz, rfl, ⟨hn, hz, hk, hm⟩, ⟨hn', hk', hu', htz⟩, ?_, set_below (by omega) (set_below (by omega) (set_below (by omega) (set_below (by omega) (set_below (by omega) (set_below (Nat.le_refl _) (set_below (Nat.le_refl _) (set_below (Nat.le_refl _) (set_below (Nat.le_refl _) (set_below (Nat.le_refl _) (set_below (Nat.le_refl _) (set_below (Nat.le_refl _) (set_below (Nat.le_refl _) (HBZ.out)))))))))))))⟩
      have hst := (((((((((((((HSZ.out.set (k := w.heap.size) (i := 0) (x := .string n) (by omega)).set (k := w.heap.size) (i := 1) (x := .int .i64 c) (by omega)).set (k := w.heap.size) (i := 2) (x := .string z) (by omega)).set (k := w.heap.size) (i := 3) (x := .string k) (by omega)).set (k := w.heap.size) (i := 4) (x := .bool x) (by omega)).set (k := w.heap.size) (i := 5) (x := .string m) (by omega)).set (k := w.heap.size) (i := 6) (x := .bool y) (by omega)).set (k := w.heap.size) (i := 7) (x := .slice a l cp) (by omega)).set (k := w.heap.size + 1) (i := 0) (x := .string n') (by omega)).set (k := w.heap.size + 1) (i := 1) (x := .int .i64 c') (by omega)).set (k := w.heap.size + 1) (i := 2) (x := .string k') (by omega)).set (k := w.heap.size + 1) (i := 3) (x := .bool x') (by omega)).set (k := w.heap.size + 1) (i := 4) (x := .string u') (by omega))
      exact row_but HTX.out hst.1 (HTI.out.imp id fun ⟨g, e, h1, h2⟩ => ⟨g, e, hst.2 g h1 h2⟩))

end Dk
end Go.Proofs.Ytjkgpkgbaapdmaa
