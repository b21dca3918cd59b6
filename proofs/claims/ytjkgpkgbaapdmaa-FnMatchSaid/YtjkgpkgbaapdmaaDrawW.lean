/-
  A drawn volume, with what is known of its list's block.
-/
import Derived.Test.YtjkgpkgbaapdmaaDrawV
namespace Go.Proofs.Ytjkgpkgbaapdmaa
open Go.RowKit
namespace Dk

def DrewW (B : Nat) (w0 : World) (p : Nat) (v : Value) (len : Nat) (w : World) (e : Ending) (w' : World) : Prop :=
  ∃ n c z k x m y a l cp zs, e = .returned (.agg #[.string n, .int .i64 c, .string z, .string k, .bool x, .string m, .bool y, .slice a l cp]) ∧ n.size ≤ 100 ∧ z.size ≤ 100 ∧ k.size ≤ 100 ∧ m.size ≤ 100 ∧ TxRow w' a l cp zs ∧ (zs = [] ∨ ∃ g cur, a = some (⟨g, 0, none⟩ : Addr) ∧ w.heap.size ≤ g ∧ w'.heap[g]? = some (.cells cur 9 (0, 0))) ∧ Dr B w0 p v len w w'

set_option maxHeartbeats 3200000 in
theorem volW_any {B : Nat} {w0 : World} {p : Nat} {v : Value} {len : Nat} {w : World} (h : Src B w0 p v len w) :
    Calls Try.prog 39 #[.pointer (some ⟨p, 0, none⟩)] w (DrewW B w0 p v len w) := by
  have HD0 := hidK ((Dr.start h).alloc (.cells #[.string ⟨#[]⟩, .int .i64 0, .string ⟨#[]⟩, .string ⟨#[]⟩, .bool false, .string ⟨#[]⟩, .bool false, .slice none 0 0] 30))
  have HP := hidK h.plt
  have G0 : Hid ((w.alloc (.cells #[.string ⟨#[]⟩, .int .i64 0, .string ⟨#[]⟩, .string ⟨#[]⟩, .bool false, .string ⟨#[]⟩, .bool false, .slice none 0 0] 30)).heap[w.heap.size]? = some (.cells #[.string ⟨#[]⟩, .int .i64 0, .string ⟨#[]⟩, .string ⟨#[]⟩, .bool false, .string ⟨#[]⟩, .bool false, .slice none 0 0] 30 (0, 0))) := Array.getElem?_push_size
  clear h
  go_enter Try.func39, Try.ntmps39
  go_wp2_with fail
  refine (pick_new HD0.out.src [⟨#[100, 49]⟩, ⟨#[100, 50]⟩, ⟨#[100, 51]⟩] 3 _ _ (by simp) rfl (by decide) (by decide) (by decide)).mono ?_
  rintro e w1 ⟨t1, rfl, ht1, hs, hg⟩
  have HD1 := hidK (HD0.out.next hs hg)
  have G1 := hidK (gk hg (by have := HP.out; omega) G0.out)
  clear hs hg G0 HD0
  go_wp2_with fail
  refine (HD1.out.src.n 20 (by decide)).mono ?_
  rintro e w2 ⟨r2, rfl, ra2, rb2, hs, hg⟩
  have HD2 := hidK (HD1.out.next hs hg)
  have G2 := hidK (gk hg (by have := HP.out; omega) G1.out)
  clear hs hg G1 HD1
  have rc2 : r2 ≤ 20 := by omega
  clear rb2
  go_wp2_with fail
  refine (zone_any HD2.out.src).mono ?_
  rintro e w3 ⟨t3, rfl, ht3, hs, hg⟩
  have HD3 := hidK (HD2.out.next hs hg)
  have G3 := hidK (gk hg (by have := HP.out; omega) G2.out)
  clear hs hg G2 HD2
  go_wp2_with fail
  refine (pick_new HD3.out.src [⟨#[102, 97, 115, 116]⟩, ⟨#[115, 108, 111, 119]⟩] 2 _ _ (by simp) rfl (by decide) (by decide) (by decide)).mono ?_
  rintro e w4 ⟨t4, rfl, ht4, hs, hg⟩
  have HD4 := hidK (HD3.out.next hs hg)
  have G4 := hidK (gk hg (by have := HP.out; omega) G3.out)
  clear hs hg G3 HD3
  go_wp2_with fail
  refine (one_any HD4.out.src 4 (by decide)).mono ?_
  rintro e w5 ⟨he, hs, hg⟩
  obtain ⟨x5, rfl⟩ := bool_of he
  clear he
  have HD5 := hidK (HD4.out.next hs hg)
  have G5 := hidK (gk hg (by have := HP.out; omega) G4.out)
  clear hs hg G4 HD4
  have HDA := hidK (HD5.out.alloc (.cells #[.string t1, .int .i64 (1 + r2), .string t3, .string t4, .bool (!x5), .string ⟨#[]⟩, .bool false, .slice none 0 0] 30))
  have hA : w.heap.size < w5.heap.size := lt_of_some G5.out
  have GA : Hid ((w5.alloc (.cells #[.string t1, .int .i64 (1 + r2), .string t3, .string t4, .bool (!x5), .string ⟨#[]⟩, .bool false, .slice none 0 0] 30)).heap[w5.heap.size]? = some (.cells #[.string t1, .int .i64 (1 + r2), .string t3, .string t4, .bool (!x5), .string ⟨#[]⟩, .bool false, .slice none 0 0] 30 (0, 0))) := Array.getElem?_push_size
  have GB := hidK ((Below.heap_alloc w5 (.cells #[.string t1, .int .i64 (1 + r2), .string t3, .string t4, .bool (!x5), .string ⟨#[]⟩, .bool false, .slice none 0 0] 30) _ hA).trans G5.out)
  clear HD5 G5
  go_wp2_with fail
  refine (one_any HDA.out.src 12 (by decide)).mono ?_
  rintro e w6 ⟨he, hs, hg⟩
  have HDJ := hidK (HDA.out.next hs hg)
  have hpn := HP.out
  have GA' := hidK (gk hg (by omega) GA.out)
  have GB' := hidK (gk hg (by omega) GB.out)
  clear hs hg GA GB HDA
  rcases he with rfl | rfl
  · go_wp2_with fail
    refine (HDJ.out.src.n 4 (by decide)).mono ?_
    rintro e w7 ⟨r7, rfl, ra7, rb7, hs, hg⟩
    have HD7 := hidK (HDJ.out.next hs hg)
    have GA7 := hidK (gk hg (by omega) GA'.out)
    have GB7 := hidK (gk hg (by omega) GB'.out)
    clear hs hg GA' GB' HDJ rb7
    by_cases h0 : r7 = 0
    · subst h0
      go_wp2_with fail
      refine (l02Size_any HD7.out.src).mono ?_
      rintro e w8 ⟨r8, rfl, ra8, rb8, hs, hg⟩
      have HD8 := hidK (HD7.out.next hs hg)
      have GA8 := hidK (gk hg (by omega) GA7.out)
      have GB8 := hidK (gk hg (by omega) GB7.out)
      clear hs hg GA7 GB7 HD7
      have q3 := GA8.out
      have q2 := GB8.out
      have y0 : w8.cell? ⟨w5.heap.size, 0, none⟩ = some (.string t1) := cellK q3 0
      have yf0 : w8.frozen? ⟨w5.heap.size, 0, none⟩ = false := froK q3 0
      have y1 : w8.cell? ⟨w5.heap.size, 1, none⟩ = some (.int .i64 (1 + r2)) := cellK q3 1
      have yf1 : w8.frozen? ⟨w5.heap.size, 1, none⟩ = false := froK q3 1
      have y2 : w8.cell? ⟨w5.heap.size, 2, none⟩ = some (.string t3) := cellK q3 2
      have yf2 : w8.frozen? ⟨w5.heap.size, 2, none⟩ = false := froK q3 2
      have y3 : w8.cell? ⟨w5.heap.size, 3, none⟩ = some (.string t4) := cellK q3 3
      have yf3 : w8.frozen? ⟨w5.heap.size, 3, none⟩ = false := froK q3 3
      have y4 : w8.cell? ⟨w5.heap.size, 4, none⟩ = some (.bool (!x5)) := cellK q3 4
      have yf4 : w8.frozen? ⟨w5.heap.size, 4, none⟩ = false := froK q3 4
      have y5 : w8.cell? ⟨w5.heap.size, 5, none⟩ = some (.string ⟨#[]⟩) := cellK q3 5
      have yf5 : w8.frozen? ⟨w5.heap.size, 5, none⟩ = false := froK q3 5
      have y6 : w8.cell? ⟨w5.heap.size, 6, none⟩ = some (.bool false) := cellK q3 6
      have yf6 : w8.frozen? ⟨w5.heap.size, 6, none⟩ = false := froK q3 6
      have y7 : w8.cell? ⟨w5.heap.size, 7, none⟩ = some (.slice none 0 0) := cellK q3 7
      have yf7 : w8.frozen? ⟨w5.heap.size, 7, none⟩ = false := froK q3 7
      have z0 : w8.cell? ⟨w.heap.size, 0, none⟩ = some (.string ⟨#[]⟩) := cellK q2 0
      have zf0 : w8.frozen? ⟨w.heap.size, 0, none⟩ = false := froK q2 0
      have z1 : w8.cell? ⟨w.heap.size, 1, none⟩ = some (.int .i64 0) := cellK q2 1
      have zf1 : w8.frozen? ⟨w.heap.size, 1, none⟩ = false := froK q2 1
      have z2 : w8.cell? ⟨w.heap.size, 2, none⟩ = some (.string ⟨#[]⟩) := cellK q2 2
      have zf2 : w8.frozen? ⟨w.heap.size, 2, none⟩ = false := froK q2 2
      have z3 : w8.cell? ⟨w.heap.size, 3, none⟩ = some (.string ⟨#[]⟩) := cellK q2 3
      have zf3 : w8.frozen? ⟨w.heap.size, 3, none⟩ = false := froK q2 3
      have z4 : w8.cell? ⟨w.heap.size, 4, none⟩ = some (.bool false) := cellK q2 4
      have zf4 : w8.frozen? ⟨w.heap.size, 4, none⟩ = false := froK q2 4
      have z5 : w8.cell? ⟨w.heap.size, 5, none⟩ = some (.string ⟨#[]⟩) := cellK q2 5
      have zf5 : w8.frozen? ⟨w.heap.size, 5, none⟩ = false := froK q2 5
      have z6 : w8.cell? ⟨w.heap.size, 6, none⟩ = some (.bool false) := cellK q2 6
      have zf6 : w8.frozen? ⟨w.heap.size, 6, none⟩ = false := froK q2 6
      have z7 : w8.cell? ⟨w.heap.size, 7, none⟩ = some (.slice none 0 0) := cellK q2 7
      have zf7 : w8.frozen? ⟨w.heap.size, 7, none⟩ = false := froK q2 7
      clear q2 q3
      go_wp2_with fail
      exact bodyPost_ret (v := .agg #[.string t1, .int .i64 r8, .string t3, .string t4, .bool (!x5), .string ⟨#[]⟩, .bool false, .slice none 0 0]) (by simp [results, Try.results39, go_sem, *]) rfl ⟨_, _, _, _, _, _, _, none, 0, 0, [], rfl, ht1, ht3, ht4, (by decide), ⟨rfl, Nat.le_refl _, by omega, fun j x hx => by simp at hx, .inl rfl⟩, .inl rfl, (((((((((HD8.out.set (b := w5.heap.size) (i := 1) _ (Nat.le_of_lt hA)).set (b := w.heap.size) (i := 0) _ (Nat.le_refl _)).set (b := w.heap.size) (i := 1) _ (Nat.le_refl _)).set (b := w.heap.size) (i := 2) _ (Nat.le_refl _)).set (b := w.heap.size) (i := 3) _ (Nat.le_refl _)).set (b := w.heap.size) (i := 4) _ (Nat.le_refl _)).set (b := w.heap.size) (i := 5) _ (Nat.le_refl _)).set (b := w.heap.size) (i := 6) _ (Nat.le_refl _)).set (b := w.heap.size) (i := 7) _ (Nat.le_refl _))⟩
    have q70 : (r7 == 0) = false := by simp [h0]
    by_cases h1 : r7 = 1
    · subst h1
      go_wp2_with fail
      refine (pick_new HD7.out.src [⟨#[99, 49]⟩, ⟨#[65]⟩] 2 _ _ (by simp) rfl (by decide) (by decide) (by decide)).mono ?_
      rintro e w8 ⟨t8, rfl, ht8, hs, hg⟩
      have HD8 := hidK (HD7.out.next hs hg)
      have GA8 := hidK (gk hg (by omega) GA7.out)
      have GB8 := hidK (gk hg (by omega) GB7.out)
      clear hs hg GA7 GB7 HD7
      have q3 := GA8.out
      have q2 := GB8.out
      have y0 : w8.cell? ⟨w5.heap.size, 0, none⟩ = some (.string t1) := cellK q3 0
      have yf0 : w8.frozen? ⟨w5.heap.size, 0, none⟩ = false := froK q3 0
      have y1 : w8.cell? ⟨w5.heap.size, 1, none⟩ = some (.int .i64 (1 + r2)) := cellK q3 1
      have yf1 : w8.frozen? ⟨w5.heap.size, 1, none⟩ = false := froK q3 1
      have y2 : w8.cell? ⟨w5.heap.size, 2, none⟩ = some (.string t3) := cellK q3 2
      have yf2 : w8.frozen? ⟨w5.heap.size, 2, none⟩ = false := froK q3 2
      have y3 : w8.cell? ⟨w5.heap.size, 3, none⟩ = some (.string t4) := cellK q3 3
      have yf3 : w8.frozen? ⟨w5.heap.size, 3, none⟩ = false := froK q3 3
      have y4 : w8.cell? ⟨w5.heap.size, 4, none⟩ = some (.bool (!x5)) := cellK q3 4
      have yf4 : w8.frozen? ⟨w5.heap.size, 4, none⟩ = false := froK q3 4
      have y5 : w8.cell? ⟨w5.heap.size, 5, none⟩ = some (.string ⟨#[]⟩) := cellK q3 5
      have yf5 : w8.frozen? ⟨w5.heap.size, 5, none⟩ = false := froK q3 5
      have y6 : w8.cell? ⟨w5.heap.size, 6, none⟩ = some (.bool false) := cellK q3 6
      have yf6 : w8.frozen? ⟨w5.heap.size, 6, none⟩ = false := froK q3 6
      have y7 : w8.cell? ⟨w5.heap.size, 7, none⟩ = some (.slice none 0 0) := cellK q3 7
      have yf7 : w8.frozen? ⟨w5.heap.size, 7, none⟩ = false := froK q3 7
      have z0 : w8.cell? ⟨w.heap.size, 0, none⟩ = some (.string ⟨#[]⟩) := cellK q2 0
      have zf0 : w8.frozen? ⟨w.heap.size, 0, none⟩ = false := froK q2 0
      have z1 : w8.cell? ⟨w.heap.size, 1, none⟩ = some (.int .i64 0) := cellK q2 1
      have zf1 : w8.frozen? ⟨w.heap.size, 1, none⟩ = false := froK q2 1
      have z2 : w8.cell? ⟨w.heap.size, 2, none⟩ = some (.string ⟨#[]⟩) := cellK q2 2
      have zf2 : w8.frozen? ⟨w.heap.size, 2, none⟩ = false := froK q2 2
      have z3 : w8.cell? ⟨w.heap.size, 3, none⟩ = some (.string ⟨#[]⟩) := cellK q2 3
      have zf3 : w8.frozen? ⟨w.heap.size, 3, none⟩ = false := froK q2 3
      have z4 : w8.cell? ⟨w.heap.size, 4, none⟩ = some (.bool false) := cellK q2 4
      have zf4 : w8.frozen? ⟨w.heap.size, 4, none⟩ = false := froK q2 4
      have z5 : w8.cell? ⟨w.heap.size, 5, none⟩ = some (.string ⟨#[]⟩) := cellK q2 5
      have zf5 : w8.frozen? ⟨w.heap.size, 5, none⟩ = false := froK q2 5
      have z6 : w8.cell? ⟨w.heap.size, 6, none⟩ = some (.bool false) := cellK q2 6
      have zf6 : w8.frozen? ⟨w.heap.size, 6, none⟩ = false := froK q2 6
      have z7 : w8.cell? ⟨w.heap.size, 7, none⟩ = some (.slice none 0 0) := cellK q2 7
      have zf7 : w8.frozen? ⟨w.heap.size, 7, none⟩ = false := froK q2 7
      clear q2 q3
      go_wp2_with fail
      exact bodyPost_ret (v := .agg #[.string t1, .int .i64 (1 + r2), .string t3, .string t4, .bool (!x5), .string t8, .bool false, .slice none 0 0]) (by simp [results, Try.results39, go_sem, *]) rfl ⟨_, _, _, _, _, _, _, none, 0, 0, [], rfl, ht1, ht3, ht4, ht8, ⟨rfl, Nat.le_refl _, by omega, fun j x hx => by simp at hx, .inl rfl⟩, .inl rfl, (((((((((HD8.out.set (b := w5.heap.size) (i := 5) _ (Nat.le_of_lt hA)).set (b := w.heap.size) (i := 0) _ (Nat.le_refl _)).set (b := w.heap.size) (i := 1) _ (Nat.le_refl _)).set (b := w.heap.size) (i := 2) _ (Nat.le_refl _)).set (b := w.heap.size) (i := 3) _ (Nat.le_refl _)).set (b := w.heap.size) (i := 4) _ (Nat.le_refl _)).set (b := w.heap.size) (i := 5) _ (Nat.le_refl _)).set (b := w.heap.size) (i := 6) _ (Nat.le_refl _)).set (b := w.heap.size) (i := 7) _ (Nat.le_refl _))⟩
    have q71 : (r7 == 1) = false := by simp [h1]
    by_cases h2 : r7 = 2
    · subst h2
      clear h0 h1
      have q3 := GA7.out
      have q2 := GB7.out
      have y0 : w7.cell? ⟨w5.heap.size, 0, none⟩ = some (.string t1) := cellK q3 0
      have yf0 : w7.frozen? ⟨w5.heap.size, 0, none⟩ = false := froK q3 0
      have y1 : w7.cell? ⟨w5.heap.size, 1, none⟩ = some (.int .i64 (1 + r2)) := cellK q3 1
      have yf1 : w7.frozen? ⟨w5.heap.size, 1, none⟩ = false := froK q3 1
      have y2 : w7.cell? ⟨w5.heap.size, 2, none⟩ = some (.string t3) := cellK q3 2
      have yf2 : w7.frozen? ⟨w5.heap.size, 2, none⟩ = false := froK q3 2
      have y3 : w7.cell? ⟨w5.heap.size, 3, none⟩ = some (.string t4) := cellK q3 3
      have yf3 : w7.frozen? ⟨w5.heap.size, 3, none⟩ = false := froK q3 3
      have y4 : w7.cell? ⟨w5.heap.size, 4, none⟩ = some (.bool (!x5)) := cellK q3 4
      have yf4 : w7.frozen? ⟨w5.heap.size, 4, none⟩ = false := froK q3 4
      have y5 : w7.cell? ⟨w5.heap.size, 5, none⟩ = some (.string ⟨#[]⟩) := cellK q3 5
      have yf5 : w7.frozen? ⟨w5.heap.size, 5, none⟩ = false := froK q3 5
      have y6 : w7.cell? ⟨w5.heap.size, 6, none⟩ = some (.bool false) := cellK q3 6
      have yf6 : w7.frozen? ⟨w5.heap.size, 6, none⟩ = false := froK q3 6
      have y7 : w7.cell? ⟨w5.heap.size, 7, none⟩ = some (.slice none 0 0) := cellK q3 7
      have yf7 : w7.frozen? ⟨w5.heap.size, 7, none⟩ = false := froK q3 7
      have z0 : w7.cell? ⟨w.heap.size, 0, none⟩ = some (.string ⟨#[]⟩) := cellK q2 0
      have zf0 : w7.frozen? ⟨w.heap.size, 0, none⟩ = false := froK q2 0
      have z1 : w7.cell? ⟨w.heap.size, 1, none⟩ = some (.int .i64 0) := cellK q2 1
      have zf1 : w7.frozen? ⟨w.heap.size, 1, none⟩ = false := froK q2 1
      have z2 : w7.cell? ⟨w.heap.size, 2, none⟩ = some (.string ⟨#[]⟩) := cellK q2 2
      have zf2 : w7.frozen? ⟨w.heap.size, 2, none⟩ = false := froK q2 2
      have z3 : w7.cell? ⟨w.heap.size, 3, none⟩ = some (.string ⟨#[]⟩) := cellK q2 3
      have zf3 : w7.frozen? ⟨w.heap.size, 3, none⟩ = false := froK q2 3
      have z4 : w7.cell? ⟨w.heap.size, 4, none⟩ = some (.bool false) := cellK q2 4
      have zf4 : w7.frozen? ⟨w.heap.size, 4, none⟩ = false := froK q2 4
      have z5 : w7.cell? ⟨w.heap.size, 5, none⟩ = some (.string ⟨#[]⟩) := cellK q2 5
      have zf5 : w7.frozen? ⟨w.heap.size, 5, none⟩ = false := froK q2 5
      have z6 : w7.cell? ⟨w.heap.size, 6, none⟩ = some (.bool false) := cellK q2 6
      have zf6 : w7.frozen? ⟨w.heap.size, 6, none⟩ = false := froK q2 6
      have z7 : w7.cell? ⟨w.heap.size, 7, none⟩ = some (.slice none 0 0) := cellK q2 7
      have zf7 : w7.frozen? ⟨w.heap.size, 7, none⟩ = false := froK q2 7
      clear q2 q3
      go_wp2_with fail
      exact bodyPost_ret (v := .agg #[.string t1, .int .i64 (1 + r2), .string t3, .string t4, .bool (!x5), .string ⟨#[]⟩, .bool true, .slice none 0 0]) (by simp [results, Try.results39, go_sem, *]) rfl ⟨_, _, _, _, _, _, _, none, 0, 0, [], rfl, ht1, ht3, ht4, (by decide), ⟨rfl, Nat.le_refl _, by omega, fun j x hx => by simp at hx, .inl rfl⟩, .inl rfl, (((((((((HD7.out.set (b := w5.heap.size) (i := 6) _ (Nat.le_of_lt hA)).set (b := w.heap.size) (i := 0) _ (Nat.le_refl _)).set (b := w.heap.size) (i := 1) _ (Nat.le_refl _)).set (b := w.heap.size) (i := 2) _ (Nat.le_refl _)).set (b := w.heap.size) (i := 3) _ (Nat.le_refl _)).set (b := w.heap.size) (i := 4) _ (Nat.le_refl _)).set (b := w.heap.size) (i := 5) _ (Nat.le_refl _)).set (b := w.heap.size) (i := 6) _ (Nat.le_refl _)).set (b := w.heap.size) (i := 7) _ (Nat.le_refl _))⟩
    have q72 : (r7 == 2) = false := by simp [h2]
    clear h0 h1 h2
    go_wp2_with fail
    refine (pick_new HD7.out.src [⟨#[110, 50]⟩, ⟨#[110, 49]⟩] 2 _ _ (by simp) rfl (by decide) (by decide) (by decide)).mono ?_
    rintro e w8 ⟨t8, rfl, ht8, hs, hg⟩
    have HD8 := hidK (HD7.out.next hs hg)
    have GA8 := hidK (gk hg (by omega) GA7.out)
    have GB8 := hidK (gk hg (by omega) GB7.out)
    clear hs hg GA7 GB7 HD7
    have h8A := lt_of_some GA8.out
    have h8B := lt_of_some GB8.out
    have q3 := GA8.out
    have q2 := GB8.out
    have HDZ := hidK ((((((((((HD8.out.set (b := w5.heap.size) (i := 7) (.slice (some ⟨w8.heap.size, 0, none⟩) 2 2) (Nat.le_of_lt hA)).set (b := w.heap.size) (i := 0) (.string t1) (Nat.le_refl _)).set (b := w.heap.size) (i := 1) (.int .i64 (1 + r2)) (Nat.le_refl _)).set (b := w.heap.size) (i := 2) (.string t3) (Nat.le_refl _)).set (b := w.heap.size) (i := 3) (.string t4) (Nat.le_refl _)).set (b := w.heap.size) (i := 4) (.bool (!x5)) (Nat.le_refl _)).set (b := w.heap.size) (i := 5) (.string ⟨#[]⟩) (Nat.le_refl _)).set (b := w.heap.size) (i := 6) (.bool false) (Nat.le_refl _)).set (b := w.heap.size) (i := 7) (.slice (some ⟨w8.heap.size, 0, none⟩) 2 2) (Nat.le_refl _)).alloc (.cells #[.string ⟨#[110, 49]⟩, .string t8] 9))
    have HLB : Hid (((((((((((w8.setCell ⟨w5.heap.size, 7, none⟩ (.slice (some ⟨w8.heap.size, 0, none⟩) 2 2)).setCell ⟨w.heap.size, 0, none⟩ (.string t1)).setCell ⟨w.heap.size, 1, none⟩ (.int .i64 (1 + r2))).setCell ⟨w.heap.size, 2, none⟩ (.string t3)).setCell ⟨w.heap.size, 3, none⟩ (.string t4)).setCell ⟨w.heap.size, 4, none⟩ (.bool (!x5))).setCell ⟨w.heap.size, 5, none⟩ (.string ⟨#[]⟩)).setCell ⟨w.heap.size, 6, none⟩ (.bool false)).setCell ⟨w.heap.size, 7, none⟩ (.slice (some ⟨w8.heap.size, 0, none⟩) 2 2)).alloc (.cells #[.string ⟨#[110, 49]⟩, .string t8] 9)).heap[w8.heap.size]? = some (.cells #[.string ⟨#[110, 49]⟩, .string t8] 9 (0, 0))) := push_at _ _ _ (by simp [World.setCell])
    have y0 : w8.cell? ⟨w5.heap.size, 0, none⟩ = some (.string t1) := cellK q3 0
    have yf0 : w8.frozen? ⟨w5.heap.size, 0, none⟩ = false := froK q3 0
    have y1 : w8.cell? ⟨w5.heap.size, 1, none⟩ = some (.int .i64 (1 + r2)) := cellK q3 1
    have yf1 : w8.frozen? ⟨w5.heap.size, 1, none⟩ = false := froK q3 1
    have y2 : w8.cell? ⟨w5.heap.size, 2, none⟩ = some (.string t3) := cellK q3 2
    have yf2 : w8.frozen? ⟨w5.heap.size, 2, none⟩ = false := froK q3 2
    have y3 : w8.cell? ⟨w5.heap.size, 3, none⟩ = some (.string t4) := cellK q3 3
    have yf3 : w8.frozen? ⟨w5.heap.size, 3, none⟩ = false := froK q3 3
    have y4 : w8.cell? ⟨w5.heap.size, 4, none⟩ = some (.bool (!x5)) := cellK q3 4
    have yf4 : w8.frozen? ⟨w5.heap.size, 4, none⟩ = false := froK q3 4
    have y5 : w8.cell? ⟨w5.heap.size, 5, none⟩ = some (.string ⟨#[]⟩) := cellK q3 5
    have yf5 : w8.frozen? ⟨w5.heap.size, 5, none⟩ = false := froK q3 5
    have y6 : w8.cell? ⟨w5.heap.size, 6, none⟩ = some (.bool false) := cellK q3 6
    have yf6 : w8.frozen? ⟨w5.heap.size, 6, none⟩ = false := froK q3 6
    have y7 : w8.cell? ⟨w5.heap.size, 7, none⟩ = some (.slice none 0 0) := cellK q3 7
    have yf7 : w8.frozen? ⟨w5.heap.size, 7, none⟩ = false := froK q3 7
    have z0 : w8.cell? ⟨w.heap.size, 0, none⟩ = some (.string ⟨#[]⟩) := cellK q2 0
    have zf0 : w8.frozen? ⟨w.heap.size, 0, none⟩ = false := froK q2 0
    have z1 : w8.cell? ⟨w.heap.size, 1, none⟩ = some (.int .i64 0) := cellK q2 1
    have zf1 : w8.frozen? ⟨w.heap.size, 1, none⟩ = false := froK q2 1
    have z2 : w8.cell? ⟨w.heap.size, 2, none⟩ = some (.string ⟨#[]⟩) := cellK q2 2
    have zf2 : w8.frozen? ⟨w.heap.size, 2, none⟩ = false := froK q2 2
    have z3 : w8.cell? ⟨w.heap.size, 3, none⟩ = some (.string ⟨#[]⟩) := cellK q2 3
    have zf3 : w8.frozen? ⟨w.heap.size, 3, none⟩ = false := froK q2 3
    have z4 : w8.cell? ⟨w.heap.size, 4, none⟩ = some (.bool false) := cellK q2 4
    have zf4 : w8.frozen? ⟨w.heap.size, 4, none⟩ = false := froK q2 4
    have z5 : w8.cell? ⟨w.heap.size, 5, none⟩ = some (.string ⟨#[]⟩) := cellK q2 5
    have zf5 : w8.frozen? ⟨w.heap.size, 5, none⟩ = false := froK q2 5
    have z6 : w8.cell? ⟨w.heap.size, 6, none⟩ = some (.bool false) := cellK q2 6
    have zf6 : w8.frozen? ⟨w.heap.size, 6, none⟩ = false := froK q2 6
    have z7 : w8.cell? ⟨w.heap.size, 7, none⟩ = some (.slice none 0 0) := cellK q2 7
    have zf7 : w8.frozen? ⟨w.heap.size, 7, none⟩ = false := froK q2 7
    clear q2 q3 GA8 GB8
    go_wp2_with fail
    refine bodyPost_ret (v := .agg #[.string t1, .int .i64 (1 + r2), .string t3, .string t4, .bool (!x5), .string ⟨#[]⟩, .bool false, .slice (some ⟨w8.heap.size, 0, none⟩) 2 2]) (by simp [results, Try.results39, go_sem, *]) rfl ⟨_, _, _, _, _, _, _, some ⟨w8.heap.size, 0, none⟩, 2, 2, [⟨#[110, 49]⟩, t8], rfl, ht1, ht3, ht4, (by decide), ?_, .inr ⟨_, _, rfl, by omega, HLB.out⟩, HDZ.out⟩
    refine TxRow.copy (T := 9) HLB.out rfl (by decide) ?_
    intro j x hx
    match j, hx with
    | 0, hx => cases hx; decide
    | 1, hx => cases hx; omega
    | j + 2, hx => simp at hx
  · skip
    have q3 := GA'.out
    have q2 := GB'.out
    have y0 : w6.cell? ⟨w5.heap.size, 0, none⟩ = some (.string t1) := cellK q3 0
    have yf0 : w6.frozen? ⟨w5.heap.size, 0, none⟩ = false := froK q3 0
    have y1 : w6.cell? ⟨w5.heap.size, 1, none⟩ = some (.int .i64 (1 + r2)) := cellK q3 1
    have yf1 : w6.frozen? ⟨w5.heap.size, 1, none⟩ = false := froK q3 1
    have y2 : w6.cell? ⟨w5.heap.size, 2, none⟩ = some (.string t3) := cellK q3 2
    have yf2 : w6.frozen? ⟨w5.heap.size, 2, none⟩ = false := froK q3 2
    have y3 : w6.cell? ⟨w5.heap.size, 3, none⟩ = some (.string t4) := cellK q3 3
    have yf3 : w6.frozen? ⟨w5.heap.size, 3, none⟩ = false := froK q3 3
    have y4 : w6.cell? ⟨w5.heap.size, 4, none⟩ = some (.bool (!x5)) := cellK q3 4
    have yf4 : w6.frozen? ⟨w5.heap.size, 4, none⟩ = false := froK q3 4
    have y5 : w6.cell? ⟨w5.heap.size, 5, none⟩ = some (.string ⟨#[]⟩) := cellK q3 5
    have yf5 : w6.frozen? ⟨w5.heap.size, 5, none⟩ = false := froK q3 5
    have y6 : w6.cell? ⟨w5.heap.size, 6, none⟩ = some (.bool false) := cellK q3 6
    have yf6 : w6.frozen? ⟨w5.heap.size, 6, none⟩ = false := froK q3 6
    have y7 : w6.cell? ⟨w5.heap.size, 7, none⟩ = some (.slice none 0 0) := cellK q3 7
    have yf7 : w6.frozen? ⟨w5.heap.size, 7, none⟩ = false := froK q3 7
    have z0 : w6.cell? ⟨w.heap.size, 0, none⟩ = some (.string ⟨#[]⟩) := cellK q2 0
    have zf0 : w6.frozen? ⟨w.heap.size, 0, none⟩ = false := froK q2 0
    have z1 : w6.cell? ⟨w.heap.size, 1, none⟩ = some (.int .i64 0) := cellK q2 1
    have zf1 : w6.frozen? ⟨w.heap.size, 1, none⟩ = false := froK q2 1
    have z2 : w6.cell? ⟨w.heap.size, 2, none⟩ = some (.string ⟨#[]⟩) := cellK q2 2
    have zf2 : w6.frozen? ⟨w.heap.size, 2, none⟩ = false := froK q2 2
    have z3 : w6.cell? ⟨w.heap.size, 3, none⟩ = some (.string ⟨#[]⟩) := cellK q2 3
    have zf3 : w6.frozen? ⟨w.heap.size, 3, none⟩ = false := froK q2 3
    have z4 : w6.cell? ⟨w.heap.size, 4, none⟩ = some (.bool false) := cellK q2 4
    have zf4 : w6.frozen? ⟨w.heap.size, 4, none⟩ = false := froK q2 4
    have z5 : w6.cell? ⟨w.heap.size, 5, none⟩ = some (.string ⟨#[]⟩) := cellK q2 5
    have zf5 : w6.frozen? ⟨w.heap.size, 5, none⟩ = false := froK q2 5
    have z6 : w6.cell? ⟨w.heap.size, 6, none⟩ = some (.bool false) := cellK q2 6
    have zf6 : w6.frozen? ⟨w.heap.size, 6, none⟩ = false := froK q2 6
    have z7 : w6.cell? ⟨w.heap.size, 7, none⟩ = some (.slice none 0 0) := cellK q2 7
    have zf7 : w6.frozen? ⟨w.heap.size, 7, none⟩ = false := froK q2 7
    clear q2 q3
    go_wp2_with fail
    exact bodyPost_ret (v := .agg #[.string t1, .int .i64 (1 + r2), .string t3, .string t4, .bool (!x5), .string ⟨#[]⟩, .bool false, .slice none 0 0]) (by simp [results, Try.results39, go_sem, *]) rfl ⟨_, _, _, _, _, _, _, none, 0, 0, [], rfl, ht1, ht3, ht4, (by decide), ⟨rfl, Nat.le_refl _, by omega, fun j x hx => by simp at hx, .inl rfl⟩, .inl rfl, ((((((((HDJ.out.set (b := w.heap.size) (i := 0) _ (Nat.le_refl _)).set (b := w.heap.size) (i := 1) _ (Nat.le_refl _)).set (b := w.heap.size) (i := 2) _ (Nat.le_refl _)).set (b := w.heap.size) (i := 3) _ (Nat.le_refl _)).set (b := w.heap.size) (i := 4) _ (Nat.le_refl _)).set (b := w.heap.size) (i := 5) _ (Nat.le_refl _)).set (b := w.heap.size) (i := 6) _ (Nat.le_refl _)).set (b := w.heap.size) (i := 7) _ (Nat.le_refl _))⟩

end Dk
end Go.Proofs.Ytjkgpkgbaapdmaa
