/-
  The draw for BestFor: a list of volumes, a claim and a zone.
-/
import Derived.Test.YtjkgpkgbaapdmaaDrawW
import Derived.Test.YtjkgpkgbaapdmaaDrawM
import Derived.Test.YtjkgpkgbaapdmaaVList
import Derived.Laws.AppendOwn
namespace Go.Proofs.Ytjkgpkgbaapdmaa
open Go.RowKit
namespace Dk

/-- A volume and where its list lies. -/
structure Wx where
  v : Vd
  a : Option Addr
  len : Nat
  cap : Nat
def Wx.cs (x : Wx) : List Value := [.string x.v.n, .int .i64 x.v.c, .string x.v.z, .string x.v.k, .bool x.v.x, .string x.v.m, .bool x.v.y, .slice x.a x.len x.cap]
def Wx.Ok (lo : Nat) (x : Wx) (w : World) : Prop := x.v.Fit ∧ TxRow w x.a x.len x.cap x.v.zs ∧ (x.v.zs = [] ∨ ∃ g cur, x.a = some (⟨g, 0, none⟩ : Addr) ∧ lo ≤ g ∧ w.heap[g]? = some (.cells cur 9 (0, 0)))
theorem Wx.Ok.kept {lo : Nat} {x : Wx} {w w' : World} {row : Option Nat} (h : x.Ok lo w) (hg : w.grownBy w' row) (hr : ∀ g cur, lo ≤ g → w.heap[g]? = some (.cells cur 9 (0, 0)) → ¬ row = some g) : x.Ok lo w' := by
  obtain ⟨h1, ⟨q1, q2, q3, q4, q5⟩, h3⟩ := h
  refine ⟨h1, ⟨q1, q2, q3, q4, ?_⟩, ?_⟩
  · rcases h3 with h3 | ⟨g, cur, e, hl, hh⟩
    · exact .inl h3
    rcases q5 with q5 | ⟨b, o, e2, hlt, hc⟩
    · exact .inl q5
    rw [e] at e2
    cases e2
    have hs := hg.block g hlt (fun e => hr g cur hl hh e.symm)
    exact .inr ⟨g, 0, e, Nat.lt_of_lt_of_le hlt hg.size, fun j y hy => by have := hc j y hy; simp only [World.cell?, hs] at this ⊢; exact this⟩
  · rcases h3 with h3 | ⟨g, cur, e, hl, hh⟩
    · exact .inl h3
    · exact .inr ⟨g, cur, e, hl, (hg.block g (lt_of_some hh) (fun e => hr g cur hl hh e.symm)).trans hh⟩
/-- The list that is built. -/
structure LSt (lo : Nat) (lv : Value) (xs : List Wx) (w : World) : Prop where
  row : w.ownsRow lo 30 8 lv xs.length (xs.flatMap Wx.cs)
  all : ∀ x ∈ xs, x.Ok lo w
theorem LSt.kept {lo p : Nat} {lv : Value} {xs : List Wx} {w w' : World} (h : LSt lo lv xs w) (hg : w.grownBy w' (some p)) (hp : p < lo) : LSt lo lv xs w' :=
  ⟨h.row.kept hg (.inr (fun e => by have := (h.row.lt _ e).1; omega)), fun x hx => (h.all x hx).kept hg (fun g cur h1 _ e => by simp at e; omega)⟩
theorem LSt.alloc {lo : Nat} {lv : Value} {xs : List Wx} {w : World} (h : LSt lo lv xs w) (o : Obj) : LSt lo lv xs (w.alloc o) :=
  ⟨h.row.alloc o, fun x hx => (h.all x hx).kept (grown_alloc w o none) (fun g cur h1 _ e => by cases e)⟩
theorem LSt.set {lo b i : Nat} {lv : Value} {xs : List Wx} {w : World} {u : Value} {vs : Array Value} (h : LSt lo lv xs w) (hb : w.heap[b]? = some (.cells vs 30 (0, 0))) (hn : lv.ownBlock ≠ some b) : LSt lo lv xs (w.setCell ⟨b, i, none⟩ u) :=
  ⟨h.row.kept (grown_set w b i u) (.inr hn), fun x hx => (h.all x hx).kept (grown_set w b i u) (fun g cur h1 hh e => by cases e; rw [hb] at hh; simp at hh)⟩
theorem LSt.app {lo : Nat} {lv v' : Value} {xs : List Wx} {w w' : World} {x : Wx} (h : LSt lo lv xs w) (hx : x.Ok lo w) (hown : w'.ownsRow lo 30 8 v' (xs.length + 1) (xs.flatMap Wx.cs ++ x.cs)) (hg : w.grownBy w' lv.ownBlock) : LSt lo v' (xs ++ [x]) w' := by
  have hk : ∀ g cur, lo ≤ g → w.heap[g]? = some (.cells cur 9 (0, 0)) → ¬ lv.ownBlock = some g := fun g cur _ hh e => by
    rcases h.row.2 with ⟨rfl, _⟩ | ⟨g', cap, cu, rfl, _, hg', _⟩
    · cases e
    · simp [Value.ownBlock] at e
      subst e
      rw [hg'] at hh
      simp at hh
  refine ⟨by simpa using hown, fun y hy => ?_⟩
  rcases List.mem_append.1 hy with hy | hy
  · exact (h.all y hy).kept hg hk
  · simp at hy
    subst hy
    exact hx.kept hg hk
theorem flat_at : ∀ (xs : List Wx) {j i : Nat} {x : Wx}, xs[j]? = some x → i < 8 → (xs.flatMap Wx.cs)[j * 8 + i]? = x.cs[i]?
  | [], j, i, x, h, _ => by simp at h
  | y :: ys, j, i, x, h, hi => by
    have hl : y.cs.length = 8 := rfl
    rw [List.flatMap_cons]
    cases j with
    | zero =>
      simp only [List.getElem?_cons_zero, Option.some.injEq] at h
      subst h
      rw [List.getElem?_append_left (by omega)]
      simp
    | succ j =>
      simp only [List.getElem?_cons_succ] at h
      rw [List.getElem?_append_right (by omega), hl, show (j + 1) * 8 + i - 8 = j * 8 + i by omega]
      exact flat_at ys h hi
theorem LSt.vs {lo : Nat} {lv : Value} {xs : List Wx} {w : World} (h : LSt lo lv xs w) : ∃ a l cp, lv = .slice a l cp ∧ VsRow w a l cp (xs.map Wx.v) := by
  rcases h.row.2 with ⟨rfl, h0⟩ | ⟨g, cap, cu, rfl, hb, hg, hn, hc, hs, ht⟩
  · obtain rfl : xs = [] := List.eq_nil_of_length_eq_zero h0
    exact ⟨none, 0, 0, rfl, rfl, Nat.le_refl _, by omega, .inl rfl⟩
  · refine ⟨_, _, _, rfl, by simp, hn, by unfold maxLen at hc; omega, .inr ⟨g, 0, rfl, lt_of_some hg, fun j v hv => ?_⟩⟩
    rw [List.getElem?_map] at hv
    obtain ⟨x, hx, rfl⟩ := Option.map_eq_some_iff.1 hv
    have hj : j < xs.length := (List.getElem?_eq_some_iff.1 hx).1
    have cell : ∀ i, i < 8 → w.cell? ⟨g, 0 + j * 8 + i, none⟩ = x.cs[i]? := fun i hi => by
      rw [cellK hg, Nat.zero_add]
      have e1 : (cu.toList.take (xs.length * 8))[j * 8 + i]? = (xs.flatMap Wx.cs)[j * 8 + i]? := by rw [ht]
      rw [List.getElem?_take, if_pos (by omega)] at e1
      rw [← Array.getElem?_toList, e1]
      exact flat_at xs hx hi
    obtain ⟨f1, f2, -⟩ := h.all x (List.mem_of_getElem? hx)
    exact ⟨f1, x.a, x.len, x.cap, f2, cell 0 (by omega), cell 1 (by omega), cell 2 (by omega), cell 3 (by omega), cell 4 (by omega), cell 5 (by omega), cell 6 (by omega), cell 7 (by omega)⟩

def DrewLCZ (w : World) (e : Ending) (w' : World) : Prop :=
  ∃ a l cp vs n' c' k' x' u' t, e = .returned (.tuple #[.slice a l cp, .agg #[.string n', .int .i64 c', .string k', .bool x', .string u'], .string t]) ∧ (n'.size ≤ 100 ∧ k'.size ≤ 100 ∧ u'.size ≤ 100 ∧ t.size ≤ 100) ∧ VsRow w' a l cp vs ∧ vs.length ≤ 6 ∧ Below w.heap.size w w'

set_option maxRecDepth 100000 in
set_option maxHeartbeats 6400000 in
theorem drawBest_any (v : Value) (len : Nat) (w : World) (hR : RowIn w.heap.size w v len) : Calls Try.prog 8 #[v] w (DrewLCZ w) := by
  have hb0 := below1 w (.cells #[.string ⟨#[]⟩, .int .i64 0, .string ⟨#[]⟩, .bool false, .string ⟨#[]⟩] 25)
  have HR := hidK (RowIn.up (hR.below hb0) hb0.size)
  have HGC : Hid ((w.alloc (.cells #[.string ⟨#[]⟩, .int .i64 0, .string ⟨#[]⟩, .bool false, .string ⟨#[]⟩] 25)).heap[w.heap.size]? = some (.cells #[.string ⟨#[]⟩, .int .i64 0, .string ⟨#[]⟩, .bool false, .string ⟨#[]⟩] 25 (0, 0))) := Array.getElem?_push_size
  have HB0 := hidK hb0
  clear hR hb0
  obtain ⟨i0, hi, hz0, hz1, hz2⟩ := info_parts infoVol
  have HI : Hid (Try.prog.info? 30 = some i0 ∧ i0.zero = some (.agg #[.string ⟨#[]⟩, .int .i64 0, .string ⟨#[]⟩, .string ⟨#[]⟩, .bool false, .string ⟨#[]⟩, .bool false, .slice none 0 0]) ∧ i0.size = 8 ∧ i0.bytes = 112) := ⟨hi, hz0, hz1, hz2⟩
  clear hi hz0 hz1 hz2
  go_enter Try.func8, Try.ntmps8
  go_wp2_with fail
  refine (source_any v len _ HR.out).mono ?_
  rintro e w1 ⟨p, rfl, hs1⟩
  have HS1 := hidK hs1
  have hp1 := hs1.plt
  have hp0 : w.heap.size < p := by have := hs1.1; simp at this; omega
  clear hs1
  have HL1 : Hid (LSt w1.heap.size (.slice (some ⟨w1.heap.size, 0, none⟩) 0 0) [] (w1.alloc (.cells #[] 30))) := ⟨⟨rfl, .inr ⟨w1.heap.size, 0, #[], rfl, Nat.le_refl _, Array.getElem?_push_size, Nat.le_refl _, by unfold maxLen; omega, rfl, rfl⟩⟩, fun x hx => by simp at hx⟩
  have HD1 := hidK ((Dr.start HS1.out).alloc (.cells #[] 30))
  go_wp2_with fail
  refine (claim_any HD1.out.src).mono ?_
  rintro e w2 ⟨n', c', k', x', u', rfl, hn', hk', hu', hd2⟩
  have h12 : w1.heap.size < w2.heap.size := by have := hd2.gr.size; simp at this; omega
  have HL2 := hidK ((HL1.out.kept hd2.gr (by omega)).alloc (.cells #[.string n', .int .i64 c', .string k', .bool x', .string u'] 25))
  have HD2 := hidK ((HD1.out.next hd2.src hd2.gr).alloc (.cells #[.string n', .int .i64 c', .string k', .bool x', .string u'] 25))
  have G7 : Hid ((w2.alloc (.cells #[.string n', .int .i64 c', .string k', .bool x', .string u'] 25)).heap[w2.heap.size]? = some (.cells #[.string n', .int .i64 c', .string k', .bool x', .string u'] 25 (0, 0))) := Array.getElem?_push_size
  clear hd2 HL1 HD1
  go_wp2_with fail
  refine (HD2.out.src.n 6 (by decide)).mono ?_
  rintro e w3 ⟨r, rfl, ra, rb, hs3, hg3⟩
  have HL3 := hidK (HL2.out.kept hg3 (by omega))
  have G73 := hidK (gk hg3 (by omega) G7.out)
  have HS3 := hidK hs3
  have hr6 : r ≤ 6 := by omega
  clear hs3 hg3 HL2 HD2 G7 rb
  go_wp2_with fail
  go_loopw [6, 8] (fun lv0 vk wr => ∃ (lv : Value) (xs : List Wx) (k : Int), lv = lv0 ∧ vk = .int .i64 k ∧ 0 ≤ k ∧ k + xs.length ≤ 6 ∧ Hid (LSt w1.heap.size lv xs wr) ∧ Hid (wr.heap[w2.heap.size]? = some (.cells #[.string n', .int .i64 c', .string k', .bool x', .string u'] 25 (0, 0))) ∧ Hid (Src (w.alloc (.cells #[.string ⟨#[]⟩, .int .i64 0, .string ⟨#[]⟩, .bool false, .string ⟨#[]⟩] 25)).heap.size (w.alloc (.cells #[.string ⟨#[]⟩, .int .i64 0, .string ⟨#[]⟩, .bool false, .string ⟨#[]⟩] 25)) p v len wr)) (fun _ vk _ => (intOf vk).toNat)
  case atStart => exact ⟨_, [], r, rfl, rfl, ra, by simpa using hr6, HL3, G73, HS3⟩
  case round =>
    clear HL3 G73 HS3 HS1 hr6 ra
    obtain ⟨lv, xs, k, rfl, rfl, hk0, hk6, HL, HG, HS⟩ := hrel
    by_cases hk1 : 0 < k
    · go_wp2_with fail
      refine (volW_any HS.out).mono ?_
      rintro e w4 ⟨n, c, z, kk, x, m, y, a, l, cp, zs, rfl, hn, hz, hk, hm, htx, hti, hd4⟩
      have h4 := hd4.gr.size
      have h2r : w2.heap.size < wr.heap.size := lt_of_some HG.out
      have hne : ¬ w2.heap.size = w4.heap.size := by omega
      have hne' : ¬ w4.heap.size = w2.heap.size := by omega
      have hWs : (w.alloc (.cells #[.string ⟨#[]⟩, .int .i64 0, .string ⟨#[]⟩, .bool false, .string ⟨#[]⟩] 25)).heap.size = w.heap.size + 1 := by simp
      have hr1 : w1.heap.size ≤ wr.heap.size := by have := lt_of_some HG.out; omega
      have HL4 := hidK (HL.out.kept hd4.gr (by omega))
      have HG4 := hidK (gk hd4.gr (by omega) HG.out)
      have HD4 := hidK hd4
      have HX4 : Hid (∀ (k2 : ByteArray) (x2 : Bool), k2.size ≤ 100 → Wx.Ok w1.heap.size ⟨⟨n, c, z, k2, x2, m, y, zs⟩, a, l, cp⟩ w4) := fun k2 x2 h2 => ⟨⟨by show n.size ≤ _; omega, by show z.size ≤ _; omega, by show k2.size ≤ _; omega, by show m.size ≤ _; omega⟩, htx, hti.imp id fun ⟨g, cur, e, h1, h2⟩ => ⟨g, cur, e, by omega, h2⟩⟩
      have hbo : ∀ g, lv.ownBlock = some g → g < wr.heap.size := fun g e => (HL.out.row.lt g e).2
      have HBO := hidK hbo
      clear hd4 htx hti HL HG HS hbo
      have HL4a := hidK (HL4.out.alloc (.cells #[.string n, .int .i64 c, .string z, .string kk, .bool x, .string m, .bool y, .slice a l cp] 30))
      have HG4a := hidK ((Below.heap_alloc w4 (.cells #[.string n, .int .i64 c, .string z, .string kk, .bool x, .string m, .bool y, .slice a l cp] 30) _ (lt_of_some HG4.out)).trans HG4.out)
      have HD4a := hidK (HD4.out.alloc (.cells #[.string n, .int .i64 c, .string z, .string kk, .bool x, .string m, .bool y, .slice a l cp] 30))
      have G9 : Hid ((w4.alloc (.cells #[.string n, .int .i64 c, .string z, .string kk, .bool x, .string m, .bool y, .slice a l cp] 30)).heap[w4.heap.size]? = some (.cells #[.string n, .int .i64 c, .string z, .string kk, .bool x, .string m, .bool y, .slice a l cp] 30 (0, 0))) := Array.getElem?_push_size
      go_wp2_with fail
      refine (one_any HD4a.out.src 2 (by decide)).mono ?_
      rintro e w5 ⟨he, hs5, hg5⟩
      have HL5 := hidK (HL4a.out.kept hg5 (by omega))
      have HG5 := hidK (gk hg5 (by omega) HG4a.out)
      have G95 := hidK (gk hg5 (by have := lt_of_some G9.out; omega) G9.out)
      have HS5 := hidK hs5
      have hw45 : w4.heap.size < w5.heap.size := lt_of_some G95.out
      have HX5 : Hid (∀ (k2 : ByteArray) (x2 : Bool), k2.size ≤ 100 → Wx.Ok w1.heap.size ⟨⟨n, c, z, k2, x2, m, y, zs⟩, a, l, cp⟩ w5) := fun k2 x2 h2 => (((HX4.out k2 x2 h2).kept (grown_alloc w4 (.cells #[.string n, .int .i64 c, .string z, .string kk, .bool x, .string m, .bool y, .slice a l cp] 30) none) (fun g cur _ _ e => by cases e))).kept hg5 (fun g cur h1 _ e => by simp at e; omega)
      have q9 := G95.out
      have q7 := HG5.out
      have y0 : w5.cell? ⟨w4.heap.size, 0, none⟩ = some (.string n) := cellK q9 0
      have yf0 : w5.frozen? ⟨w4.heap.size, 0, none⟩ = false := froK q9 0
      have y1 : w5.cell? ⟨w4.heap.size, 1, none⟩ = some (.int .i64 c) := cellK q9 1
      have yf1 : w5.frozen? ⟨w4.heap.size, 1, none⟩ = false := froK q9 1
      have y2 : w5.cell? ⟨w4.heap.size, 2, none⟩ = some (.string z) := cellK q9 2
      have yf2 : w5.frozen? ⟨w4.heap.size, 2, none⟩ = false := froK q9 2
      have y3 : w5.cell? ⟨w4.heap.size, 3, none⟩ = some (.string kk) := cellK q9 3
      have yf3 : w5.frozen? ⟨w4.heap.size, 3, none⟩ = false := froK q9 3
      have y4 : w5.cell? ⟨w4.heap.size, 4, none⟩ = some (.bool x) := cellK q9 4
      have yf4 : w5.frozen? ⟨w4.heap.size, 4, none⟩ = false := froK q9 4
      have y5 : w5.cell? ⟨w4.heap.size, 5, none⟩ = some (.string m) := cellK q9 5
      have yf5 : w5.frozen? ⟨w4.heap.size, 5, none⟩ = false := froK q9 5
      have y6 : w5.cell? ⟨w4.heap.size, 6, none⟩ = some (.bool y) := cellK q9 6
      have yf6 : w5.frozen? ⟨w4.heap.size, 6, none⟩ = false := froK q9 6
      have y7 : w5.cell? ⟨w4.heap.size, 7, none⟩ = some (.slice a l cp) := cellK q9 7
      have yf7 : w5.frozen? ⟨w4.heap.size, 7, none⟩ = false := froK q9 7
      have d0 : w5.cell? ⟨w2.heap.size, 0, none⟩ = some (.string n') := cellK q7 0
      have d1 : w5.cell? ⟨w2.heap.size, 1, none⟩ = some (.int .i64 c') := cellK q7 1
      have d2 : w5.cell? ⟨w2.heap.size, 2, none⟩ = some (.string k') := cellK q7 2
      have d3 : w5.cell? ⟨w2.heap.size, 3, none⟩ = some (.bool x') := cellK q7 3
      have d4 : w5.cell? ⟨w2.heap.size, 4, none⟩ = some (.string u') := cellK q7 4
      clear q9 q7 hs5 hg5 HL4 HL4a HG4 HG4a HD4 HD4a G9 HX4
      rcases he with rfl | rfl
      · have hnb : lv.ownBlock ≠ some w4.heap.size := fun e => by have := HBO.out _ e; omega
        have HLX := hidK ((HL5.out.set (i := 3) (u := .string k') G95.out hnb).set (i := 4) (u := .bool x') (block_set G95.out _) hnb)
        have G9X : Hid (((w5.setCell ⟨w4.heap.size, 3, none⟩ (.string k')).setCell ⟨w4.heap.size, 4, none⟩ (.bool x')).heap[w4.heap.size]? = some (.cells #[.string n, .int .i64 c, .string z, .string k', .bool x', .string m, .bool y, .slice a l cp] 30 (0, 0))) := block_set (block_set G95.out _) _
        have HGX := hidK ((Below.heap_setCell (w5.setCell ⟨w4.heap.size, 3, none⟩ (.string k')) ⟨w4.heap.size, 4, none⟩ (.bool x') _ (show w2.heap.size ≠ w4.heap.size by omega)).trans ((Below.heap_setCell w5 ⟨w4.heap.size, 3, none⟩ (.string k') _ (show w2.heap.size ≠ w4.heap.size by omega)).trans HG5.out))
        have HSX := hidK ((HS5.out.keep (grown_set w5 w4.heap.size 3 (.string k')) (fun e => by simp at e; omega) (fun q hq => by simp at hq; omega)).keep (grown_set _ w4.heap.size 4 (.bool x')) (fun e => by simp at e; omega) (fun q hq => by simp at hq; omega))
        have HXX := hidK (((HX5.out k' x' hk').kept (grown_set w5 w4.heap.size 3 (.string k')) (fun g cur _ hh e => by cases e; rw [G95.out] at hh; simp at hh)).kept (grown_set _ w4.heap.size 4 (.bool x')) (fun g cur _ hh e => by cases e; rw [block_set G95.out] at hh; simp at hh))
        have hszx : ((w5.setCell ⟨w4.heap.size, 3, none⟩ (.string k')).setCell ⟨w4.heap.size, 4, none⟩ (.bool x')).heap.size = w5.heap.size := by simp [World.setCell]
        obtain ⟨hi, hz0, hz1, hz2⟩ := HI.out
        go_wp2_with (at_builtin; refine wpList_append_own _ rfl _ _ 23 rfl w1.heap.size 30 i0 (.agg #[.string ⟨#[]⟩, .int .i64 0, .string ⟨#[]⟩, .string ⟨#[]⟩, .bool false, .string ⟨#[]⟩, .bool false, .slice none 0 0]) 8 112 Try.underlying23 hi hz0 hz1 hz2 rfl (by decide) _ _ _ rfl (HLX.out.row.alloc _) ⟨w5.heap.size, 0, none⟩ 1 1 [.string n, .int .i64 c, .string z, .string k', .bool x', .string m, .bool y, .slice a l cp] rfl rfl ?c1 ?c2 ?c3 ?c4 ?c5 ?_)
        case c1 =>
          intro j u hj
          have hq := cellK (w := (((w5.setCell ⟨w4.heap.size, 3, none⟩ (.string k')).setCell ⟨w4.heap.size, 4, none⟩ (.bool x')).alloc (.cells #[.string n, .int .i64 c, .string z, .string k', .bool x', .string m, .bool y, .slice a l cp] 30))) (b := w5.heap.size) (push_at _ _ _ hszx) j
          rw [Addr.add_lit, Nat.zero_add, hq]
          simpa using hj
        case c2 => intro u hu; simp at hu; rcases hu with rfl | rfl | rfl | rfl | rfl | rfl | rfl | rfl <;> rfl
        case c3 => unfold maxLen; omega
        case c4 => omega
        case c5 => simp; omega
        intro v2 w6 hown hgrow _
        have hxo := (HXX.out.kept (grown_alloc ((w5.setCell ⟨w4.heap.size, 3, none⟩ (.string k')).setCell ⟨w4.heap.size, 4, none⟩ (.bool x')) (.cells #[.string n, .int .i64 c, .string z, .string k', .bool x', .string m, .bool y, .slice a l cp] 30) none) (fun g cur _ _ e => by cases e))
        have HL6 := hidK ((HLX.out.alloc (.cells #[.string n, .int .i64 c, .string z, .string k', .bool x', .string m, .bool y, .slice a l cp] 30)).app hxo hown hgrow)
        have hga := grown_trans (grown_alloc ((w5.setCell ⟨w4.heap.size, 3, none⟩ (.string k')).setCell ⟨w4.heap.size, 4, none⟩ (.bool x')) (.cells #[.string n, .int .i64 c, .string z, .string k', .bool x', .string m, .bool y, .slice a l cp] 30) lv.ownBlock) hgrow
        have hlo : ∀ g, lv.ownBlock = some g → w1.heap.size ≤ g := fun g e => (HLX.out.row.lt g e).1
        have hpo : lv.ownBlock ≠ some p := fun e => by have := hlo p e; omega
        have h2o : ¬ lv.ownBlock = some w2.heap.size := fun e => by
          rcases HLX.out.row.2 with ⟨rfl, _⟩ | ⟨g', cap', cu', rfl, _, hg', _⟩
          · cases e
          · simp [Value.ownBlock] at e; subst e; rw [HGX.out] at hg'; simp at hg'
        have HG6 := hidK ((hga.block w2.heap.size (lt_of_some HGX.out) (fun e => h2o e.symm)).trans HGX.out)
        have HS6 := hidK (HSX.out.keep hga hpo (fun q hq => by have := hlo q hq; omega))
        clear hown hgrow hxo hga hlo hpo h2o hi hz0 hz1 hz2
        go_wp2_with fail
        refine ⟨⟨v2, xs ++ [_], k - 1, rfl, by go_num, by omega, by simp; omega, HL6, HG6, HS6⟩, by simp [intOf]; omega⟩
      · have HLX := HL5
        have G9X := G95
        have HGX := HG5
        have HSX := HS5
        have HXX := hidK (HX5.out kk x hk)
        obtain ⟨hi, hz0, hz1, hz2⟩ := HI.out
        go_wp2_with (at_builtin; refine wpList_append_own _ rfl _ _ 23 rfl w1.heap.size 30 i0 (.agg #[.string ⟨#[]⟩, .int .i64 0, .string ⟨#[]⟩, .string ⟨#[]⟩, .bool false, .string ⟨#[]⟩, .bool false, .slice none 0 0]) 8 112 Try.underlying23 hi hz0 hz1 hz2 rfl (by decide) _ _ _ rfl (HLX.out.row.alloc _) ⟨w5.heap.size, 0, none⟩ 1 1 [.string n, .int .i64 c, .string z, .string kk, .bool x, .string m, .bool y, .slice a l cp] rfl rfl ?d1 ?d2 ?d3 ?d4 ?d5 ?_)
        case d1 =>
          intro j u hj
          have hq := cellK (w := (w5.alloc (.cells #[.string n, .int .i64 c, .string z, .string kk, .bool x, .string m, .bool y, .slice a l cp] 30))) (b := w5.heap.size) (push_at _ _ _ rfl) j
          rw [Addr.add_lit, Nat.zero_add, hq]
          simpa using hj
        case d2 => intro u hu; simp at hu; rcases hu with rfl | rfl | rfl | rfl | rfl | rfl | rfl | rfl <;> rfl
        case d3 => unfold maxLen; omega
        case d4 => omega
        case d5 => simp; omega
        intro v2 w6 hown hgrow _
        have hxo := (HXX.out.kept (grown_alloc w5 (.cells #[.string n, .int .i64 c, .string z, .string kk, .bool x, .string m, .bool y, .slice a l cp] 30) none) (fun g cur _ _ e => by cases e))
        have HL6 := hidK ((HLX.out.alloc (.cells #[.string n, .int .i64 c, .string z, .string kk, .bool x, .string m, .bool y, .slice a l cp] 30)).app hxo hown hgrow)
        have hga := grown_trans (grown_alloc w5 (.cells #[.string n, .int .i64 c, .string z, .string kk, .bool x, .string m, .bool y, .slice a l cp] 30) lv.ownBlock) hgrow
        have hlo : ∀ g, lv.ownBlock = some g → w1.heap.size ≤ g := fun g e => (HLX.out.row.lt g e).1
        have hpo : lv.ownBlock ≠ some p := fun e => by have := hlo p e; omega
        have h2o : ¬ lv.ownBlock = some w2.heap.size := fun e => by
          rcases HLX.out.row.2 with ⟨rfl, _⟩ | ⟨g', cap', cu', rfl, _, hg', _⟩
          · cases e
          · simp [Value.ownBlock] at e; subst e; rw [HGX.out] at hg'; simp at hg'
        have HG6 := hidK ((hga.block w2.heap.size (lt_of_some HGX.out) (fun e => h2o e.symm)).trans HGX.out)
        have HS6 := hidK (HSX.out.keep hga hpo (fun q hq => by have := hlo q hq; omega))
        clear hown hgrow hxo hga hlo hpo h2o hi hz0 hz1 hz2
        go_wp2_with fail
        refine ⟨⟨v2, xs ++ [_], k - 1, rfl, by go_num, by omega, by simp; omega, HL6, HG6, HS6⟩, by simp [intOf]; omega⟩
    · skip
      have hWs : (w.alloc (.cells #[.string ⟨#[]⟩, .int .i64 0, .string ⟨#[]⟩, .bool false, .string ⟨#[]⟩] 25)).heap.size = w.heap.size + 1 := by simp
      have h2r : w2.heap.size < wr.heap.size := lt_of_some HG.out
      have q6 := HG.out
      have a0 : wr.cell? ⟨w2.heap.size, 0, none⟩ = some (.string n') := cellK q6 0
      have a1 : wr.cell? ⟨w2.heap.size, 1, none⟩ = some (.int .i64 c') := cellK q6 1
      have a2 : wr.cell? ⟨w2.heap.size, 2, none⟩ = some (.string k') := cellK q6 2
      have a3 : wr.cell? ⟨w2.heap.size, 3, none⟩ = some (.bool x') := cellK q6 3
      have a4 : wr.cell? ⟨w2.heap.size, 4, none⟩ = some (.string u') := cellK q6 4
      clear q6
      go_wp2_with fail
      go_region_with (first | (go_at_call 41; refine (zone4_any (Src.drew HS.out)).mono ?_; rintro e wz ⟨tz, rfl, htz, hsz, hgz⟩; have hgw : wr.grownBy wz (some p) := ⟨hgz.os, hgz.tape, hgz.output, hgz.size, hgz.block⟩; have HLZ := hidK (HL.out.kept hgw (by omega)); have g6 := gk hgw (by omega) HG.out; have gv := (hsz.2.2.1.block _ (lt_of_some HGC.out)).trans HGC.out; have y0 : wz.cell? ⟨w2.heap.size, 0, none⟩ = some (.string n') := cellK g6 0; have y1 : wz.cell? ⟨w2.heap.size, 1, none⟩ = some (.int .i64 c') := cellK g6 1; have y2 : wz.cell? ⟨w2.heap.size, 2, none⟩ = some (.string k') := cellK g6 2; have y3 : wz.cell? ⟨w2.heap.size, 3, none⟩ = some (.bool x') := cellK g6 3; have y4 : wz.cell? ⟨w2.heap.size, 4, none⟩ = some (.string u') := cellK g6 4; have z0 : wz.cell? ⟨w.heap.size, 0, none⟩ = some (.string ⟨#[]⟩) := cellK gv 0; have zf0 : wz.frozen? ⟨w.heap.size, 0, none⟩ = false := froK gv 0; have z1 : wz.cell? ⟨w.heap.size, 1, none⟩ = some (.int .i64 0) := cellK gv 1; have zf1 : wz.frozen? ⟨w.heap.size, 1, none⟩ = false := froK gv 1; have z2 : wz.cell? ⟨w.heap.size, 2, none⟩ = some (.string ⟨#[]⟩) := cellK gv 2; have zf2 : wz.frozen? ⟨w.heap.size, 2, none⟩ = false := froK gv 2; have z3 : wz.cell? ⟨w.heap.size, 3, none⟩ = some (.bool false) := cellK gv 3; have zf3 : wz.frozen? ⟨w.heap.size, 3, none⟩ = false := froK gv 3; have z4 : wz.cell? ⟨w.heap.size, 4, none⟩ = some (.string ⟨#[]⟩) := cellK gv 4; have zf4 : wz.frozen? ⟨w.heap.size, 4, none⟩ = false := froK gv 4; have HBZ := hidK (HB0.out.trans (hsz.2.2.1.mono HB0.out.size)); clear g6 gv hsz hgz hgw))
      all_goals (
        go_wp2_with fail
        obtain ⟨a, l, cp, rfl, hvs⟩ := LSt.vs (((((HLZ.out.kept (grown_set _ w.heap.size 0 (.string n')) (by omega)).kept (grown_set _ w.heap.size 1 (.int .i64 c')) (by omega)).kept (grown_set _ w.heap.size 2 (.string k')) (by omega)).kept (grown_set _ w.heap.size 3 (.bool x')) (by omega)).kept (grown_set _ w.heap.size 4 (.string u')) (by omega))
        exact bodyPost_ret (v := .tuple #[.slice a l cp, .agg #[.string n', .int .i64 c', .string k', .bool x', .string u'], .string tz]) (by simp [results, Try.results8, go_sem, *]) rfl ⟨a, l, cp, _, n', c', k', x', u', tz, rfl, ⟨hn', hk', hu', htz⟩, hvs, by simp; omega, (set_below (Nat.le_refl _) (set_below (Nat.le_refl _) (set_below (Nat.le_refl _) (set_below (Nat.le_refl _) (set_below (Nat.le_refl _) HBZ.out)))))⟩)

end Dk
end Go.Proofs.Ytjkgpkgbaapdmaa
