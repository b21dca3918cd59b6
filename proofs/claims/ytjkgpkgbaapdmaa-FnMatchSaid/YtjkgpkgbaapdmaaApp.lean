/-
  A list of texts in memory of its own: ownNames of the program, and append onto an empty list.
-/
import Derived.Test.YtjkgpkgbaapdmaaKLaw
import Derived.Laws.AppendOwn
import Derived.Laws.AppendOwnNone
import Derived.Deep.AppendLies
namespace Go.Proofs.Ytjkgpkgbaapdmaa
open Go.RowKit
namespace Ap

/-- A list of its own, behind all that stood. -/
def OwnAns (zs : List ByteArray) (w : World) (a : Option Addr) (len cap : Nat) (w' : World) : Prop :=
  TxRow w' a len cap zs ∧ (zs = [] ∨ ∃ g cur, a = some ⟨g, 0, none⟩ ∧ w.heap.size ≤ g ∧ w'.heap[g]? = some (.cells cur 9 (0, 0))) ∧ Below w.heap.size w w'
theorem own_of {w w0 : World} {base n : Nat} {v : Value} {zs : List ByteArray} (h : w.ownsRow base 9 1 v n (zs.map Value.string)) (hb : Below base w0 w) (hB : base = w0.heap.size) (hs : ∀ (j : Nat) x, zs[j]? = some x → x.size ≤ 9223372036854775807) :
    ∃ a l c, v = .slice a l c ∧ OwnAns zs w0 a l c w := by
  subst hB
  obtain ⟨hl, h⟩ := h
  have hl' : zs.length = n := by simpa using hl
  rcases h with ⟨rfl, rfl⟩ | ⟨g, cap, cur, rfl, hbg, hg, hnc, hcm, hsz, htk⟩
  · obtain rfl : zs = [] := List.eq_nil_of_length_eq_zero hl'
    exact ⟨none, 0, 0, rfl, ⟨rfl, Nat.le_refl _, by omega, fun j x hx => by simp at hx, .inl rfl⟩, .inl rfl, hb⟩
  · refine ⟨some ⟨g, 0, none⟩, n, cap, rfl, ⟨hl', hnc, by unfold maxLen at hcm; omega, hs, .inr ⟨g, 0, rfl, lt_of_some hg, fun j x hx => ?_⟩⟩, .inr ⟨g, cur, rfl, hbg, hg⟩, hb⟩
    rw [Nat.zero_add, cellK hg]
    have hj : j < n := by have := (List.getElem?_eq_some_iff.1 hx).1; omega
    have e1 : (cur.toList.take (n * 1))[j]? = some (.string x) := by rw [htk]; simp [hx]
    rw [List.getElem?_take, if_pos (by omega)] at e1
    simpa using e1
theorem news_of {w : World} {ad : Addr} {len cap : Nat} {zs : List ByteArray} (h : TxRow w (some ad) len cap zs) : ∀ j u, (zs.map Value.string)[j]? = some u → w.cell? (ad.add j) = some u := by
  intro j u hu
  rw [List.getElem?_map] at hu
  obtain ⟨x, hx, rfl⟩ := Option.map_eq_some_iff.1 hu
  rcases h.2.2.2.2 with h | ⟨b, o, e, _, hc⟩
  · subst h; simp at hx
  · cases e
    rw [Addr.add_lit]
    exact hc j x hx

set_option maxHeartbeats 1600000 in
theorem ownNames_any (a : Option Addr) (len cap : Nat) (zs : List ByteArray) (w : World) (hr : TxRow w a len cap zs) (hl : len ≤ 8001) :
    Calls Try.prog 80 #[.slice a len cap] w fun e w' => ∃ a' l c, e = .returned (.slice a' l c) ∧ OwnAns zs w a' l c w' := by
  cases a with
  | none =>
    obtain rfl : zs = [] := by
      rcases hr.2.2.2.2 with h | ⟨b, o, e, _⟩
      · exact h
      · cases e
    obtain rfl : len = 0 := by have := hr.1; simpa using this.symm
    clear hr
    go_enter Try.func80, Try.ntmps80
    go_wp2
    go_ret
    exact ⟨_, _, _, rfl, ⟨rfl, Nat.le_refl _, by omega, fun j x hx => by simp at hx, .inl rfl⟩, .inl rfl, Below.refl _ _⟩
  | some ad =>
    have HN := hidK (news_of hr)
    have HZ := hidK hr.2.2.2.1
    have hzl : zs.length = len := hr.1
    clear hr
    obtain ⟨i0, hi, hz0, hz1, hz2⟩ := info_parts infoStr
    go_enter Try.func80, Try.ntmps80
    go_wp2_with (first | (at_builtin; refine wpList_append_own _ rfl _ _ 28 rfl w.heap.size 9 i0 (.string ⟨#[]⟩) 1 16 Try.underlying28 hi hz0 hz1 hz2 rfl (by decide) _ 0 _ rfl (World.ownsRow_nil w w.heap.size 9 1) ad len cap (zs.map Value.string) rfl ?c1 HN.out ?c3 ?c4 ?c5 (Nat.le_refl _) ?_))
    case c1 => simpa using hzl
    case c3 => intro u hu; obtain ⟨x, _, rfl⟩ := List.mem_map.1 hu; rfl
    case c4 => unfold maxLen; omega
    case c5 => omega
    intro v' w3 hown3 hgrow hv
    have HB3 := hidK ((Below.refl w.heap.size w).grown hgrow (Nat.le_refl _) (fun k hk => by cases hk))
    have HO := hidK hown3
    clear hown3 hgrow hv
    go_wp2
    go_ret
    obtain ⟨a', l, c, rfl, h2⟩ := own_of HO.out HB3.out rfl HZ.out
    exact ⟨a', l, c, rfl, h2⟩

/-- What lies behind the copy of a volume: the answer's block written over, the rest as it was. -/
theorem OwnAns.set {zs : List ByteArray} {w w' : World} {a : Option Addr} {l p b i X : Nat} {v : Value} (h : TxRow w' a l p zs ∧ (zs = [] ∨ ∃ g cur, a = some ⟨g, 0, none⟩ ∧ X ≤ g ∧ w'.heap[g]? = some (.cells cur 9 (0, 0))) ∧ Below w.heap.size w w') (hb : w.heap.size ≤ b) (hX : b < X) :
    TxRow (w'.setCell ⟨b, i, none⟩ v) a l p zs ∧ (zs = [] ∨ ∃ g cur, a = some ⟨g, 0, none⟩ ∧ X ≤ g ∧ (w'.setCell ⟨b, i, none⟩ v).heap[g]? = some (.cells cur 9 (0, 0))) ∧ Below w.heap.size w (w'.setCell ⟨b, i, none⟩ v) := by
  obtain ⟨⟨h1, h2, h3, h4, h5⟩, h6, h7⟩ := h
  refine ⟨⟨h1, h2, h3, h4, ?_⟩, ?_, h7.setCell hb v⟩
  · rcases h6 with h6 | ⟨g, cur, rfl, hg, hh⟩
    · exact .inl h6
    · rcases h5 with h5 | ⟨g', o, e, hl, hc⟩
      · exact .inl h5
      · cases e
        have hs : (w'.setCell ⟨b, i, none⟩ v).heap[g]? = w'.heap[g]? := Below.heap_setCell _ _ _ _ (show g ≠ b by omega)
        exact .inr ⟨g, 0, rfl, by simpa [World.setCell] using hl, fun j x hx => by have := hc j x hx; simp only [World.cell?, hs] at this ⊢; exact this⟩
  · rcases h6 with h6 | ⟨g, cur, rfl, hg, hh⟩
    · exact .inl h6
    · exact .inr ⟨g, cur, rfl, hg, (Below.heap_setCell _ _ _ _ (show g ≠ b by omega)).trans hh⟩

set_option maxHeartbeats 3200000 in
theorem scopy_any (n : ByteArray) (c : Int) (z : ByteArray) (k : ByteArray) (x : Bool) (m : ByteArray) (y : Bool) (a : Option Addr) (len cap : Nat) (zs : List ByteArray) (w : World) (hr : TxRow w a len cap zs) (hl : len ≤ 8001) :
    Calls Try.prog 58 #[.agg #[.string n, .int .i64 c, .string z, .string k, .bool x, .string m, .bool y, .slice a len cap]] w fun e w' => ∃ a' l p, e = .returned (.agg #[.string n, .int .i64 c, .string z, .string k, .bool x, .string m, .bool y, .slice a' l p]) ∧ OwnAns zs w a' l p w' := by
  have hown : (((w.alloc (.cells #[.string n, .int .i64 c, .string z, .string k, .bool x, .string m, .bool y, .slice a len cap] 30)).alloc (.cells #[.string ⟨#[]⟩, .int .i64 0, .string ⟨#[]⟩, .string ⟨#[]⟩, .bool false, .string ⟨#[]⟩, .bool false, .slice none 0 0] 30)).alloc (.cells #[] 9)).ownsRow (w.heap.size + 1 + 1) 9 1 (.slice (some ⟨w.heap.size + 1 + 1, 0, none⟩) 0 0) 0 [] := ⟨rfl, .inr ⟨w.heap.size + 1 + 1, 0, #[], rfl, Nat.le_refl _, heap3_2 _ _ _ _, Nat.le_refl _, by unfold maxLen; omega, rfl, rfl⟩⟩
  have HOW := hidK hown
  have hr3 := hr.below (below3 w (.cells #[.string n, .int .i64 c, .string z, .string k, .bool x, .string m, .bool y, .slice a len cap] 30) (.cells #[.string ⟨#[]⟩, .int .i64 0, .string ⟨#[]⟩, .string ⟨#[]⟩, .bool false, .string ⟨#[]⟩, .bool false, .slice none 0 0] 30) (.cells #[] 9))
  have HZ := hidK hr.2.2.2.1
  have hzl : zs.length = len := hr.1
  have HR3 := hidK hr3
  clear hown hr3
  obtain ⟨i0, hi, hz0, hz1, hz2⟩ := info_parts infoStr
  cases a with
  | none =>
    obtain rfl : zs = [] := by
      rcases hr.2.2.2.2 with h | ⟨b, o, e, _⟩
      · exact h
      · cases e
    obtain rfl : len = 0 := by simpa using hzl.symm
    clear hr HOW HR3 hi hz0 hz1 hz2
    go_enter Try.func58, Try.ntmps58
    go_wp2
    exact bodyPost_ret (v := .agg #[.string n, .int .i64 c, .string z, .string k, .bool x, .string m, .bool y, .slice (some ⟨w.heap.size + 1 + 1, 0, none⟩) 0 0]) (by simp [results, Try.results58, go_sem]) rfl ⟨_, _, _, rfl, ⟨rfl, Nat.le_refl _, by omega, fun j x hx => by simp at hx, .inl rfl⟩, .inl rfl, below3 _ _ _ _⟩
  | some ad =>
    have HN := hidK (news_of HR3.out)
    clear hr
    go_enter Try.func58, Try.ntmps58
    go_wp2_with (first | (at_builtin; refine wpList_append_own _ rfl _ _ 28 rfl (w.heap.size + 1 + 1) 9 i0 (.string ⟨#[]⟩) 1 16 Try.underlying28 hi hz0 hz1 hz2 rfl (by decide) _ 0 _ rfl HOW.out ad len cap (zs.map Value.string) rfl ?c1 HN.out ?c3 ?c4 ?c5 (by simp) ?_))
    case c1 => simpa using hzl
    case c3 => intro u hu; obtain ⟨x, _, rfl⟩ := List.mem_map.1 hu; rfl
    case c4 => unfold maxLen; omega
    case c5 => omega
    intro v' w3 hown3 hgrow hv
    have hb3 := (Below.refl (w.heap.size + 1 + 1) _).grown hgrow (by simp) (fun k hk => by simp [Value.ownBlock] at hk; omega)
    have g0 := (hb3.block w.heap.size (by omega)).trans (heap3_0 _ _ _ _)
    have g1 := (hb3.block (w.heap.size + 1) (by omega)).trans (heap3_1 _ _ _ _)
    obtain ⟨a', l, p, rfl, hq⟩ : ∃ a' l p, v' = .slice a' l p ∧ (TxRow w3 a' l p zs ∧ (zs = [] ∨ ∃ g cur, a' = some ⟨g, 0, none⟩ ∧ w.heap.size + 1 + 1 ≤ g ∧ w3.heap[g]? = some (.cells cur 9 (0, 0))) ∧ Below w.heap.size w w3) := by
      have hbw : Below w.heap.size w w3 := (below3 w _ _ _).trans (hb3.mono (by omega))
      have ho := hown3
      obtain ⟨hl1, h⟩ := ho
      have hl' : zs.length = len := hzl
      rcases h with ⟨rfl, h0⟩ | ⟨g, cp, cur, rfl, hbg, hg, hnc, hcm, hsz, htk⟩
      · obtain rfl : zs = [] := List.eq_nil_of_length_eq_zero (by omega)
        exact ⟨none, 0, 0, rfl, ⟨rfl, Nat.le_refl _, by omega, fun j x hx => by simp at hx, .inl rfl⟩, .inl rfl, hbw⟩
      · refine ⟨some ⟨g, 0, none⟩, len, cp, rfl, ⟨hl', hnc, by unfold maxLen at hcm; omega, HZ.out, .inr ⟨g, 0, rfl, lt_of_some hg, fun j x hx => ?_⟩⟩, .inr ⟨g, cur, rfl, hbg, hg⟩, hbw⟩
        rw [Nat.zero_add, cellK hg]
        have hj : j < len := by have := (List.getElem?_eq_some_iff.1 hx).1; omega
        have e1 : (cur.toList.take (len * 1))[j]? = some (.string x) := by rw [htk]; simp [hx]
        rw [List.getElem?_take, if_pos (by omega)] at e1
        simpa using e1
    have HQ := hidK hq
    have d0 : w3.cell? ⟨w.heap.size, 0, none⟩ = some (.string n) := cellK g0 0
    have df0 : w3.frozen? ⟨w.heap.size, 0, none⟩ = false := froK g0 0
    have d1 : w3.cell? ⟨w.heap.size, 1, none⟩ = some (.int .i64 c) := cellK g0 1
    have df1 : w3.frozen? ⟨w.heap.size, 1, none⟩ = false := froK g0 1
    have d2 : w3.cell? ⟨w.heap.size, 2, none⟩ = some (.string z) := cellK g0 2
    have df2 : w3.frozen? ⟨w.heap.size, 2, none⟩ = false := froK g0 2
    have d3 : w3.cell? ⟨w.heap.size, 3, none⟩ = some (.string k) := cellK g0 3
    have df3 : w3.frozen? ⟨w.heap.size, 3, none⟩ = false := froK g0 3
    have d4 : w3.cell? ⟨w.heap.size, 4, none⟩ = some (.bool x) := cellK g0 4
    have df4 : w3.frozen? ⟨w.heap.size, 4, none⟩ = false := froK g0 4
    have d5 : w3.cell? ⟨w.heap.size, 5, none⟩ = some (.string m) := cellK g0 5
    have df5 : w3.frozen? ⟨w.heap.size, 5, none⟩ = false := froK g0 5
    have d6 : w3.cell? ⟨w.heap.size, 6, none⟩ = some (.bool y) := cellK g0 6
    have df6 : w3.frozen? ⟨w.heap.size, 6, none⟩ = false := froK g0 6
    have d7 : w3.cell? ⟨w.heap.size, 7, none⟩ = some (.slice (some ad) len cap) := cellK g0 7
    have df7 : w3.frozen? ⟨w.heap.size, 7, none⟩ = false := froK g0 7
    have e0 : w3.cell? ⟨w.heap.size + 1, 0, none⟩ = some (.string ⟨#[]⟩) := cellK g1 0
    have ef0 : w3.frozen? ⟨w.heap.size + 1, 0, none⟩ = false := froK g1 0
    have e1 : w3.cell? ⟨w.heap.size + 1, 1, none⟩ = some (.int .i64 0) := cellK g1 1
    have ef1 : w3.frozen? ⟨w.heap.size + 1, 1, none⟩ = false := froK g1 1
    have e2 : w3.cell? ⟨w.heap.size + 1, 2, none⟩ = some (.string ⟨#[]⟩) := cellK g1 2
    have ef2 : w3.frozen? ⟨w.heap.size + 1, 2, none⟩ = false := froK g1 2
    have e3 : w3.cell? ⟨w.heap.size + 1, 3, none⟩ = some (.string ⟨#[]⟩) := cellK g1 3
    have ef3 : w3.frozen? ⟨w.heap.size + 1, 3, none⟩ = false := froK g1 3
    have e4 : w3.cell? ⟨w.heap.size + 1, 4, none⟩ = some (.bool false) := cellK g1 4
    have ef4 : w3.frozen? ⟨w.heap.size + 1, 4, none⟩ = false := froK g1 4
    have e5 : w3.cell? ⟨w.heap.size + 1, 5, none⟩ = some (.string ⟨#[]⟩) := cellK g1 5
    have ef5 : w3.frozen? ⟨w.heap.size + 1, 5, none⟩ = false := froK g1 5
    have e6 : w3.cell? ⟨w.heap.size + 1, 6, none⟩ = some (.bool false) := cellK g1 6
    have ef6 : w3.frozen? ⟨w.heap.size + 1, 6, none⟩ = false := froK g1 6
    have e7 : w3.cell? ⟨w.heap.size + 1, 7, none⟩ = some (.slice none 0 0) := cellK g1 7
    have ef7 : w3.frozen? ⟨w.heap.size + 1, 7, none⟩ = false := froK g1 7
    have HQ2 := hidK (OwnAns.set (OwnAns.set (OwnAns.set (OwnAns.set (OwnAns.set (OwnAns.set (OwnAns.set (OwnAns.set (OwnAns.set HQ.out (b := w.heap.size) (i := 7) (by omega) (by omega) (v := .slice a' l p)) (b := w.heap.size + 1) (i := 0) (by omega) (by omega) (v := (.string n))) (b := w.heap.size + 1) (i := 1) (by omega) (by omega) (v := (.int .i64 c))) (b := w.heap.size + 1) (i := 2) (by omega) (by omega) (v := (.string z))) (b := w.heap.size + 1) (i := 3) (by omega) (by omega) (v := (.string k))) (b := w.heap.size + 1) (i := 4) (by omega) (by omega) (v := (.bool x))) (b := w.heap.size + 1) (i := 5) (by omega) (by omega) (v := (.string m))) (b := w.heap.size + 1) (i := 6) (by omega) (by omega) (v := (.bool y))) (b := w.heap.size + 1) (i := 7) (by omega) (by omega) (v := (.slice a' l p)))
    clear hown3 hgrow hv hb3 g0 g1 hq
    go_wp2_with fail
    refine bodyPost_ret (v := .agg #[.string n, .int .i64 c, .string z, .string k, .bool x, .string m, .bool y, .slice a' l p]) (by simp [results, Try.results58, go_sem, *]) rfl ⟨a', l, p, rfl, HQ2.out.1, ?_, HQ2.out.2.2⟩
    rcases HQ2.out.2.1 with h | ⟨g, cur, h1, h2, h3⟩
    · exact .inl h
    · exact .inr ⟨g, cur, h1, by omega, h3⟩


set_option maxHeartbeats 3200000 in
theorem iown_any (n : ByteArray) (c : Int) (z : ByteArray) (k : ByteArray) (x : Bool) (m : ByteArray) (y : Bool) (a : Option Addr) (len cap : Nat) (zs : List ByteArray) (w : World) (hr : TxRow w a len cap zs) (hl : len ≤ 8001) :
    Calls Try.prog 49 #[.agg #[.string n, .int .i64 c, .string z, .string k, .bool x, .string m, .bool y, .slice a len cap]] w fun e w' => ∃ a' l p, e = .returned (.agg #[.string n, .int .i64 c, .string z, .string k, .bool x, .string m, .bool y, .slice a' l p]) ∧ OwnAns zs w a' l p w' := by
  have HR := hidK (hr.below (below2 w (.cells #[.string n, .int .i64 c, .string z, .string k, .bool x, .string m, .bool y, .slice a len cap] 30) (.cells #[.string ⟨#[]⟩, .int .i64 0, .string ⟨#[]⟩, .string ⟨#[]⟩, .bool false, .string ⟨#[]⟩, .bool false, .slice none 0 0] 30)))
  clear hr
  go_enter Try.func49, Try.ntmps49
  go_wp2_with fail
  refine (ownNames_any a len cap zs _ HR.out hl).mono ?_
  rintro e w3 ⟨a', l, p, rfl, h1, h2, hb⟩
  have g0 := (hb.block w.heap.size (by simp; omega)).trans (heap2_0 _ _ _)
  have g1 := (hb.block (w.heap.size + 1) (by simp)).trans (heap2_1 _ _ _)
  have HQ : Hid (TxRow w3 a' l p zs ∧ (zs = [] ∨ ∃ g cur, a' = some ⟨g, 0, none⟩ ∧ w.heap.size + 1 + 1 ≤ g ∧ w3.heap[g]? = some (.cells cur 9 (0, 0))) ∧ Below w.heap.size w w3) := ⟨h1, by simpa using h2, (below2 w _ _).trans (hb.mono (by simp; omega))⟩
  have d0 : w3.cell? ⟨w.heap.size, 0, none⟩ = some (.string n) := cellK g0 0
  have df0 : w3.frozen? ⟨w.heap.size, 0, none⟩ = false := froK g0 0
  have d1 : w3.cell? ⟨w.heap.size, 1, none⟩ = some (.int .i64 c) := cellK g0 1
  have df1 : w3.frozen? ⟨w.heap.size, 1, none⟩ = false := froK g0 1
  have d2 : w3.cell? ⟨w.heap.size, 2, none⟩ = some (.string z) := cellK g0 2
  have df2 : w3.frozen? ⟨w.heap.size, 2, none⟩ = false := froK g0 2
  have d3 : w3.cell? ⟨w.heap.size, 3, none⟩ = some (.string k) := cellK g0 3
  have df3 : w3.frozen? ⟨w.heap.size, 3, none⟩ = false := froK g0 3
  have d4 : w3.cell? ⟨w.heap.size, 4, none⟩ = some (.bool x) := cellK g0 4
  have df4 : w3.frozen? ⟨w.heap.size, 4, none⟩ = false := froK g0 4
  have d5 : w3.cell? ⟨w.heap.size, 5, none⟩ = some (.string m) := cellK g0 5
  have df5 : w3.frozen? ⟨w.heap.size, 5, none⟩ = false := froK g0 5
  have d6 : w3.cell? ⟨w.heap.size, 6, none⟩ = some (.bool y) := cellK g0 6
  have df6 : w3.frozen? ⟨w.heap.size, 6, none⟩ = false := froK g0 6
  have d7 : w3.cell? ⟨w.heap.size, 7, none⟩ = some (.slice a len cap) := cellK g0 7
  have df7 : w3.frozen? ⟨w.heap.size, 7, none⟩ = false := froK g0 7
  have e0 : w3.cell? ⟨w.heap.size + 1, 0, none⟩ = some (.string ⟨#[]⟩) := cellK g1 0
  have ef0 : w3.frozen? ⟨w.heap.size + 1, 0, none⟩ = false := froK g1 0
  have e1 : w3.cell? ⟨w.heap.size + 1, 1, none⟩ = some (.int .i64 0) := cellK g1 1
  have ef1 : w3.frozen? ⟨w.heap.size + 1, 1, none⟩ = false := froK g1 1
  have e2 : w3.cell? ⟨w.heap.size + 1, 2, none⟩ = some (.string ⟨#[]⟩) := cellK g1 2
  have ef2 : w3.frozen? ⟨w.heap.size + 1, 2, none⟩ = false := froK g1 2
  have e3 : w3.cell? ⟨w.heap.size + 1, 3, none⟩ = some (.string ⟨#[]⟩) := cellK g1 3
  have ef3 : w3.frozen? ⟨w.heap.size + 1, 3, none⟩ = false := froK g1 3
  have e4 : w3.cell? ⟨w.heap.size + 1, 4, none⟩ = some (.bool false) := cellK g1 4
  have ef4 : w3.frozen? ⟨w.heap.size + 1, 4, none⟩ = false := froK g1 4
  have e5 : w3.cell? ⟨w.heap.size + 1, 5, none⟩ = some (.string ⟨#[]⟩) := cellK g1 5
  have ef5 : w3.frozen? ⟨w.heap.size + 1, 5, none⟩ = false := froK g1 5
  have e6 : w3.cell? ⟨w.heap.size + 1, 6, none⟩ = some (.bool false) := cellK g1 6
  have ef6 : w3.frozen? ⟨w.heap.size + 1, 6, none⟩ = false := froK g1 6
  have e7 : w3.cell? ⟨w.heap.size + 1, 7, none⟩ = some (.slice none 0 0) := cellK g1 7
  have ef7 : w3.frozen? ⟨w.heap.size + 1, 7, none⟩ = false := froK g1 7
  have HQ2 := hidK (OwnAns.set (OwnAns.set (OwnAns.set (OwnAns.set (OwnAns.set (OwnAns.set (OwnAns.set (OwnAns.set (OwnAns.set HQ.out (b := w.heap.size) (i := 7) (by omega) (by omega) (v := .slice a' l p)) (b := w.heap.size + 1) (i := 0) (by omega) (by omega) (v := .string n)) (b := w.heap.size + 1) (i := 1) (by omega) (by omega) (v := .int .i64 c)) (b := w.heap.size + 1) (i := 2) (by omega) (by omega) (v := .string z)) (b := w.heap.size + 1) (i := 3) (by omega) (by omega) (v := .string k)) (b := w.heap.size + 1) (i := 4) (by omega) (by omega) (v := .bool x)) (b := w.heap.size + 1) (i := 5) (by omega) (by omega) (v := .string m)) (b := w.heap.size + 1) (i := 6) (by omega) (by omega) (v := .bool y)) (b := w.heap.size + 1) (i := 7) (by omega) (by omega) (v := .slice a' l p))
  clear h1 h2 hb g0 g1
  go_wp2_with fail
  refine bodyPost_ret (v := .agg #[.string n, .int .i64 c, .string z, .string k, .bool x, .string m, .bool y, .slice a' l p]) (by simp [results, Try.results49, go_sem, *]) rfl ⟨a', l, p, rfl, HQ2.out.1, ?_, HQ2.out.2.2⟩
  rcases HQ2.out.2.1 with h | ⟨g, cur, h1, h2, h3⟩
  · exact .inl h
  · exact .inr ⟨g, cur, h1, by omega, h3⟩

end Ap
end Go.Proofs.Ytjkgpkgbaapdmaa
