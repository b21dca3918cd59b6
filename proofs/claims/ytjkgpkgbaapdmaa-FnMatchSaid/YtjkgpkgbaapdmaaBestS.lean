/-
  BestFor of the specification: what it answers.
-/
import Derived.Test.YtjkgpkgbaapdmaaBest
import Derived.Test.YtjkgpkgbaapdmaaApp
import Derived.Test.YtjkgpkgbaapdmaaServe3
namespace Go.Proofs.Ytjkgpkgbaapdmaa
open Go.RowKit

def Vd.Ok (v : Vd) : Prop := VolOk v.n v.c v.z v.k v.x v.m v.y v.zs
def vZ : Vd := ⟨⟨#[]⟩, 0, ⟨#[]⟩, ⟨#[]⟩, false, ⟨#[]⟩, false, []⟩
/-- What is handed in is right. -/
def BestR (vs : List Vd) (n' : ByteArray) (c' : Int) (k' v' t : ByteArray) : Prop := ClaimOk n' c' k' v' ∧ ZoneOk t ∧ vs.length ≤ 8 ∧ ∀ (j : Nat) v, vs[j]? = some v → v.Ok
/-- The answer's volume and code. -/
def BestIs (vs : List Vd) (n' : ByteArray) (c' : Int) (k' : ByteArray) (x' : Bool) (v' : ByteArray) (t : ByteArray) (u : Vd) (p : Int) : Prop :=
  ((400 < vs.length ∨ 8000 < t.size) ∧ u = vZ ∧ p = 2) ∨ (¬ (400 < vs.length ∨ 8000 < t.size) ∧ ¬ BestR vs n' c' k' v' t ∧ u = vZ ∧ p = 1) ∨
  (¬ (400 < vs.length ∨ 8000 < t.size) ∧ BestR vs n' c' k' v' t ∧ bestV (svV c' k' x' t) vs = none ∧ u = vZ ∧ p = 6) ∨
  (¬ (400 < vs.length ∨ 8000 < t.size) ∧ BestR vs n' c' k' v' t ∧ bestV (svV c' k' x' t) vs = some u ∧ p = 0)
theorem BestIs.same {vs : List Vd} {n' : ByteArray} {c' : Int} {k' : ByteArray} {x' : Bool} {v' t : ByteArray} {u u1 : Vd} {p p1 : Int} (h : BestIs vs n' c' k' x' v' t u p) (h' : BestIs vs n' c' k' x' v' t u1 p1) : u = u1 ∧ p = p1 := by
  unfold BestIs at h h'
  rcases h with ⟨a, rfl, rfl⟩ | ⟨a, b, rfl, rfl⟩ | ⟨a, b, d, rfl, rfl⟩ | ⟨a, b, d, rfl⟩
  all_goals (
    rcases h' with ⟨a', rfl, rfl⟩ | ⟨a', b', rfl, rfl⟩ | ⟨a', b', d', rfl, rfl⟩ | ⟨a', b', d', rfl⟩
    all_goals first | exact ⟨rfl, rfl⟩ | exact absurd a' a | exact absurd a a' | exact absurd b' b | exact absurd b b' | (rw [d] at d'; cases d'; exact ⟨rfl, rfl⟩) | (rw [d] at d'; cases d'))
def BestAns (vs : List Vd) (n' : ByteArray) (c' : Int) (k' : ByteArray) (x' : Bool) (v' : ByteArray) (t : ByteArray) (w : World) (e : Ending) (w' : World) : Prop :=
  ∃ u p a l c, e = .returned (.agg #[.string u.n, .int .i64 u.c, .string u.z, .string u.k, .bool u.x, .string u.m, .bool u.y, .slice a l c, .int .i64 p]) ∧ BestIs vs n' c' k' x' v' t u p ∧ Ap.OwnAns u.zs w a l c w'
theorem own_nil {w w' : World} (hb : Below w.heap.size w w') : Ap.OwnAns [] w none 0 0 w' := ⟨⟨rfl, Nat.le_refl _, by omega, fun j x hx => by simp at hx, .inl rfl⟩, .inl rfl, hb⟩
theorem BestAns.bad {vs : List Vd} {n' : ByteArray} {c' : Int} {k' : ByteArray} {x' : Bool} {v' t : ByteArray} {w w' : World} {p : Int} (h : BestIs vs n' c' k' x' v' t vZ p) (hb : Below w.heap.size w w') :
    BestAns vs n' c' k' x' v' t w (.returned (.agg #[.string ⟨#[]⟩, .int .i64 0, .string ⟨#[]⟩, .string ⟨#[]⟩, .bool false, .string ⟨#[]⟩, .bool false, .slice none 0 0, .int .i64 p])) w' := ⟨vZ, p, none, 0, 0, rfl, h, own_nil hb⟩
theorem set_below9B {w w1 : World} {B b : Nat} {v0 v1 v2 v3 v4 v5 v6 v7 v8 : Value} (hB : B ≤ b) (h : Below B w w1) :
    Below B w (((((((((w1.setCell ⟨b, 0, none⟩ (v0)).setCell ⟨b, 1, none⟩ (v1)).setCell ⟨b, 2, none⟩ (v2)).setCell ⟨b, 3, none⟩ (v3)).setCell ⟨b, 4, none⟩ (v4)).setCell ⟨b, 5, none⟩ (v5)).setCell ⟨b, 6, none⟩ (v6)).setCell ⟨b, 7, none⟩ (v7)).setCell ⟨b, 8, none⟩ (v8)) :=
  ((((((((h.setCell (p := ⟨b, 0, none⟩) hB v0).setCell (p := ⟨b, 1, none⟩) hB v1).setCell (p := ⟨b, 2, none⟩) hB v2).setCell (p := ⟨b, 3, none⟩) hB v3).setCell (p := ⟨b, 4, none⟩) hB v4).setCell (p := ⟨b, 5, none⟩) hB v5).setCell (p := ⟨b, 6, none⟩) hB v6).setCell (p := ⟨b, 7, none⟩) hB v7).setCell (p := ⟨b, 8, none⟩) hB v8
/-- The answer written into its place. -/
theorem own_set9 {zs : List ByteArray} {w w' : World} {a : Option Addr} {l p b X : Nat} {v0 v1 v2 v3 v4 v5 v6 v7 v8 : Value} (h : TxRow w' a l p zs ∧ (zs = [] ∨ ∃ g cur, a = some ⟨g, 0, none⟩ ∧ X ≤ g ∧ w'.heap[g]? = some (.cells cur 9 (0, 0))) ∧ Below w.heap.size w w') (hb : w.heap.size ≤ b) (hX : b < X) :
    Ap.OwnAns zs w a l p (((((((((w'.setCell ⟨b, 0, none⟩ (v0)).setCell ⟨b, 1, none⟩ (v1)).setCell ⟨b, 2, none⟩ (v2)).setCell ⟨b, 3, none⟩ (v3)).setCell ⟨b, 4, none⟩ (v4)).setCell ⟨b, 5, none⟩ (v5)).setCell ⟨b, 6, none⟩ (v6)).setCell ⟨b, 7, none⟩ (v7)).setCell ⟨b, 8, none⟩ (v8)) := by
  have h9 := Ap.OwnAns.set (Ap.OwnAns.set (Ap.OwnAns.set (Ap.OwnAns.set (Ap.OwnAns.set (Ap.OwnAns.set (Ap.OwnAns.set (Ap.OwnAns.set (Ap.OwnAns.set h hb hX (i := 0) (v := v0)) hb hX (i := 1) (v := v1)) hb hX (i := 2) (v := v2)) hb hX (i := 3) (v := v3)) hb hX (i := 4) (v := v4)) hb hX (i := 5) (v := v5)) hb hX (i := 6) (v := v6)) hb hX (i := 7) (v := v7)) hb hX (i := 8) (v := v8)
  refine ⟨h9.1, ?_, h9.2.2⟩
  rcases h9.2.1 with h | ⟨g, cur, h1, h2, h3⟩
  · exact .inl h
  · exact .inr ⟨g, cur, h1, by omega, h3⟩
theorem names_few {zs : List ByteArray} {x : Bool} (h : NamesOk zs (if x = true then 1 else 6)) : zs.length ≤ 6 := by
  have := (names_six h).1
  omega

set_option maxRecDepth 10000 in
set_option maxHeartbeats 6400000 in
theorem sbest_any (a : Option Addr) (len cap : Nat) (vs : List Vd) (n' : ByteArray) (c' : Int) (k' : ByteArray) (x' : Bool) (v' : ByteArray) (t : ByteArray) (w : World) (hn' : n'.size ≤ 9223372036854775807) (hk' : k'.size ≤ 9223372036854775807) (hv' : v'.size ≤ 9223372036854775807) (ht : t.size ≤ 9223372036854775807) (hr : VsRow w a len cap vs) :
    Calls Try.prog 14 #[.slice a len cap, .agg #[.string n', .int .i64 c', .string k', .bool x', .string v'], .string t] w (BestAns vs n' c' k' x' v' t w) := by
  have HR := hidK hr
  have hvl : vs.length = len := hr.1
  have hlc : len ≤ 9223372036854775807 := Nat.le_trans hr.2.1 hr.2.2.1
  clear hr
  by_cases hl4 : 400 < len
  · have HL := hidK (show BestIs vs n' c' k' x' v' t vZ 2 from .inl ⟨.inl (by omega), rfl, rfl⟩)
    go_enter Try.func14, Try.ntmps14
    go_wp2_with fail
    exact bodyPost_ret (v := .agg #[.string ⟨#[]⟩, .int .i64 0, .string ⟨#[]⟩, .string ⟨#[]⟩, .bool false, .string ⟨#[]⟩, .bool false, .slice none 0 0, .int .i64 2]) (by simp [results, Try.results14, go_sem]) rfl (BestAns.bad HL.out (below2 _ _ _))
  by_cases hl8 : 8000 < t.size
  · have HL := hidK (show BestIs vs n' c' k' x' v' t vZ 2 from .inl ⟨.inr hl8, rfl, rfl⟩)
    go_enter Try.func14, Try.ntmps14
    go_wp2_with fail
    exact bodyPost_ret (v := .agg #[.string ⟨#[]⟩, .int .i64 0, .string ⟨#[]⟩, .string ⟨#[]⟩, .bool false, .string ⟨#[]⟩, .bool false, .slice none 0 0, .int .i64 2]) (by simp [results, Try.results14, go_sem]) rfl (BestAns.bad HL.out (below2 _ _ _))
  have HL := hidK (show ¬ (400 < vs.length ∨ 8000 < t.size) by omega)
  go_enter Try.func14, Try.ntmps14
  go_wp2_with fail
  refine (sclaim_any n' c' k' x' v' _ hn' hk' hv').mono ?_
  rintro e w1 ⟨r, rfl, hr, hb⟩
  have g0 := (hb.block w.heap.size (by simp; omega)).trans (heap2_0 _ _ _)
  have g1 := (hb.block (w.heap.size + 1) (by simp)).trans (heap2_1 _ _ _)
  have HB := hidK ((below2 w _ _).trans (hb.mono (by simp; omega)))
  have HG0 := hidK g0
  have HG1 := hidK g1
  have r0 : w1.cell? ⟨w.heap.size + 1, 0, none⟩ = some (.string ⟨#[]⟩) := cellK g1 0
  have r1 : w1.cell? ⟨w.heap.size + 1, 1, none⟩ = some (.int .i64 0) := cellK g1 1
  have r2 : w1.cell? ⟨w.heap.size + 1, 2, none⟩ = some (.string ⟨#[]⟩) := cellK g1 2
  have r3 : w1.cell? ⟨w.heap.size + 1, 3, none⟩ = some (.string ⟨#[]⟩) := cellK g1 3
  have r4 : w1.cell? ⟨w.heap.size + 1, 4, none⟩ = some (.bool false) := cellK g1 4
  have r5 : w1.cell? ⟨w.heap.size + 1, 5, none⟩ = some (.string ⟨#[]⟩) := cellK g1 5
  have r6 : w1.cell? ⟨w.heap.size + 1, 6, none⟩ = some (.bool false) := cellK g1 6
  have r7 : w1.cell? ⟨w.heap.size + 1, 7, none⟩ = some (.slice none 0 0) := cellK g1 7
  have r8 : w1.cell? ⟨w.heap.size + 1, 8, none⟩ = some (.int .i64 0) := cellK g1 8
  have q0 : w1.frozen? ⟨w.heap.size + 1, 0, none⟩ = false := froK g1 0
  have q1 : w1.frozen? ⟨w.heap.size + 1, 1, none⟩ = false := froK g1 1
  have q2 : w1.frozen? ⟨w.heap.size + 1, 2, none⟩ = false := froK g1 2
  have q3 : w1.frozen? ⟨w.heap.size + 1, 3, none⟩ = false := froK g1 3
  have q4 : w1.frozen? ⟨w.heap.size + 1, 4, none⟩ = false := froK g1 4
  have q5 : w1.frozen? ⟨w.heap.size + 1, 5, none⟩ = false := froK g1 5
  have q6 : w1.frozen? ⟨w.heap.size + 1, 6, none⟩ = false := froK g1 6
  have q7 : w1.frozen? ⟨w.heap.size + 1, 7, none⟩ = false := froK g1 7
  have q8 : w1.frozen? ⟨w.heap.size + 1, 8, none⟩ = false := froK g1 8
  clear g0 g1 hb
  by_cases hq : r = true
  case neg =>
    have HN := hidK (fun h => hq (hr.2 h))
    have hrf : r = false := by simpa using hq
    clear hr
    go_wp2_with fail
    exact bodyPost_ret (v := .agg #[.string ⟨#[]⟩, .int .i64 0, .string ⟨#[]⟩, .string ⟨#[]⟩, .bool false, .string ⟨#[]⟩, .bool false, .slice none 0 0, .int .i64 1]) (by simp [results, Try.results14, go_sem, *]) rfl (BestAns.bad (.inr (.inl ⟨HL.out, fun h => HN.out h.1, rfl, rfl⟩)) (set_below9B (by omega) HB.out))
  have h0 := hidK (hr.1 hq)
  subst hq
  clear hr
  go_wp2_with fail
  refine (szone_any t _ ht).mono ?_
  rintro e w2 ⟨r, rfl, hr, rfl⟩
  by_cases hq : r = true
  case neg =>
    have HN := hidK (fun h => hq (hr.2 h))
    have hrf : r = false := by simpa using hq
    clear hr
    go_wp2_with fail
    exact bodyPost_ret (v := .agg #[.string ⟨#[]⟩, .int .i64 0, .string ⟨#[]⟩, .string ⟨#[]⟩, .bool false, .string ⟨#[]⟩, .bool false, .slice none 0 0, .int .i64 1]) (by simp [results, Try.results14, go_sem, *]) rfl (BestAns.bad (.inr (.inl ⟨HL.out, fun h => HN.out h.2.1, rfl, rfl⟩)) (set_below9B (by omega) HB.out))
  have h1 := hidK (hr.1 hq)
  subst hq
  clear hr
  by_cases hl9 : 8 < len
  · have HN := hidK (show ¬ vs.length ≤ 8 by omega)
    go_wp2_with fail
    exact bodyPost_ret (v := .agg #[.string ⟨#[]⟩, .int .i64 0, .string ⟨#[]⟩, .string ⟨#[]⟩, .bool false, .string ⟨#[]⟩, .bool false, .slice none 0 0, .int .i64 1]) (by simp [results, Try.results14, go_sem, *]) rfl (BestAns.bad (.inr (.inl ⟨HL.out, fun h => HN.out h.2.2.1, rfl, rfl⟩)) (set_below9B (by omega) HB.out))
  go_wp2_with fail
  go_loopw [7] (fun vi wr => ∃ (i : Nat), i ≤ len ∧ vi = .int .i64 i ∧ Hid (∀ (j : Nat) v, j < i → vs[j]? = some v → v.Ok) ∧ Hid (wr.heap[w.heap.size]? = some (.cells #[.string n', .int .i64 c', .string k', .bool x', .string v'] 25 (0, 0))) ∧ Hid (wr.heap[w.heap.size + 1]? = some (.cells #[.string ⟨#[]⟩, .int .i64 0, .string ⟨#[]⟩, .string ⟨#[]⟩, .bool false, .string ⟨#[]⟩, .bool false, .slice none 0 0, .int .i64 0] 32 (0, 0))) ∧ Hid (Below w.heap.size w wr)) (fun vi _ => len - (intOf vi).toNat)
  case atStart => exact ⟨0, by omega, rfl, fun j v hj => by omega, HG0, HG1, HB⟩
  case round =>
    clear HG0 HG1 HB r0 q0 r1 q1 r2 q2 r3 q3 r4 q4 r5 q5 r6 q6 r7 q7 r8 q8
    obtain ⟨i, hi, rfl, HA, HG0, HG1, HB⟩ := hrel
    by_cases hlt : i < len
    · obtain ⟨b, o, v, rfl, hb, hv, hf, va, vl, vc, hvr, c0, c1, c2, c3, c4, c5, c6, c7⟩ := (HR.out.below HB.out).at hlt
      have HV := hidK hv
      have HT := hidK hvr
      have HF := hidK hf
      clear hv hvr hf
      go_wp2_with fail
      refine (svol_any v.n v.c v.z v.k v.x v.m v.y va vl vc v.zs _ HF.out.1 HF.out.2.1 HF.out.2.2.1 HF.out.2.2.2 HT.out).mono ?_
      rintro e w3 ⟨r, rfl, hr, hb3⟩
      have HB3 := hidK (HB.out.trans (hb3.mono HB.out.size))
      have g1 := (hb3.block _ (lt_of_some HG1.out)).trans HG1.out
      have HX0 := hidK ((hb3.block _ (lt_of_some HG0.out)).trans HG0.out)
      have HX1 := hidK g1
      by_cases hq : r = true
      case neg =>
        have HN := hidK (fun h => hq (hr.2 h))
        have hrf : r = false := by simpa using hq
        have r0 : w3.cell? ⟨w.heap.size + 1, 0, none⟩ = some (.string ⟨#[]⟩) := cellK g1 0
        have r1 : w3.cell? ⟨w.heap.size + 1, 1, none⟩ = some (.int .i64 0) := cellK g1 1
        have r2 : w3.cell? ⟨w.heap.size + 1, 2, none⟩ = some (.string ⟨#[]⟩) := cellK g1 2
        have r3 : w3.cell? ⟨w.heap.size + 1, 3, none⟩ = some (.string ⟨#[]⟩) := cellK g1 3
        have r4 : w3.cell? ⟨w.heap.size + 1, 4, none⟩ = some (.bool false) := cellK g1 4
        have r5 : w3.cell? ⟨w.heap.size + 1, 5, none⟩ = some (.string ⟨#[]⟩) := cellK g1 5
        have r6 : w3.cell? ⟨w.heap.size + 1, 6, none⟩ = some (.bool false) := cellK g1 6
        have r7 : w3.cell? ⟨w.heap.size + 1, 7, none⟩ = some (.slice none 0 0) := cellK g1 7
        have r8 : w3.cell? ⟨w.heap.size + 1, 8, none⟩ = some (.int .i64 0) := cellK g1 8
        have q0 : w3.frozen? ⟨w.heap.size + 1, 0, none⟩ = false := froK g1 0
        have q1 : w3.frozen? ⟨w.heap.size + 1, 1, none⟩ = false := froK g1 1
        have q2 : w3.frozen? ⟨w.heap.size + 1, 2, none⟩ = false := froK g1 2
        have q3 : w3.frozen? ⟨w.heap.size + 1, 3, none⟩ = false := froK g1 3
        have q4 : w3.frozen? ⟨w.heap.size + 1, 4, none⟩ = false := froK g1 4
        have q5 : w3.frozen? ⟨w.heap.size + 1, 5, none⟩ = false := froK g1 5
        have q6 : w3.frozen? ⟨w.heap.size + 1, 6, none⟩ = false := froK g1 6
        have q7 : w3.frozen? ⟨w.heap.size + 1, 7, none⟩ = false := froK g1 7
        have q8 : w3.frozen? ⟨w.heap.size + 1, 8, none⟩ = false := froK g1 8
        clear hr hb3 g1 c0 c1 c2 c3 c4 c5 c6 c7
        go_wp2_with fail
        exact bodyPost_ret (v := .agg #[.string ⟨#[]⟩, .int .i64 0, .string ⟨#[]⟩, .string ⟨#[]⟩, .bool false, .string ⟨#[]⟩, .bool false, .slice none 0 0, .int .i64 1]) (by simp [results, Try.results14, go_sem, *]) rfl (BestAns.bad (.inr (.inl ⟨HL.out, fun h => HN.out (h.2.2.2 i v HV.out), rfl, rfl⟩)) (set_below9B (by omega) HB3.out))
      have hok := hr.1 hq
      subst hq
      clear hr hb3 g1 c0 c1 c2 c3 c4 c5 c6 c7 HG0 HG1 HB
      go_wp2_with fail
      refine ⟨⟨i + 1, by omega, by go_num, fun j u hj hu => ?_, HX0, HX1, HB3⟩, by simp [intOf]; omega⟩
      by_cases e : j = i
      · subst e
        rw [HV.out] at hu
        obtain rfl := Option.some.inj hu
        exact hok
      · exact HA.out j u (by omega) hu
    obtain rfl : i = len := by omega
    have hR : BestR vs n' c' k' v' t := ⟨h0.out, h1.out, by omega, fun j v hv => HA.out j v (by have := (List.getElem?_eq_some_iff.1 hv).1; omega) hv⟩
    have HRR := hidK hR
    clear hR HA
    have p0 := HG0.out
    have d0 : wr.cell? ⟨w.heap.size, 0, none⟩ = some (.string n') := cellK p0 0
    have d1 : wr.cell? ⟨w.heap.size, 1, none⟩ = some (.int .i64 c') := cellK p0 1
    have d2 : wr.cell? ⟨w.heap.size, 2, none⟩ = some (.string k') := cellK p0 2
    have d3 : wr.cell? ⟨w.heap.size, 3, none⟩ = some (.bool x') := cellK p0 3
    have d4 : wr.cell? ⟨w.heap.size, 4, none⟩ = some (.string v') := cellK p0 4
    clear p0
    go_wp2_with fail
    refine (sbestK_any a i cap vs n' c' k' x' v' t _ (HR.out.below HB.out)).mono ?_
    rintro e w3 ⟨r, rfl, hr, hb3⟩
    have HB3 := hidK (HB.out.trans (hb3.mono HB.out.size))
    have g1 := (hb3.block _ (lt_of_some HG1.out)).trans HG1.out
    have HX1 := hidK g1
    unfold BestAt at hr
    rw [List.take_of_length_le (by omega)] at hr
    have r0 : w3.cell? ⟨w.heap.size + 1, 0, none⟩ = some (.string ⟨#[]⟩) := cellK g1 0
    have r1 : w3.cell? ⟨w.heap.size + 1, 1, none⟩ = some (.int .i64 0) := cellK g1 1
    have r2 : w3.cell? ⟨w.heap.size + 1, 2, none⟩ = some (.string ⟨#[]⟩) := cellK g1 2
    have r3 : w3.cell? ⟨w.heap.size + 1, 3, none⟩ = some (.string ⟨#[]⟩) := cellK g1 3
    have r4 : w3.cell? ⟨w.heap.size + 1, 4, none⟩ = some (.bool false) := cellK g1 4
    have r5 : w3.cell? ⟨w.heap.size + 1, 5, none⟩ = some (.string ⟨#[]⟩) := cellK g1 5
    have r6 : w3.cell? ⟨w.heap.size + 1, 6, none⟩ = some (.bool false) := cellK g1 6
    have r7 : w3.cell? ⟨w.heap.size + 1, 7, none⟩ = some (.slice none 0 0) := cellK g1 7
    have r8 : w3.cell? ⟨w.heap.size + 1, 8, none⟩ = some (.int .i64 0) := cellK g1 8
    have q0 : w3.frozen? ⟨w.heap.size + 1, 0, none⟩ = false := froK g1 0
    have q1 : w3.frozen? ⟨w.heap.size + 1, 1, none⟩ = false := froK g1 1
    have q2 : w3.frozen? ⟨w.heap.size + 1, 2, none⟩ = false := froK g1 2
    have q3 : w3.frozen? ⟨w.heap.size + 1, 3, none⟩ = false := froK g1 3
    have q4 : w3.frozen? ⟨w.heap.size + 1, 4, none⟩ = false := froK g1 4
    have q5 : w3.frozen? ⟨w.heap.size + 1, 5, none⟩ = false := froK g1 5
    have q6 : w3.frozen? ⟨w.heap.size + 1, 6, none⟩ = false := froK g1 6
    have q7 : w3.frozen? ⟨w.heap.size + 1, 7, none⟩ = false := froK g1 7
    have q8 : w3.frozen? ⟨w.heap.size + 1, 8, none⟩ = false := froK g1 8
    clear hb3 g1 d0 d1 d2 d3 d4 HG0 HG1
    rcases hr with ⟨rfl, hn⟩ | ⟨j, u, rfl, hj, hu, hbu⟩
    · have HN := hidK hn
      clear hn
      go_wp2_with fail
      exact bodyPost_ret (v := .agg #[.string ⟨#[]⟩, .int .i64 0, .string ⟨#[]⟩, .string ⟨#[]⟩, .bool false, .string ⟨#[]⟩, .bool false, .slice none 0 0, .int .i64 6]) (by simp [results, Try.results14, go_sem, *]) rfl (BestAns.bad (.inr (.inr (.inl ⟨HL.out, HRR.out, HN.out, rfl, rfl⟩))) (set_below9B (by omega) HB3.out))
    obtain ⟨b, o, v, rfl, hb, hv, hf, va, vl, vc, hvr, c0, c1, c2, c3, c4, c5, c6, c7⟩ := (HR.out.below HB3.out).at (j := j) (by omega)
    rw [hu] at hv
    obtain rfl := Option.some.inj hv
    have HBU := hidK hbu
    have HT := hidK hvr
    have hvl6 : vl ≤ 8001 := by
      have h6 := names_few (HRR.out.2.2.2 j u hu).2.2.2.2.2.2
      have := hvr.1
      omega
    clear hu hv hf hbu hvr r0 q0 r1 q1 r2 q2 r3 q3 r4 q4 r5 q5 r6 q6 r7 q7 r8 q8
    go_wp2_with fail
    refine (Ap.scopy_any u.n u.c u.z u.k u.x u.m u.y va vl vc u.zs _ HT.out hvl6).mono ?_
    rintro e w4 ⟨a', l', p', rfl, q1, q2, hb4⟩
    have g1 := (hb4.block _ (lt_of_some HX1.out)).trans HX1.out
    have hXl : w.heap.size + 1 < w3.heap.size := lt_of_some HX1.out
    have HQ : Hid (TxRow w4 a' l' p' u.zs ∧ (u.zs = [] ∨ ∃ g cur, a' = some ⟨g, 0, none⟩ ∧ w3.heap.size ≤ g ∧ w4.heap[g]? = some (.cells cur 9 (0, 0))) ∧ Below w.heap.size w w4) := ⟨q1, q2, HB3.out.trans (hb4.mono HB3.out.size)⟩
    clear q1 q2
    have r0 : w4.cell? ⟨w.heap.size + 1, 0, none⟩ = some (.string ⟨#[]⟩) := cellK g1 0
    have r1 : w4.cell? ⟨w.heap.size + 1, 1, none⟩ = some (.int .i64 0) := cellK g1 1
    have r2 : w4.cell? ⟨w.heap.size + 1, 2, none⟩ = some (.string ⟨#[]⟩) := cellK g1 2
    have r3 : w4.cell? ⟨w.heap.size + 1, 3, none⟩ = some (.string ⟨#[]⟩) := cellK g1 3
    have r4 : w4.cell? ⟨w.heap.size + 1, 4, none⟩ = some (.bool false) := cellK g1 4
    have r5 : w4.cell? ⟨w.heap.size + 1, 5, none⟩ = some (.string ⟨#[]⟩) := cellK g1 5
    have r6 : w4.cell? ⟨w.heap.size + 1, 6, none⟩ = some (.bool false) := cellK g1 6
    have r7 : w4.cell? ⟨w.heap.size + 1, 7, none⟩ = some (.slice none 0 0) := cellK g1 7
    have r8 : w4.cell? ⟨w.heap.size + 1, 8, none⟩ = some (.int .i64 0) := cellK g1 8
    have f0 : w4.frozen? ⟨w.heap.size + 1, 0, none⟩ = false := froK g1 0
    have f1 : w4.frozen? ⟨w.heap.size + 1, 1, none⟩ = false := froK g1 1
    have f2 : w4.frozen? ⟨w.heap.size + 1, 2, none⟩ = false := froK g1 2
    have f3 : w4.frozen? ⟨w.heap.size + 1, 3, none⟩ = false := froK g1 3
    have f4 : w4.frozen? ⟨w.heap.size + 1, 4, none⟩ = false := froK g1 4
    have f5 : w4.frozen? ⟨w.heap.size + 1, 5, none⟩ = false := froK g1 5
    have f6 : w4.frozen? ⟨w.heap.size + 1, 6, none⟩ = false := froK g1 6
    have f7 : w4.frozen? ⟨w.heap.size + 1, 7, none⟩ = false := froK g1 7
    have f8 : w4.frozen? ⟨w.heap.size + 1, 8, none⟩ = false := froK g1 8
    clear g1 hb4 c0 c1 c2 c3 c4 c5 c6 c7
    go_wp2_with fail
    exact bodyPost_ret (v := .agg #[.string u.n, .int .i64 u.c, .string u.z, .string u.k, .bool u.x, .string u.m, .bool u.y, .slice a' l' p', .int .i64 0]) (by simp [results, Try.results14, go_sem, *]) rfl ⟨u, 0, a', l', p', rfl, .inr (.inr (.inr ⟨HL.out, HRR.out, HBU.out, rfl⟩)), own_set9 HQ.out (by omega) hXl⟩

end Go.Proofs.Ytjkgpkgbaapdmaa
