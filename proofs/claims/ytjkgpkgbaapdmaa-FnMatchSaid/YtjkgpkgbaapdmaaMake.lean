/-
  MakeFor of the specification and of the program: what it answers.
-/
import Derived.Test.YtjkgpkgbaapdmaaMay
import Derived.Test.YtjkgpkgbaapdmaaJoin
import Derived.Test.YtjkgpkgbaapdmaaLong
namespace Go.Proofs.Ytjkgpkgbaapdmaa
open Go.RowKit

/-- The word ahead of a made volume's name. -/
def wMade : ByteArray := ⟨#[118, 95]⟩
/-- A right class may make for a right claim in that zone. -/
def MakeM (n' k' v' n z t : ByteArray) : Prop := k' = n ∧ v' = ⟨#[]⟩ ∧ (z = ⟨#[]⟩ ∨ z = t) ∧ n'.size ≤ 18
def MakeR (n' : ByteArray) (c' : Int) (k' v' n z t : ByteArray) : Prop := ClaimOk n' c' k' v' ∧ ClassOk n z ∧ NameOk t
/-- The fields of the answer: name, size, zone, class, single, claim, code. -/
def MakeZ (n0 : ByteArray) (c0 : Int) (z0 k0 : ByteArray) (x0 : Bool) (m0 : ByteArray) : Prop := n0 = ⟨#[]⟩ ∧ c0 = 0 ∧ z0 = ⟨#[]⟩ ∧ k0 = ⟨#[]⟩ ∧ x0 = false ∧ m0 = ⟨#[]⟩
def MakeIs (n' : ByteArray) (c' : Int) (k' : ByteArray) (x' : Bool) (v' n z t : ByteArray) (n0 : ByteArray) (c0 : Int) (z0 k0 : ByteArray) (x0 : Bool) (m0 : ByteArray) (p0 : Int) : Prop :=
  (8000 < t.size ∧ MakeZ n0 c0 z0 k0 x0 m0 ∧ p0 = 2) ∨ (¬ 8000 < t.size ∧ ¬ MakeR n' c' k' v' n z t ∧ MakeZ n0 c0 z0 k0 x0 m0 ∧ p0 = 1) ∨
  (¬ 8000 < t.size ∧ MakeR n' c' k' v' n z t ∧ ¬ MakeM n' k' v' n z t ∧ MakeZ n0 c0 z0 k0 x0 m0 ∧ p0 = 10) ∨
  (¬ 8000 < t.size ∧ MakeR n' c' k' v' n z t ∧ MakeM n' k' v' n z t ∧ (n0 = wMade ++ n' ∧ c0 = c' ∧ z0 = t ∧ k0 = k' ∧ x0 = x' ∧ m0 = n') ∧ p0 = 0)
theorem MakeIs.same {n' : ByteArray} {c' : Int} {k' : ByteArray} {x' : Bool} {v' n z t : ByteArray} {n0 n1 : ByteArray} {c0 c1 : Int} {z0 z1 k0 k1 : ByteArray} {x0 x1 : Bool} {m0 m1 : ByteArray} {p0 p1 : Int}
    (h : MakeIs n' c' k' x' v' n z t n0 c0 z0 k0 x0 m0 p0) (h' : MakeIs n' c' k' x' v' n z t n1 c1 z1 k1 x1 m1 p1) : n0 = n1 ∧ c0 = c1 ∧ z0 = z1 ∧ k0 = k1 ∧ x0 = x1 ∧ m0 = m1 ∧ p0 = p1 := by
  unfold MakeIs MakeZ at h h'
  rcases h with ⟨a, ⟨rfl, rfl, rfl, rfl, rfl, rfl⟩, rfl⟩ | ⟨a, b, ⟨rfl, rfl, rfl, rfl, rfl, rfl⟩, rfl⟩ | ⟨a, b, d, ⟨rfl, rfl, rfl, rfl, rfl, rfl⟩, rfl⟩ | ⟨a, b, d, ⟨rfl, rfl, rfl, rfl, rfl, rfl⟩, rfl⟩
  all_goals (
    rcases h' with ⟨a', ⟨rfl, rfl, rfl, rfl, rfl, rfl⟩, rfl⟩ | ⟨a', b', ⟨rfl, rfl, rfl, rfl, rfl, rfl⟩, rfl⟩ | ⟨a', b', d', ⟨rfl, rfl, rfl, rfl, rfl, rfl⟩, rfl⟩ | ⟨a', b', d', ⟨rfl, rfl, rfl, rfl, rfl, rfl⟩, rfl⟩
    all_goals first | exact ⟨rfl, rfl, rfl, rfl, rfl, rfl, rfl⟩ | exact absurd a' a | exact absurd a a' | exact absurd b' b | exact absurd b b' | exact absurd d' d | exact absurd d d')
/-- The answer. -/
def MakeAns (n' : ByteArray) (c' : Int) (k' : ByteArray) (x' : Bool) (v' : ByteArray) (n z : ByteArray) (t : ByteArray) (w : World) (e : Ending) (w' : World) : Prop :=
  ∃ n0 c0 z0 k0 x0 m0 p0, e = .returned (.agg #[.string n0, .int .i64 c0, .string z0, .string k0, .bool x0, .string m0, .bool false, .slice none 0 0, .int .i64 p0]) ∧ MakeIs n' c' k' x' v' n z t n0 c0 z0 k0 x0 m0 p0 ∧ Below w.heap.size w w'
theorem set_below9 {w w1 : World} {B b : Nat} {v0 v1 v2 v3 v4 v5 v6 v7 v8 : Value} (hB : B ≤ b) (h : Below B w w1) :
    Below B w (((((((((w1.setCell ⟨b, 0, none⟩ (v0)).setCell ⟨b, 1, none⟩ (v1)).setCell ⟨b, 2, none⟩ (v2)).setCell ⟨b, 3, none⟩ (v3)).setCell ⟨b, 4, none⟩ (v4)).setCell ⟨b, 5, none⟩ (v5)).setCell ⟨b, 6, none⟩ (v6)).setCell ⟨b, 7, none⟩ (v7)).setCell ⟨b, 8, none⟩ (v8)) :=
  ((((((((h.setCell (p := ⟨b, 0, none⟩) hB v0).setCell (p := ⟨b, 1, none⟩) hB v1).setCell (p := ⟨b, 2, none⟩) hB v2).setCell (p := ⟨b, 3, none⟩) hB v3).setCell (p := ⟨b, 4, none⟩) hB v4).setCell (p := ⟨b, 5, none⟩) hB v5).setCell (p := ⟨b, 6, none⟩) hB v6).setCell (p := ⟨b, 7, none⟩) hB v7).setCell (p := ⟨b, 8, none⟩) hB v8
theorem made_add {n' : ByteArray} (h : n'.size ≤ 18) : (⟨#[118, 95]⟩ : ByteArray).size + n'.size ≤ 9223372036854775807 := by rw [show (⟨#[118, 95]⟩ : ByteArray).size = 2 from rfl]; omega

set_option maxHeartbeats 3200000 in
theorem smk_no (n' : ByteArray) (c' : Int) (k' : ByteArray) (x' : Bool) (v' : ByteArray) (n : ByteArray) (x : Bool) (y : Bool) (z : ByteArray) (t : ByteArray) (w : World) (hn' : n'.size ≤ 9223372036854775807) (hm : ¬ MakeM n' k' v' n z t) :
    Calls Try.prog 64 #[.agg #[.string n', .int .i64 c', .string k', .bool x', .string v'], .agg #[.string n, .bool x, .bool y, .string z], .string t] w fun e w' => e = .returned (.tuple #[.agg #[.string ⟨#[]⟩, .int .i64 0, .string ⟨#[]⟩, .string ⟨#[]⟩, .bool false, .string ⟨#[]⟩, .bool false, .slice none 0 0], .bool false]) ∧ Below w.heap.size w w' := by
  have HM := hidK hm
  clear hm
  by_cases h0 : k' = n
  case neg =>
    have q0 := tl_no h0
    clear h0
    go_enter Try.func64, Try.ntmps64
    go_wp2_with fail
    exact bodyPost_ret (v := .tuple #[.agg #[.string ⟨#[]⟩, .int .i64 0, .string ⟨#[]⟩, .string ⟨#[]⟩, .bool false, .string ⟨#[]⟩, .bool false, .slice none 0 0], .bool false]) (by simp [results, Try.results64, go_sem]) rfl ⟨rfl, below3 _ _ _ _⟩
  have q0 := tl_yes h0
  have H0 := hidK h0
  clear h0
  by_cases h1 : v' = ⟨#[]⟩
  case neg =>
    have q1 := isE_no h1
    clear h1
    go_enter Try.func64, Try.ntmps64
    go_wp2_with fail
    exact bodyPost_ret (v := .tuple #[.agg #[.string ⟨#[]⟩, .int .i64 0, .string ⟨#[]⟩, .string ⟨#[]⟩, .bool false, .string ⟨#[]⟩, .bool false, .slice none 0 0], .bool false]) (by simp [results, Try.results64, go_sem]) rfl ⟨rfl, below3 _ _ _ _⟩
  have q1 : v'.toList.isEmpty = true := (isE_iff v').2 h1
  have H1 := hidK h1
  clear h1
  by_cases h3 : 18 < n'.size
  · by_cases h2 : z = ⟨#[]⟩
    · have q2 : z.toList.isEmpty = true := (isE_iff z).2 h2
      clear h2
      go_enter Try.func64, Try.ntmps64
      go_wp2_with fail
      exact bodyPost_ret (v := .tuple #[.agg #[.string ⟨#[]⟩, .int .i64 0, .string ⟨#[]⟩, .string ⟨#[]⟩, .bool false, .string ⟨#[]⟩, .bool false, .slice none 0 0], .bool false]) (by simp [results, Try.results64, go_sem]) rfl ⟨rfl, below3 _ _ _ _⟩
    · have q2 := isE_no h2
      by_cases h4 : z = t
      · have q4 := tl_yes h4
        clear h4 h2
        go_enter Try.func64, Try.ntmps64
        go_wp2_with fail
        exact bodyPost_ret (v := .tuple #[.agg #[.string ⟨#[]⟩, .int .i64 0, .string ⟨#[]⟩, .string ⟨#[]⟩, .bool false, .string ⟨#[]⟩, .bool false, .slice none 0 0], .bool false]) (by simp [results, Try.results64, go_sem]) rfl ⟨rfl, below3 _ _ _ _⟩
      · have q4 := tl_no h4
        clear h4 h2
        go_enter Try.func64, Try.ntmps64
        go_wp2_with fail
        exact bodyPost_ret (v := .tuple #[.agg #[.string ⟨#[]⟩, .int .i64 0, .string ⟨#[]⟩, .string ⟨#[]⟩, .bool false, .string ⟨#[]⟩, .bool false, .slice none 0 0], .bool false]) (by simp [results, Try.results64, go_sem]) rfl ⟨rfl, below3 _ _ _ _⟩
  by_cases h2 : z = ⟨#[]⟩
  · exact absurd ⟨H0.out, H1.out, .inl h2, by omega⟩ HM.out
  have q2 := isE_no h2
  by_cases h4 : z = t
  · exact absurd ⟨H0.out, H1.out, .inr h4, by omega⟩ HM.out
  have q4 := tl_no h4
  clear h4 h2
  go_enter Try.func64, Try.ntmps64
  go_wp2_with fail
  exact bodyPost_ret (v := .tuple #[.agg #[.string ⟨#[]⟩, .int .i64 0, .string ⟨#[]⟩, .string ⟨#[]⟩, .bool false, .string ⟨#[]⟩, .bool false, .slice none 0 0], .bool false]) (by simp [results, Try.results64, go_sem]) rfl ⟨rfl, below3 _ _ _ _⟩

set_option maxHeartbeats 3200000 in
theorem smk_yes (n' : ByteArray) (c' : Int) (k' : ByteArray) (x' : Bool) (v' : ByteArray) (n : ByteArray) (x : Bool) (y : Bool) (z : ByteArray) (t : ByteArray) (w : World) (hm : MakeM n' k' v' n z t) :
    Calls Try.prog 64 #[.agg #[.string n', .int .i64 c', .string k', .bool x', .string v'], .agg #[.string n, .bool x, .bool y, .string z], .string t] w fun e w' => e = .returned (.tuple #[.agg #[.string (wMade ++ n'), .int .i64 c', .string t, .string k', .bool x', .string n', .bool false, .slice none 0 0], .bool true]) ∧ Below w.heap.size w w' := by
  obtain ⟨h0, h1, h2, h3⟩ := hm
  have q0 := tl_yes h0
  have q1 : v'.toList.isEmpty = true := (isE_iff v').2 h1
  have q5 := made_add h3
  clear h0 h1
  by_cases h4 : z = ⟨#[]⟩
  · have q2 : z.toList.isEmpty = true := (isE_iff z).2 h4
    clear h4 h2
    go_enter Try.func64, Try.ntmps64
    go_wp2_with fail
    exact bodyPost_ret (v := .tuple #[.agg #[.string (wMade ++ n'), .int .i64 c', .string t, .string k', .bool x', .string n', .bool false, .slice none 0 0], .bool true]) (by simp [results, Try.results64, go_sem, wMade]) rfl ⟨rfl, below3 _ _ _ _⟩
  · have q2 := isE_no h4
    have q4 := tl_yes (h2.resolve_left h4)
    clear h4 h2
    go_enter Try.func64, Try.ntmps64
    go_wp2_with fail
    exact bodyPost_ret (v := .tuple #[.agg #[.string (wMade ++ n'), .int .i64 c', .string t, .string k', .bool x', .string n', .bool false, .slice none 0 0], .bool true]) (by simp [results, Try.results64, go_sem, wMade]) rfl ⟨rfl, below3 _ _ _ _⟩

set_option maxHeartbeats 6400000 in
theorem smake_any (n' : ByteArray) (c' : Int) (k' : ByteArray) (x' : Bool) (v' : ByteArray) (n : ByteArray) (x : Bool) (y : Bool) (z : ByteArray) (t : ByteArray) (w : World) (hn' : n'.size ≤ 9223372036854775807) (hk' : k'.size ≤ 9223372036854775807) (hv' : v'.size ≤ 9223372036854775807) (hn : n.size ≤ 9223372036854775807) (hz : z.size ≤ 9223372036854775807) (ht : t.size ≤ 9223372036854775807) :
    Calls Try.prog 18 #[.agg #[.string n', .int .i64 c', .string k', .bool x', .string v'], .agg #[.string n, .bool x, .bool y, .string z], .string t] w (MakeAns n' c' k' x' v' n z t w) := by
  by_cases hl : 8000 < t.size
  · have HL := hidK hl
    go_enter Try.func18, Try.ntmps18
    go_wp2_with fail
    exact bodyPost_ret (v := .agg #[.string ⟨#[]⟩, .int .i64 0, .string ⟨#[]⟩, .string ⟨#[]⟩, .bool false, .string ⟨#[]⟩, .bool false, .slice none 0 0, .int .i64 2]) (by simp [results, Try.results18, go_sem]) rfl ⟨_, _, _, _, _, _, _, rfl, .inl ⟨HL.out, ⟨rfl, rfl, rfl, rfl, rfl, rfl⟩, rfl⟩, below3 _ _ _ _⟩
  have HL := hidK hl
  go_enter Try.func18, Try.ntmps18
  go_wp2_with fail
  refine (sclaim_any n' c' k' x' v' _ hn' hk' hv').mono ?_
  rintro e w1 ⟨r, rfl, hr, hb⟩
  have g0 := (hb.block w.heap.size (by simp; omega)).trans (heap3_0 _ _ _ _)
  have g1 := (hb.block (w.heap.size + 1) (by simp)).trans (heap3_1 _ _ _ _)
  have g2 := (hb.block (w.heap.size + 1 + 1) (by simp)).trans (heap3_2 _ _ _ _)
  have HB := hidK ((below3 w _ _ _).trans (hb.mono (by simp; omega)))
  have HG0 := hidK g0
  have HG1 := hidK g1
  have HG2 := hidK g2
  have d0 : w1.cell? ⟨w.heap.size, 0, none⟩ = some (.string n') := cellK g0 0
  have d1 : w1.cell? ⟨w.heap.size, 1, none⟩ = some (.int .i64 c') := cellK g0 1
  have d2 : w1.cell? ⟨w.heap.size, 2, none⟩ = some (.string k') := cellK g0 2
  have d3 : w1.cell? ⟨w.heap.size, 3, none⟩ = some (.bool x') := cellK g0 3
  have d4 : w1.cell? ⟨w.heap.size, 4, none⟩ = some (.string v') := cellK g0 4
  have e0 : w1.cell? ⟨w.heap.size + 1, 0, none⟩ = some (.string n) := cellK g1 0
  have e1 : w1.cell? ⟨w.heap.size + 1, 1, none⟩ = some (.bool x) := cellK g1 1
  have e2 : w1.cell? ⟨w.heap.size + 1, 2, none⟩ = some (.bool y) := cellK g1 2
  have e3 : w1.cell? ⟨w.heap.size + 1, 3, none⟩ = some (.string z) := cellK g1 3
  have r0 : w1.cell? ⟨w.heap.size + 1 + 1, 0, none⟩ = some (.string ⟨#[]⟩) := cellK g2 0
  have r1 : w1.cell? ⟨w.heap.size + 1 + 1, 1, none⟩ = some (.int .i64 0) := cellK g2 1
  have r2 : w1.cell? ⟨w.heap.size + 1 + 1, 2, none⟩ = some (.string ⟨#[]⟩) := cellK g2 2
  have r3 : w1.cell? ⟨w.heap.size + 1 + 1, 3, none⟩ = some (.string ⟨#[]⟩) := cellK g2 3
  have r4 : w1.cell? ⟨w.heap.size + 1 + 1, 4, none⟩ = some (.bool false) := cellK g2 4
  have r5 : w1.cell? ⟨w.heap.size + 1 + 1, 5, none⟩ = some (.string ⟨#[]⟩) := cellK g2 5
  have r6 : w1.cell? ⟨w.heap.size + 1 + 1, 6, none⟩ = some (.bool false) := cellK g2 6
  have r7 : w1.cell? ⟨w.heap.size + 1 + 1, 7, none⟩ = some (.slice none 0 0) := cellK g2 7
  have r8 : w1.cell? ⟨w.heap.size + 1 + 1, 8, none⟩ = some (.int .i64 0) := cellK g2 8
  have q0 : w1.frozen? ⟨w.heap.size + 1 + 1, 0, none⟩ = false := froK g2 0
  have q1 : w1.frozen? ⟨w.heap.size + 1 + 1, 1, none⟩ = false := froK g2 1
  have q2 : w1.frozen? ⟨w.heap.size + 1 + 1, 2, none⟩ = false := froK g2 2
  have q3 : w1.frozen? ⟨w.heap.size + 1 + 1, 3, none⟩ = false := froK g2 3
  have q4 : w1.frozen? ⟨w.heap.size + 1 + 1, 4, none⟩ = false := froK g2 4
  have q5 : w1.frozen? ⟨w.heap.size + 1 + 1, 5, none⟩ = false := froK g2 5
  have q6 : w1.frozen? ⟨w.heap.size + 1 + 1, 6, none⟩ = false := froK g2 6
  have q7 : w1.frozen? ⟨w.heap.size + 1 + 1, 7, none⟩ = false := froK g2 7
  have q8 : w1.frozen? ⟨w.heap.size + 1 + 1, 8, none⟩ = false := froK g2 8
  clear g0 g1 g2 hb
  by_cases hq : r = true
  case neg =>
    have HN := hidK (fun h => hq (hr.2 h))
    have hrf : r = false := by simpa using hq
    clear hr
    go_wp2_with fail
    exact bodyPost_ret (v := .agg #[.string ⟨#[]⟩, .int .i64 0, .string ⟨#[]⟩, .string ⟨#[]⟩, .bool false, .string ⟨#[]⟩, .bool false, .slice none 0 0, .int .i64 1]) (by simp [results, Try.results18, go_sem, *]) rfl ⟨_, _, _, _, _, _, _, rfl, .inr (.inl ⟨HL.out, fun h => HN.out h.1, ⟨rfl, rfl, rfl, rfl, rfl, rfl⟩, rfl⟩), set_below9 (by omega) HB.out⟩
  have h0 := hidK (hr.1 hq)
  subst hq
  clear hr
  go_wp2_with fail
  refine (sclass_any n z x y _ hn hz).mono ?_
  rintro e w2 ⟨r, rfl, hr, hb⟩
  have g0 := (hb.block _ (lt_of_some HG0.out)).trans HG0.out
  have g1 := (hb.block _ (lt_of_some HG1.out)).trans HG1.out
  have g2 := (hb.block _ (lt_of_some HG2.out)).trans HG2.out
  have HB' := hidK (HB.out.trans (hb.mono HB.out.size))
  clear HB HG0 HG1 HG2 d0 d1 d2 d3 d4 e0 e1 e2 e3 r0 r1 r2 r3 r4 r5 r6 r7 r8 q0 q1 q2 q3 q4 q5 q6 q7 q8
  have HB := HB'
  clear HB'
  have HG0 := hidK g0
  have HG1 := hidK g1
  have HG2 := hidK g2
  have d0 : w2.cell? ⟨w.heap.size, 0, none⟩ = some (.string n') := cellK g0 0
  have d1 : w2.cell? ⟨w.heap.size, 1, none⟩ = some (.int .i64 c') := cellK g0 1
  have d2 : w2.cell? ⟨w.heap.size, 2, none⟩ = some (.string k') := cellK g0 2
  have d3 : w2.cell? ⟨w.heap.size, 3, none⟩ = some (.bool x') := cellK g0 3
  have d4 : w2.cell? ⟨w.heap.size, 4, none⟩ = some (.string v') := cellK g0 4
  have e0 : w2.cell? ⟨w.heap.size + 1, 0, none⟩ = some (.string n) := cellK g1 0
  have e1 : w2.cell? ⟨w.heap.size + 1, 1, none⟩ = some (.bool x) := cellK g1 1
  have e2 : w2.cell? ⟨w.heap.size + 1, 2, none⟩ = some (.bool y) := cellK g1 2
  have e3 : w2.cell? ⟨w.heap.size + 1, 3, none⟩ = some (.string z) := cellK g1 3
  have r0 : w2.cell? ⟨w.heap.size + 1 + 1, 0, none⟩ = some (.string ⟨#[]⟩) := cellK g2 0
  have r1 : w2.cell? ⟨w.heap.size + 1 + 1, 1, none⟩ = some (.int .i64 0) := cellK g2 1
  have r2 : w2.cell? ⟨w.heap.size + 1 + 1, 2, none⟩ = some (.string ⟨#[]⟩) := cellK g2 2
  have r3 : w2.cell? ⟨w.heap.size + 1 + 1, 3, none⟩ = some (.string ⟨#[]⟩) := cellK g2 3
  have r4 : w2.cell? ⟨w.heap.size + 1 + 1, 4, none⟩ = some (.bool false) := cellK g2 4
  have r5 : w2.cell? ⟨w.heap.size + 1 + 1, 5, none⟩ = some (.string ⟨#[]⟩) := cellK g2 5
  have r6 : w2.cell? ⟨w.heap.size + 1 + 1, 6, none⟩ = some (.bool false) := cellK g2 6
  have r7 : w2.cell? ⟨w.heap.size + 1 + 1, 7, none⟩ = some (.slice none 0 0) := cellK g2 7
  have r8 : w2.cell? ⟨w.heap.size + 1 + 1, 8, none⟩ = some (.int .i64 0) := cellK g2 8
  have q0 : w2.frozen? ⟨w.heap.size + 1 + 1, 0, none⟩ = false := froK g2 0
  have q1 : w2.frozen? ⟨w.heap.size + 1 + 1, 1, none⟩ = false := froK g2 1
  have q2 : w2.frozen? ⟨w.heap.size + 1 + 1, 2, none⟩ = false := froK g2 2
  have q3 : w2.frozen? ⟨w.heap.size + 1 + 1, 3, none⟩ = false := froK g2 3
  have q4 : w2.frozen? ⟨w.heap.size + 1 + 1, 4, none⟩ = false := froK g2 4
  have q5 : w2.frozen? ⟨w.heap.size + 1 + 1, 5, none⟩ = false := froK g2 5
  have q6 : w2.frozen? ⟨w.heap.size + 1 + 1, 6, none⟩ = false := froK g2 6
  have q7 : w2.frozen? ⟨w.heap.size + 1 + 1, 7, none⟩ = false := froK g2 7
  have q8 : w2.frozen? ⟨w.heap.size + 1 + 1, 8, none⟩ = false := froK g2 8
  clear g0 g1 g2 hb
  by_cases hq : r = true
  case neg =>
    have HN := hidK (fun h => hq (hr.2 h))
    have hrf : r = false := by simpa using hq
    clear hr
    go_wp2_with fail
    exact bodyPost_ret (v := .agg #[.string ⟨#[]⟩, .int .i64 0, .string ⟨#[]⟩, .string ⟨#[]⟩, .bool false, .string ⟨#[]⟩, .bool false, .slice none 0 0, .int .i64 1]) (by simp [results, Try.results18, go_sem, *]) rfl ⟨_, _, _, _, _, _, _, rfl, .inr (.inl ⟨HL.out, fun h => HN.out h.2.1, ⟨rfl, rfl, rfl, rfl, rfl, rfl⟩, rfl⟩), set_below9 (by omega) HB.out⟩
  have h1 := hidK (hr.1 hq)
  subst hq
  clear hr
  go_wp2_with fail
  refine (sname_any t _ ht).mono ?_
  rintro e w3 ⟨r, rfl, hr, rfl⟩
  by_cases hq : r = true
  case neg =>
    have HN := hidK (fun h => hq (hr.2 h))
    have hrf : r = false := by simpa using hq
    clear hr
    go_wp2_with fail
    exact bodyPost_ret (v := .agg #[.string ⟨#[]⟩, .int .i64 0, .string ⟨#[]⟩, .string ⟨#[]⟩, .bool false, .string ⟨#[]⟩, .bool false, .slice none 0 0, .int .i64 1]) (by simp [results, Try.results18, go_sem, *]) rfl ⟨_, _, _, _, _, _, _, rfl, .inr (.inl ⟨HL.out, fun h => HN.out h.2.2, ⟨rfl, rfl, rfl, rfl, rfl, rfl⟩, rfl⟩), set_below9 (by omega) HB.out⟩
  have h2 := hidK (hr.1 hq)
  subst hq
  clear hr
  go_wp2_with fail
  by_cases hm : MakeM n' k' v' n z t
  · refine (smk_yes n' c' k' x' v' n x y z t _ hm).mono ?_
    rintro e w3 ⟨rfl, hb⟩
    have g0 := (hb.block _ (lt_of_some HG2.out)).trans HG2.out
    have HB3 := hidK (HB.out.trans (hb.mono HB.out.size))
    clear d0 d1 d2 d3 d4 e0 e1 e2 e3 r0 r1 r2 r3 r4 r5 r6 r7 r8 q0 q1 q2 q3 q4 q5 q6 q7 q8
    have HL3 := hidK (lt_of_some g0)
    have g3 := (Below.heap_alloc w3 (.cells #[.string (wMade ++ n'), .int .i64 c', .string t, .string k', .bool x', .string n', .bool false, .slice none 0 0] 30) _ HL3.out).trans g0
    have HB4 := hidK (HB3.out.trans ((below1 w3 (.cells #[.string (wMade ++ n'), .int .i64 c', .string t, .string k', .bool x', .string n', .bool false, .slice none 0 0] 30)).mono HB3.out.size))
    have r0 : (w3.alloc (.cells #[.string (wMade ++ n'), .int .i64 c', .string t, .string k', .bool x', .string n', .bool false, .slice none 0 0] 30)).cell? ⟨w.heap.size + 1 + 1, 0, none⟩ = some (.string ⟨#[]⟩) := cellK g3 0
    have r1 : (w3.alloc (.cells #[.string (wMade ++ n'), .int .i64 c', .string t, .string k', .bool x', .string n', .bool false, .slice none 0 0] 30)).cell? ⟨w.heap.size + 1 + 1, 1, none⟩ = some (.int .i64 0) := cellK g3 1
    have r2 : (w3.alloc (.cells #[.string (wMade ++ n'), .int .i64 c', .string t, .string k', .bool x', .string n', .bool false, .slice none 0 0] 30)).cell? ⟨w.heap.size + 1 + 1, 2, none⟩ = some (.string ⟨#[]⟩) := cellK g3 2
    have r3 : (w3.alloc (.cells #[.string (wMade ++ n'), .int .i64 c', .string t, .string k', .bool x', .string n', .bool false, .slice none 0 0] 30)).cell? ⟨w.heap.size + 1 + 1, 3, none⟩ = some (.string ⟨#[]⟩) := cellK g3 3
    have r4 : (w3.alloc (.cells #[.string (wMade ++ n'), .int .i64 c', .string t, .string k', .bool x', .string n', .bool false, .slice none 0 0] 30)).cell? ⟨w.heap.size + 1 + 1, 4, none⟩ = some (.bool false) := cellK g3 4
    have r5 : (w3.alloc (.cells #[.string (wMade ++ n'), .int .i64 c', .string t, .string k', .bool x', .string n', .bool false, .slice none 0 0] 30)).cell? ⟨w.heap.size + 1 + 1, 5, none⟩ = some (.string ⟨#[]⟩) := cellK g3 5
    have r6 : (w3.alloc (.cells #[.string (wMade ++ n'), .int .i64 c', .string t, .string k', .bool x', .string n', .bool false, .slice none 0 0] 30)).cell? ⟨w.heap.size + 1 + 1, 6, none⟩ = some (.bool false) := cellK g3 6
    have r7 : (w3.alloc (.cells #[.string (wMade ++ n'), .int .i64 c', .string t, .string k', .bool x', .string n', .bool false, .slice none 0 0] 30)).cell? ⟨w.heap.size + 1 + 1, 7, none⟩ = some (.slice none 0 0) := cellK g3 7
    have r8 : (w3.alloc (.cells #[.string (wMade ++ n'), .int .i64 c', .string t, .string k', .bool x', .string n', .bool false, .slice none 0 0] 30)).cell? ⟨w.heap.size + 1 + 1, 8, none⟩ = some (.int .i64 0) := cellK g3 8
    have q0 : (w3.alloc (.cells #[.string (wMade ++ n'), .int .i64 c', .string t, .string k', .bool x', .string n', .bool false, .slice none 0 0] 30)).frozen? ⟨w.heap.size + 1 + 1, 0, none⟩ = false := froK g3 0
    have q1 : (w3.alloc (.cells #[.string (wMade ++ n'), .int .i64 c', .string t, .string k', .bool x', .string n', .bool false, .slice none 0 0] 30)).frozen? ⟨w.heap.size + 1 + 1, 1, none⟩ = false := froK g3 1
    have q2 : (w3.alloc (.cells #[.string (wMade ++ n'), .int .i64 c', .string t, .string k', .bool x', .string n', .bool false, .slice none 0 0] 30)).frozen? ⟨w.heap.size + 1 + 1, 2, none⟩ = false := froK g3 2
    have q3 : (w3.alloc (.cells #[.string (wMade ++ n'), .int .i64 c', .string t, .string k', .bool x', .string n', .bool false, .slice none 0 0] 30)).frozen? ⟨w.heap.size + 1 + 1, 3, none⟩ = false := froK g3 3
    have q4 : (w3.alloc (.cells #[.string (wMade ++ n'), .int .i64 c', .string t, .string k', .bool x', .string n', .bool false, .slice none 0 0] 30)).frozen? ⟨w.heap.size + 1 + 1, 4, none⟩ = false := froK g3 4
    have q5 : (w3.alloc (.cells #[.string (wMade ++ n'), .int .i64 c', .string t, .string k', .bool x', .string n', .bool false, .slice none 0 0] 30)).frozen? ⟨w.heap.size + 1 + 1, 5, none⟩ = false := froK g3 5
    have q6 : (w3.alloc (.cells #[.string (wMade ++ n'), .int .i64 c', .string t, .string k', .bool x', .string n', .bool false, .slice none 0 0] 30)).frozen? ⟨w.heap.size + 1 + 1, 6, none⟩ = false := froK g3 6
    have q7 : (w3.alloc (.cells #[.string (wMade ++ n'), .int .i64 c', .string t, .string k', .bool x', .string n', .bool false, .slice none 0 0] 30)).frozen? ⟨w.heap.size + 1 + 1, 7, none⟩ = false := froK g3 7
    have q8 : (w3.alloc (.cells #[.string (wMade ++ n'), .int .i64 c', .string t, .string k', .bool x', .string n', .bool false, .slice none 0 0] 30)).frozen? ⟨w.heap.size + 1 + 1, 8, none⟩ = false := froK g3 8
    clear g0 g3 hb
    go_wp2_with fail
    exact bodyPost_ret (v := .agg #[.string (wMade ++ n'), .int .i64 c', .string t, .string k', .bool x', .string n', .bool false, .slice none 0 0, .int .i64 0]) (by simp [results, Try.results18, go_sem, *]) rfl ⟨_, _, _, _, _, _, _, rfl, .inr (.inr (.inr ⟨HL.out, ⟨h0.out, h1.out, h2.out⟩, hm, ⟨rfl, rfl, rfl, rfl, rfl, rfl⟩, rfl⟩)), set_below9 (by omega) HB4.out⟩
  · refine (smk_no n' c' k' x' v' n x y z t _ hn' hm).mono ?_
    rintro e w3 ⟨rfl, hb⟩
    have g0 := (hb.block _ (lt_of_some HG2.out)).trans HG2.out
    have HB3 := hidK (HB.out.trans (hb.mono HB.out.size))
    clear d0 d1 d2 d3 d4 e0 e1 e2 e3 r0 r1 r2 r3 r4 r5 r6 r7 r8 q0 q1 q2 q3 q4 q5 q6 q7 q8
    have HL3 := hidK (lt_of_some g0)
    have g3 := (Below.heap_alloc w3 (.cells #[.string ⟨#[]⟩, .int .i64 0, .string ⟨#[]⟩, .string ⟨#[]⟩, .bool false, .string ⟨#[]⟩, .bool false, .slice none 0 0] 30) _ HL3.out).trans g0
    have HB4 := hidK (HB3.out.trans ((below1 w3 (.cells #[.string ⟨#[]⟩, .int .i64 0, .string ⟨#[]⟩, .string ⟨#[]⟩, .bool false, .string ⟨#[]⟩, .bool false, .slice none 0 0] 30)).mono HB3.out.size))
    have r0 : (w3.alloc (.cells #[.string ⟨#[]⟩, .int .i64 0, .string ⟨#[]⟩, .string ⟨#[]⟩, .bool false, .string ⟨#[]⟩, .bool false, .slice none 0 0] 30)).cell? ⟨w.heap.size + 1 + 1, 0, none⟩ = some (.string ⟨#[]⟩) := cellK g3 0
    have r1 : (w3.alloc (.cells #[.string ⟨#[]⟩, .int .i64 0, .string ⟨#[]⟩, .string ⟨#[]⟩, .bool false, .string ⟨#[]⟩, .bool false, .slice none 0 0] 30)).cell? ⟨w.heap.size + 1 + 1, 1, none⟩ = some (.int .i64 0) := cellK g3 1
    have r2 : (w3.alloc (.cells #[.string ⟨#[]⟩, .int .i64 0, .string ⟨#[]⟩, .string ⟨#[]⟩, .bool false, .string ⟨#[]⟩, .bool false, .slice none 0 0] 30)).cell? ⟨w.heap.size + 1 + 1, 2, none⟩ = some (.string ⟨#[]⟩) := cellK g3 2
    have r3 : (w3.alloc (.cells #[.string ⟨#[]⟩, .int .i64 0, .string ⟨#[]⟩, .string ⟨#[]⟩, .bool false, .string ⟨#[]⟩, .bool false, .slice none 0 0] 30)).cell? ⟨w.heap.size + 1 + 1, 3, none⟩ = some (.string ⟨#[]⟩) := cellK g3 3
    have r4 : (w3.alloc (.cells #[.string ⟨#[]⟩, .int .i64 0, .string ⟨#[]⟩, .string ⟨#[]⟩, .bool false, .string ⟨#[]⟩, .bool false, .slice none 0 0] 30)).cell? ⟨w.heap.size + 1 + 1, 4, none⟩ = some (.bool false) := cellK g3 4
    have r5 : (w3.alloc (.cells #[.string ⟨#[]⟩, .int .i64 0, .string ⟨#[]⟩, .string ⟨#[]⟩, .bool false, .string ⟨#[]⟩, .bool false, .slice none 0 0] 30)).cell? ⟨w.heap.size + 1 + 1, 5, none⟩ = some (.string ⟨#[]⟩) := cellK g3 5
    have r6 : (w3.alloc (.cells #[.string ⟨#[]⟩, .int .i64 0, .string ⟨#[]⟩, .string ⟨#[]⟩, .bool false, .string ⟨#[]⟩, .bool false, .slice none 0 0] 30)).cell? ⟨w.heap.size + 1 + 1, 6, none⟩ = some (.bool false) := cellK g3 6
    have r7 : (w3.alloc (.cells #[.string ⟨#[]⟩, .int .i64 0, .string ⟨#[]⟩, .string ⟨#[]⟩, .bool false, .string ⟨#[]⟩, .bool false, .slice none 0 0] 30)).cell? ⟨w.heap.size + 1 + 1, 7, none⟩ = some (.slice none 0 0) := cellK g3 7
    have r8 : (w3.alloc (.cells #[.string ⟨#[]⟩, .int .i64 0, .string ⟨#[]⟩, .string ⟨#[]⟩, .bool false, .string ⟨#[]⟩, .bool false, .slice none 0 0] 30)).cell? ⟨w.heap.size + 1 + 1, 8, none⟩ = some (.int .i64 0) := cellK g3 8
    have q0 : (w3.alloc (.cells #[.string ⟨#[]⟩, .int .i64 0, .string ⟨#[]⟩, .string ⟨#[]⟩, .bool false, .string ⟨#[]⟩, .bool false, .slice none 0 0] 30)).frozen? ⟨w.heap.size + 1 + 1, 0, none⟩ = false := froK g3 0
    have q1 : (w3.alloc (.cells #[.string ⟨#[]⟩, .int .i64 0, .string ⟨#[]⟩, .string ⟨#[]⟩, .bool false, .string ⟨#[]⟩, .bool false, .slice none 0 0] 30)).frozen? ⟨w.heap.size + 1 + 1, 1, none⟩ = false := froK g3 1
    have q2 : (w3.alloc (.cells #[.string ⟨#[]⟩, .int .i64 0, .string ⟨#[]⟩, .string ⟨#[]⟩, .bool false, .string ⟨#[]⟩, .bool false, .slice none 0 0] 30)).frozen? ⟨w.heap.size + 1 + 1, 2, none⟩ = false := froK g3 2
    have q3 : (w3.alloc (.cells #[.string ⟨#[]⟩, .int .i64 0, .string ⟨#[]⟩, .string ⟨#[]⟩, .bool false, .string ⟨#[]⟩, .bool false, .slice none 0 0] 30)).frozen? ⟨w.heap.size + 1 + 1, 3, none⟩ = false := froK g3 3
    have q4 : (w3.alloc (.cells #[.string ⟨#[]⟩, .int .i64 0, .string ⟨#[]⟩, .string ⟨#[]⟩, .bool false, .string ⟨#[]⟩, .bool false, .slice none 0 0] 30)).frozen? ⟨w.heap.size + 1 + 1, 4, none⟩ = false := froK g3 4
    have q5 : (w3.alloc (.cells #[.string ⟨#[]⟩, .int .i64 0, .string ⟨#[]⟩, .string ⟨#[]⟩, .bool false, .string ⟨#[]⟩, .bool false, .slice none 0 0] 30)).frozen? ⟨w.heap.size + 1 + 1, 5, none⟩ = false := froK g3 5
    have q6 : (w3.alloc (.cells #[.string ⟨#[]⟩, .int .i64 0, .string ⟨#[]⟩, .string ⟨#[]⟩, .bool false, .string ⟨#[]⟩, .bool false, .slice none 0 0] 30)).frozen? ⟨w.heap.size + 1 + 1, 6, none⟩ = false := froK g3 6
    have q7 : (w3.alloc (.cells #[.string ⟨#[]⟩, .int .i64 0, .string ⟨#[]⟩, .string ⟨#[]⟩, .bool false, .string ⟨#[]⟩, .bool false, .slice none 0 0] 30)).frozen? ⟨w.heap.size + 1 + 1, 7, none⟩ = false := froK g3 7
    have q8 : (w3.alloc (.cells #[.string ⟨#[]⟩, .int .i64 0, .string ⟨#[]⟩, .string ⟨#[]⟩, .bool false, .string ⟨#[]⟩, .bool false, .slice none 0 0] 30)).frozen? ⟨w.heap.size + 1 + 1, 8, none⟩ = false := froK g3 8
    clear g0 g3 hb
    go_wp2_with fail
    exact bodyPost_ret (v := .agg #[.string ⟨#[]⟩, .int .i64 0, .string ⟨#[]⟩, .string ⟨#[]⟩, .bool false, .string ⟨#[]⟩, .bool false, .slice none 0 0, .int .i64 10]) (by simp [results, Try.results18, go_sem, *]) rfl ⟨_, _, _, _, _, _, _, rfl, .inr (.inr (.inl ⟨HL.out, ⟨h0.out, h1.out, h2.out⟩, hm, ⟨rfl, rfl, rfl, rfl, rfl, rfl⟩, rfl⟩)), set_below9 (by omega) HB4.out⟩


set_option maxHeartbeats 6400000 in
theorem imake_any (n' : ByteArray) (c' : Int) (k' : ByteArray) (x' : Bool) (v' : ByteArray) (n : ByteArray) (x : Bool) (y : Bool) (z : ByteArray) (t : ByteArray) (w : World) (hn' : n'.size ≤ 9223372036854775807) (hk' : k'.size ≤ 9223372036854775807) (hv' : v'.size ≤ 9223372036854775807) (hn : n.size ≤ 9223372036854775807) (hz : z.size ≤ 9223372036854775807) (ht : t.size ≤ 9223372036854775807) :
    Calls Try.prog 12 #[.agg #[.string n', .int .i64 c', .string k', .bool x', .string v'], .agg #[.string n, .bool x, .bool y, .string z], .string t] w (MakeAns n' c' k' x' v' n z t w) := by
  by_cases hl : 8000 < t.size
  · have HL := hidK hl
    go_enter Try.func12, Try.ntmps12
    go_wp2_with fail
    refine (long_yes t _ hl).mono ?_
    rintro e w1 ⟨rfl, rfl⟩
    go_wp2_with fail
    exact bodyPost_ret (v := .agg #[.string ⟨#[]⟩, .int .i64 0, .string ⟨#[]⟩, .string ⟨#[]⟩, .bool false, .string ⟨#[]⟩, .bool false, .slice none 0 0, .int .i64 2]) (by simp [results, Try.results12, go_sem]) rfl ⟨_, _, _, _, _, _, _, rfl, .inl ⟨HL.out, ⟨rfl, rfl, rfl, rfl, rfl, rfl⟩, rfl⟩, below3 _ _ _ _⟩
  have HL := hidK hl
  go_enter Try.func12, Try.ntmps12
  go_wp2_with fail
  refine (long_no t _ hl).mono ?_
  rintro e w1 ⟨rfl, rfl⟩
  go_wp2_with fail
  refine (iclaim_any n' c' k' x' v' _ hn' hk' hv').mono ?_
  rintro e w1 ⟨r, rfl, hr, hb⟩
  have g0 := (hb.block w.heap.size (by simp; omega)).trans (heap3_0 _ _ _ _)
  have g1 := (hb.block (w.heap.size + 1) (by simp)).trans (heap3_1 _ _ _ _)
  have g2 := (hb.block (w.heap.size + 1 + 1) (by simp)).trans (heap3_2 _ _ _ _)
  have HB := hidK ((below3 w _ _ _).trans (hb.mono (by simp; omega)))
  have HG0 := hidK g0
  have HG1 := hidK g1
  have HG2 := hidK g2
  have d0 : w1.cell? ⟨w.heap.size, 0, none⟩ = some (.string n') := cellK g0 0
  have d1 : w1.cell? ⟨w.heap.size, 1, none⟩ = some (.int .i64 c') := cellK g0 1
  have d2 : w1.cell? ⟨w.heap.size, 2, none⟩ = some (.string k') := cellK g0 2
  have d3 : w1.cell? ⟨w.heap.size, 3, none⟩ = some (.bool x') := cellK g0 3
  have d4 : w1.cell? ⟨w.heap.size, 4, none⟩ = some (.string v') := cellK g0 4
  have e0 : w1.cell? ⟨w.heap.size + 1, 0, none⟩ = some (.string n) := cellK g1 0
  have e1 : w1.cell? ⟨w.heap.size + 1, 1, none⟩ = some (.bool x) := cellK g1 1
  have e2 : w1.cell? ⟨w.heap.size + 1, 2, none⟩ = some (.bool y) := cellK g1 2
  have e3 : w1.cell? ⟨w.heap.size + 1, 3, none⟩ = some (.string z) := cellK g1 3
  have r0 : w1.cell? ⟨w.heap.size + 1 + 1, 0, none⟩ = some (.string ⟨#[]⟩) := cellK g2 0
  have r1 : w1.cell? ⟨w.heap.size + 1 + 1, 1, none⟩ = some (.int .i64 0) := cellK g2 1
  have r2 : w1.cell? ⟨w.heap.size + 1 + 1, 2, none⟩ = some (.string ⟨#[]⟩) := cellK g2 2
  have r3 : w1.cell? ⟨w.heap.size + 1 + 1, 3, none⟩ = some (.string ⟨#[]⟩) := cellK g2 3
  have r4 : w1.cell? ⟨w.heap.size + 1 + 1, 4, none⟩ = some (.bool false) := cellK g2 4
  have r5 : w1.cell? ⟨w.heap.size + 1 + 1, 5, none⟩ = some (.string ⟨#[]⟩) := cellK g2 5
  have r6 : w1.cell? ⟨w.heap.size + 1 + 1, 6, none⟩ = some (.bool false) := cellK g2 6
  have r7 : w1.cell? ⟨w.heap.size + 1 + 1, 7, none⟩ = some (.slice none 0 0) := cellK g2 7
  have r8 : w1.cell? ⟨w.heap.size + 1 + 1, 8, none⟩ = some (.int .i64 0) := cellK g2 8
  have q0 : w1.frozen? ⟨w.heap.size + 1 + 1, 0, none⟩ = false := froK g2 0
  have q1 : w1.frozen? ⟨w.heap.size + 1 + 1, 1, none⟩ = false := froK g2 1
  have q2 : w1.frozen? ⟨w.heap.size + 1 + 1, 2, none⟩ = false := froK g2 2
  have q3 : w1.frozen? ⟨w.heap.size + 1 + 1, 3, none⟩ = false := froK g2 3
  have q4 : w1.frozen? ⟨w.heap.size + 1 + 1, 4, none⟩ = false := froK g2 4
  have q5 : w1.frozen? ⟨w.heap.size + 1 + 1, 5, none⟩ = false := froK g2 5
  have q6 : w1.frozen? ⟨w.heap.size + 1 + 1, 6, none⟩ = false := froK g2 6
  have q7 : w1.frozen? ⟨w.heap.size + 1 + 1, 7, none⟩ = false := froK g2 7
  have q8 : w1.frozen? ⟨w.heap.size + 1 + 1, 8, none⟩ = false := froK g2 8
  clear g0 g1 g2 hb
  by_cases hq : r = true
  case neg =>
    have HN := hidK (fun h => hq (hr.2 h))
    have hrf : r = false := by simpa using hq
    clear hr
    go_wp2_with fail
    exact bodyPost_ret (v := .agg #[.string ⟨#[]⟩, .int .i64 0, .string ⟨#[]⟩, .string ⟨#[]⟩, .bool false, .string ⟨#[]⟩, .bool false, .slice none 0 0, .int .i64 1]) (by simp [results, Try.results12, go_sem, *]) rfl ⟨_, _, _, _, _, _, _, rfl, .inr (.inl ⟨HL.out, fun h => HN.out h.1, ⟨rfl, rfl, rfl, rfl, rfl, rfl⟩, rfl⟩), set_below9 (by omega) HB.out⟩
  have h0 := hidK (hr.1 hq)
  subst hq
  clear hr
  go_wp2_with fail
  refine (iclass_any n z x y _ hn hz).mono ?_
  rintro e w2 ⟨r, rfl, hr, hb⟩
  have g0 := (hb.block _ (lt_of_some HG0.out)).trans HG0.out
  have g1 := (hb.block _ (lt_of_some HG1.out)).trans HG1.out
  have g2 := (hb.block _ (lt_of_some HG2.out)).trans HG2.out
  have HB' := hidK (HB.out.trans (hb.mono HB.out.size))
  clear HB HG0 HG1 HG2 d0 d1 d2 d3 d4 e0 e1 e2 e3 r0 r1 r2 r3 r4 r5 r6 r7 r8 q0 q1 q2 q3 q4 q5 q6 q7 q8
  have HB := HB'
  clear HB'
  have HG0 := hidK g0
  have HG1 := hidK g1
  have HG2 := hidK g2
  have d0 : w2.cell? ⟨w.heap.size, 0, none⟩ = some (.string n') := cellK g0 0
  have d1 : w2.cell? ⟨w.heap.size, 1, none⟩ = some (.int .i64 c') := cellK g0 1
  have d2 : w2.cell? ⟨w.heap.size, 2, none⟩ = some (.string k') := cellK g0 2
  have d3 : w2.cell? ⟨w.heap.size, 3, none⟩ = some (.bool x') := cellK g0 3
  have d4 : w2.cell? ⟨w.heap.size, 4, none⟩ = some (.string v') := cellK g0 4
  have e0 : w2.cell? ⟨w.heap.size + 1, 0, none⟩ = some (.string n) := cellK g1 0
  have e1 : w2.cell? ⟨w.heap.size + 1, 1, none⟩ = some (.bool x) := cellK g1 1
  have e2 : w2.cell? ⟨w.heap.size + 1, 2, none⟩ = some (.bool y) := cellK g1 2
  have e3 : w2.cell? ⟨w.heap.size + 1, 3, none⟩ = some (.string z) := cellK g1 3
  have r0 : w2.cell? ⟨w.heap.size + 1 + 1, 0, none⟩ = some (.string ⟨#[]⟩) := cellK g2 0
  have r1 : w2.cell? ⟨w.heap.size + 1 + 1, 1, none⟩ = some (.int .i64 0) := cellK g2 1
  have r2 : w2.cell? ⟨w.heap.size + 1 + 1, 2, none⟩ = some (.string ⟨#[]⟩) := cellK g2 2
  have r3 : w2.cell? ⟨w.heap.size + 1 + 1, 3, none⟩ = some (.string ⟨#[]⟩) := cellK g2 3
  have r4 : w2.cell? ⟨w.heap.size + 1 + 1, 4, none⟩ = some (.bool false) := cellK g2 4
  have r5 : w2.cell? ⟨w.heap.size + 1 + 1, 5, none⟩ = some (.string ⟨#[]⟩) := cellK g2 5
  have r6 : w2.cell? ⟨w.heap.size + 1 + 1, 6, none⟩ = some (.bool false) := cellK g2 6
  have r7 : w2.cell? ⟨w.heap.size + 1 + 1, 7, none⟩ = some (.slice none 0 0) := cellK g2 7
  have r8 : w2.cell? ⟨w.heap.size + 1 + 1, 8, none⟩ = some (.int .i64 0) := cellK g2 8
  have q0 : w2.frozen? ⟨w.heap.size + 1 + 1, 0, none⟩ = false := froK g2 0
  have q1 : w2.frozen? ⟨w.heap.size + 1 + 1, 1, none⟩ = false := froK g2 1
  have q2 : w2.frozen? ⟨w.heap.size + 1 + 1, 2, none⟩ = false := froK g2 2
  have q3 : w2.frozen? ⟨w.heap.size + 1 + 1, 3, none⟩ = false := froK g2 3
  have q4 : w2.frozen? ⟨w.heap.size + 1 + 1, 4, none⟩ = false := froK g2 4
  have q5 : w2.frozen? ⟨w.heap.size + 1 + 1, 5, none⟩ = false := froK g2 5
  have q6 : w2.frozen? ⟨w.heap.size + 1 + 1, 6, none⟩ = false := froK g2 6
  have q7 : w2.frozen? ⟨w.heap.size + 1 + 1, 7, none⟩ = false := froK g2 7
  have q8 : w2.frozen? ⟨w.heap.size + 1 + 1, 8, none⟩ = false := froK g2 8
  clear g0 g1 g2 hb
  by_cases hq : r = true
  case neg =>
    have HN := hidK (fun h => hq (hr.2 h))
    have hrf : r = false := by simpa using hq
    clear hr
    go_wp2_with fail
    exact bodyPost_ret (v := .agg #[.string ⟨#[]⟩, .int .i64 0, .string ⟨#[]⟩, .string ⟨#[]⟩, .bool false, .string ⟨#[]⟩, .bool false, .slice none 0 0, .int .i64 1]) (by simp [results, Try.results12, go_sem, *]) rfl ⟨_, _, _, _, _, _, _, rfl, .inr (.inl ⟨HL.out, fun h => HN.out h.2.1, ⟨rfl, rfl, rfl, rfl, rfl, rfl⟩, rfl⟩), set_below9 (by omega) HB.out⟩
  have h1 := hidK (hr.1 hq)
  subst hq
  clear hr
  go_wp2_with fail
  refine (iname_any t _ ht).mono ?_
  rintro e w3 ⟨r, rfl, hr, rfl⟩
  by_cases hq : r = true
  case neg =>
    have HN := hidK (fun h => hq (hr.2 h))
    have hrf : r = false := by simpa using hq
    clear hr
    go_wp2_with fail
    exact bodyPost_ret (v := .agg #[.string ⟨#[]⟩, .int .i64 0, .string ⟨#[]⟩, .string ⟨#[]⟩, .bool false, .string ⟨#[]⟩, .bool false, .slice none 0 0, .int .i64 1]) (by simp [results, Try.results12, go_sem, *]) rfl ⟨_, _, _, _, _, _, _, rfl, .inr (.inl ⟨HL.out, fun h => HN.out h.2.2, ⟨rfl, rfl, rfl, rfl, rfl, rfl⟩, rfl⟩), set_below9 (by omega) HB.out⟩
  have h2 := hidK (hr.1 hq)
  subst hq
  clear hr
  by_cases m0 : k' = n
  case neg =>
    have q90 := tl_no m0
    have M0 := hidK m0
    clear m0
    go_wp2_with fail
    exact bodyPost_ret (v := .agg #[.string ⟨#[]⟩, .int .i64 0, .string ⟨#[]⟩, .string ⟨#[]⟩, .bool false, .string ⟨#[]⟩, .bool false, .slice none 0 0, .int .i64 10]) (by simp [results, Try.results12, go_sem, *]) rfl ⟨_, _, _, _, _, _, _, rfl, .inr (.inr (.inl ⟨HL.out, ⟨h0.out, h1.out, h2.out⟩, fun h => M0.out h.1, ⟨rfl, rfl, rfl, rfl, rfl, rfl⟩, rfl⟩)), set_below9 (by omega) HB.out⟩
  have q90 := tl_yes m0
  have M0 := hidK m0
  clear m0
  by_cases m1 : v' = ⟨#[]⟩
  case neg =>
    have q91 := isE_no m1
    have M1 := hidK m1
    clear m1
    go_wp2_with fail
    exact bodyPost_ret (v := .agg #[.string ⟨#[]⟩, .int .i64 0, .string ⟨#[]⟩, .string ⟨#[]⟩, .bool false, .string ⟨#[]⟩, .bool false, .slice none 0 0, .int .i64 10]) (by simp [results, Try.results12, go_sem, *]) rfl ⟨_, _, _, _, _, _, _, rfl, .inr (.inr (.inl ⟨HL.out, ⟨h0.out, h1.out, h2.out⟩, fun h => M1.out h.2.1, ⟨rfl, rfl, rfl, rfl, rfl, rfl⟩, rfl⟩)), set_below9 (by omega) HB.out⟩
  have q91 : v'.toList.isEmpty = true := (isE_iff v').2 m1
  have M1 := hidK m1
  clear m1
  go_wp2_with fail
  refine (imay_any n x y z t _ hn hz ht).mono ?_
  rintro e w4 ⟨r, rfl, hr, hb⟩
  have g0 := (hb.block _ (lt_of_some HG0.out)).trans HG0.out
  have g1 := (hb.block _ (lt_of_some HG1.out)).trans HG1.out
  have g2 := (hb.block _ (lt_of_some HG2.out)).trans HG2.out
  have HB' := hidK (HB.out.trans (hb.mono HB.out.size))
  clear HB HG0 HG1 HG2 d0 d1 d2 d3 d4 e0 e1 e2 e3 r0 r1 r2 r3 r4 r5 r6 r7 r8 q0 q1 q2 q3 q4 q5 q6 q7 q8
  have HB := HB'
  clear HB'
  have HG0 := hidK g0
  have HG1 := hidK g1
  have HG2 := hidK g2
  have d0 : w4.cell? ⟨w.heap.size, 0, none⟩ = some (.string n') := cellK g0 0
  have d1 : w4.cell? ⟨w.heap.size, 1, none⟩ = some (.int .i64 c') := cellK g0 1
  have d2 : w4.cell? ⟨w.heap.size, 2, none⟩ = some (.string k') := cellK g0 2
  have d3 : w4.cell? ⟨w.heap.size, 3, none⟩ = some (.bool x') := cellK g0 3
  have d4 : w4.cell? ⟨w.heap.size, 4, none⟩ = some (.string v') := cellK g0 4
  have e0 : w4.cell? ⟨w.heap.size + 1, 0, none⟩ = some (.string n) := cellK g1 0
  have e1 : w4.cell? ⟨w.heap.size + 1, 1, none⟩ = some (.bool x) := cellK g1 1
  have e2 : w4.cell? ⟨w.heap.size + 1, 2, none⟩ = some (.bool y) := cellK g1 2
  have e3 : w4.cell? ⟨w.heap.size + 1, 3, none⟩ = some (.string z) := cellK g1 3
  have r0 : w4.cell? ⟨w.heap.size + 1 + 1, 0, none⟩ = some (.string ⟨#[]⟩) := cellK g2 0
  have r1 : w4.cell? ⟨w.heap.size + 1 + 1, 1, none⟩ = some (.int .i64 0) := cellK g2 1
  have r2 : w4.cell? ⟨w.heap.size + 1 + 1, 2, none⟩ = some (.string ⟨#[]⟩) := cellK g2 2
  have r3 : w4.cell? ⟨w.heap.size + 1 + 1, 3, none⟩ = some (.string ⟨#[]⟩) := cellK g2 3
  have r4 : w4.cell? ⟨w.heap.size + 1 + 1, 4, none⟩ = some (.bool false) := cellK g2 4
  have r5 : w4.cell? ⟨w.heap.size + 1 + 1, 5, none⟩ = some (.string ⟨#[]⟩) := cellK g2 5
  have r6 : w4.cell? ⟨w.heap.size + 1 + 1, 6, none⟩ = some (.bool false) := cellK g2 6
  have r7 : w4.cell? ⟨w.heap.size + 1 + 1, 7, none⟩ = some (.slice none 0 0) := cellK g2 7
  have r8 : w4.cell? ⟨w.heap.size + 1 + 1, 8, none⟩ = some (.int .i64 0) := cellK g2 8
  have q0 : w4.frozen? ⟨w.heap.size + 1 + 1, 0, none⟩ = false := froK g2 0
  have q1 : w4.frozen? ⟨w.heap.size + 1 + 1, 1, none⟩ = false := froK g2 1
  have q2 : w4.frozen? ⟨w.heap.size + 1 + 1, 2, none⟩ = false := froK g2 2
  have q3 : w4.frozen? ⟨w.heap.size + 1 + 1, 3, none⟩ = false := froK g2 3
  have q4 : w4.frozen? ⟨w.heap.size + 1 + 1, 4, none⟩ = false := froK g2 4
  have q5 : w4.frozen? ⟨w.heap.size + 1 + 1, 5, none⟩ = false := froK g2 5
  have q6 : w4.frozen? ⟨w.heap.size + 1 + 1, 6, none⟩ = false := froK g2 6
  have q7 : w4.frozen? ⟨w.heap.size + 1 + 1, 7, none⟩ = false := froK g2 7
  have q8 : w4.frozen? ⟨w.heap.size + 1 + 1, 8, none⟩ = false := froK g2 8
  clear g0 g1 g2 hb
  by_cases hq : r = true
  case neg =>
    have HN := hidK (fun h => hq (hr.2 h))
    have hrf : r = false := by simpa using hq
    clear hr
    go_wp2_with fail
    exact bodyPost_ret (v := .agg #[.string ⟨#[]⟩, .int .i64 0, .string ⟨#[]⟩, .string ⟨#[]⟩, .bool false, .string ⟨#[]⟩, .bool false, .slice none 0 0, .int .i64 10]) (by simp [results, Try.results12, go_sem, *]) rfl ⟨_, _, _, _, _, _, _, rfl, .inr (.inr (.inl ⟨HL.out, ⟨h0.out, h1.out, h2.out⟩, fun h => HN.out ⟨h1.out, h2.out, h.2.2.1⟩, ⟨rfl, rfl, rfl, rfl, rfl, rfl⟩, rfl⟩)), set_below9 (by omega) HB.out⟩
  have M2 := hidK (hr.1 hq).2.2
  subst hq
  clear hr
  by_cases m3 : 18 < n'.size
  · have M3 := hidK m3
    go_wp2_with fail
    exact bodyPost_ret (v := .agg #[.string ⟨#[]⟩, .int .i64 0, .string ⟨#[]⟩, .string ⟨#[]⟩, .bool false, .string ⟨#[]⟩, .bool false, .slice none 0 0, .int .i64 10]) (by simp [results, Try.results12, go_sem, *]) rfl ⟨_, _, _, _, _, _, _, rfl, .inr (.inr (.inl ⟨HL.out, ⟨h0.out, h1.out, h2.out⟩, fun h => by have h9 := h.2.2.2; have h8 := M3.out; omega, ⟨rfl, rfl, rfl, rfl, rfl, rfl⟩, rfl⟩)), set_below9 (by omega) HB.out⟩
  go_wp2_with fail
  refine (joined_any ⟨#[118, 95]⟩ n' _ (by rw [show (⟨#[118, 95]⟩ : ByteArray).size = 2 from rfl]; omega)).mono ?_
  rintro e w5 ⟨rfl, hb⟩
  have g0 := (hb.block _ (lt_of_some HG0.out)).trans HG0.out
  have g1 := (hb.block _ (lt_of_some HG1.out)).trans HG1.out
  have g2 := (hb.block _ (lt_of_some HG2.out)).trans HG2.out
  have HB' := hidK (HB.out.trans (hb.mono HB.out.size))
  clear HB HG0 HG1 HG2 d0 d1 d2 d3 d4 e0 e1 e2 e3 r0 r1 r2 r3 r4 r5 r6 r7 r8 q0 q1 q2 q3 q4 q5 q6 q7 q8
  have HB := HB'
  clear HB'
  have HG0 := hidK g0
  have HG1 := hidK g1
  have HG2 := hidK g2
  have d0 : w5.cell? ⟨w.heap.size, 0, none⟩ = some (.string n') := cellK g0 0
  have d1 : w5.cell? ⟨w.heap.size, 1, none⟩ = some (.int .i64 c') := cellK g0 1
  have d2 : w5.cell? ⟨w.heap.size, 2, none⟩ = some (.string k') := cellK g0 2
  have d3 : w5.cell? ⟨w.heap.size, 3, none⟩ = some (.bool x') := cellK g0 3
  have d4 : w5.cell? ⟨w.heap.size, 4, none⟩ = some (.string v') := cellK g0 4
  have e0 : w5.cell? ⟨w.heap.size + 1, 0, none⟩ = some (.string n) := cellK g1 0
  have e1 : w5.cell? ⟨w.heap.size + 1, 1, none⟩ = some (.bool x) := cellK g1 1
  have e2 : w5.cell? ⟨w.heap.size + 1, 2, none⟩ = some (.bool y) := cellK g1 2
  have e3 : w5.cell? ⟨w.heap.size + 1, 3, none⟩ = some (.string z) := cellK g1 3
  have r0 : w5.cell? ⟨w.heap.size + 1 + 1, 0, none⟩ = some (.string ⟨#[]⟩) := cellK g2 0
  have r1 : w5.cell? ⟨w.heap.size + 1 + 1, 1, none⟩ = some (.int .i64 0) := cellK g2 1
  have r2 : w5.cell? ⟨w.heap.size + 1 + 1, 2, none⟩ = some (.string ⟨#[]⟩) := cellK g2 2
  have r3 : w5.cell? ⟨w.heap.size + 1 + 1, 3, none⟩ = some (.string ⟨#[]⟩) := cellK g2 3
  have r4 : w5.cell? ⟨w.heap.size + 1 + 1, 4, none⟩ = some (.bool false) := cellK g2 4
  have r5 : w5.cell? ⟨w.heap.size + 1 + 1, 5, none⟩ = some (.string ⟨#[]⟩) := cellK g2 5
  have r6 : w5.cell? ⟨w.heap.size + 1 + 1, 6, none⟩ = some (.bool false) := cellK g2 6
  have r7 : w5.cell? ⟨w.heap.size + 1 + 1, 7, none⟩ = some (.slice none 0 0) := cellK g2 7
  have r8 : w5.cell? ⟨w.heap.size + 1 + 1, 8, none⟩ = some (.int .i64 0) := cellK g2 8
  have q0 : w5.frozen? ⟨w.heap.size + 1 + 1, 0, none⟩ = false := froK g2 0
  have q1 : w5.frozen? ⟨w.heap.size + 1 + 1, 1, none⟩ = false := froK g2 1
  have q2 : w5.frozen? ⟨w.heap.size + 1 + 1, 2, none⟩ = false := froK g2 2
  have q3 : w5.frozen? ⟨w.heap.size + 1 + 1, 3, none⟩ = false := froK g2 3
  have q4 : w5.frozen? ⟨w.heap.size + 1 + 1, 4, none⟩ = false := froK g2 4
  have q5 : w5.frozen? ⟨w.heap.size + 1 + 1, 5, none⟩ = false := froK g2 5
  have q6 : w5.frozen? ⟨w.heap.size + 1 + 1, 6, none⟩ = false := froK g2 6
  have q7 : w5.frozen? ⟨w.heap.size + 1 + 1, 7, none⟩ = false := froK g2 7
  have q8 : w5.frozen? ⟨w.heap.size + 1 + 1, 8, none⟩ = false := froK g2 8
  clear g0 g1 g2 hb
  go_wp2_with fail
  exact bodyPost_ret (v := .agg #[.string (wMade ++ n'), .int .i64 c', .string t, .string k', .bool x', .string n', .bool false, .slice none 0 0, .int .i64 0]) (by simp [results, Try.results12, go_sem, wMade, *]) rfl ⟨_, _, _, _, _, _, _, rfl, .inr (.inr (.inr ⟨HL.out, ⟨h0.out, h1.out, h2.out⟩, ⟨M0.out, M1.out, M2.out, by omega⟩, ⟨rfl, rfl, rfl, rfl, rfl, rfl⟩, rfl⟩)), set_below9 (by omega) HB.out⟩

end Go.Proofs.Ytjkgpkgbaapdmaa
