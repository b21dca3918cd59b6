/-
  What BestFor of the program calls, and its answers at what is not right.
-/
import Derived.Test.YtjkgpkgbaapdmaaBestS
import Derived.Test.YtjkgpkgbaapdmaaLong
namespace Go.Proofs.Ytjkgpkgbaapdmaa
open Go.RowKit

theorem ret_bb {a b : Bool} (h : a = b) : Ending.returned (.bool a) = .returned (.bool b) := by rw [h]

set_option maxHeartbeats 1600000 in
theorem better_any (v u : Vd) (va ua : Option Addr) (vl vc ul uc : Nat) (w : World) :
    Calls Try.prog 48 #[.agg #[.string v.n, .int .i64 v.c, .string v.z, .string v.k, .bool v.x, .string v.m, .bool v.y, .slice va vl vc], .agg #[.string u.n, .int .i64 u.c, .string u.z, .string u.k, .bool u.x, .string u.m, .bool u.y, .slice ua ul uc]] w fun e w' => e = .returned (.bool (betB v u)) ∧ Below w.heap.size w w' := by
  have HB := hidK (below2 w (.cells #[.string v.n, .int .i64 v.c, .string v.z, .string v.k, .bool v.x, .string v.m, .bool v.y, .slice va vl vc] 30) (.cells #[.string u.n, .int .i64 u.c, .string u.z, .string u.k, .bool u.x, .string u.m, .bool u.y, .slice ua ul uc] 30))
  by_cases h : v.c = u.c
  · have h1 : (v.c != u.c) = false := by simp [h]
    have HX := hidK (show Op.bytesLess v.n.toList u.n.toList = betB v u by simp [betB, h])
    clear h
    go_enter Try.func48, Try.ntmps48
    go_wp2_with fail
    go_ret
    exact ⟨ret_bb HX.out, HB.out⟩
  · have h1 : (v.c != u.c) = true := by simp [h]
    have HX := hidK (show decide (v.c < u.c) = betB v u by simp [betB, h])
    clear h
    go_enter Try.func48, Try.ntmps48
    go_wp2_with fail
    go_ret
    exact ⟨ret_bb HX.out, HB.out⟩

set_option maxHeartbeats 3200000 in
theorem disks_any (a : Option Addr) (len cap : Nat) (vs : List Vd) (w : World) (hr : VsRow w a len cap vs) :
    Calls Try.prog 45 #[.slice a len cap] w (BoolB (vs.length ≤ 8 ∧ ∀ (j : Nat) v, vs[j]? = some v → v.Ok) w) := by
  have HR := hidK hr
  have hvl : vs.length = len := hr.1
  have hlc : len ≤ 9223372036854775807 := Nat.le_trans hr.2.1 hr.2.2.1
  clear hr
  by_cases h8 : 8 < len
  · go_enter Try.func45, Try.ntmps45
    go_wp2
    go_ret
    exact ⟨false, rfl, ⟨fun h => (by cases h), fun h => absurd h.1 (by omega)⟩, Below.refl _ _⟩
  go_enter Try.func45, Try.ntmps45
  go_wp2
  go_loopw [10] (fun vi wr => ∃ (i : Nat), i ≤ len ∧ vi = .int .i64 i ∧ Hid (∀ (j : Nat) v, j < i → vs[j]? = some v → v.Ok) ∧ Hid (Below w.heap.size w wr)) (fun vi _ => len - (intOf vi).toNat)
  case atStart => exact ⟨0, by omega, rfl, fun j v hj => by omega, Below.refl _ _⟩
  case round =>
    obtain ⟨i, hi, rfl, HA, HB⟩ := hrel
    by_cases hlt : i < len
    · obtain ⟨b, o, v, rfl, hb, hv, hf, va, vl, vc, hvr, c0, c1, c2, c3, c4, c5, c6, c7⟩ := (HR.out.below HB.out).at hlt
      have HV := hidK hv
      have HT := hidK hvr
      have HF := hidK hf
      clear hv hvr hf
      go_wp2_with fail
      refine (ivol_any v.n v.c v.z v.k v.x v.m v.y va vl vc v.zs _ HF.out.1 HF.out.2.1 HF.out.2.2.1 HF.out.2.2.2 (HT.out.below (below1 _ _))).mono ?_
      rintro e w3 ⟨r, rfl, hr, hb3⟩
      have HB3 := hidK (HB.out.trans ((slotK hb3).2.1.mono HB.out.size))
      by_cases hq : r = true
      case neg =>
        have HN := hidK (fun h => hq (hr.2 h))
        have hrf : r = false := by simpa using hq
        clear hr hb3 c0 c1 c2 c3 c4 c5 c6 c7
        go_wp2_with fail
        go_ret
        exact ⟨false, rfl, ⟨fun h => (by cases h), fun h => (HN.out (h.2 i v HV.out)).elim⟩, HB3.out⟩
      have hok := hr.1 hq
      subst hq
      clear hr hb3 c0 c1 c2 c3 c4 c5 c6 c7
      go_wp2_with fail
      refine ⟨⟨i + 1, by omega, by go_num, fun j u hj hu => ?_, HB3⟩, by simp [intOf]; omega⟩
      by_cases e : j = i
      · subst e
        rw [HV.out] at hu
        obtain rfl := Option.some.inj hu
        exact hok
      · exact HA.out j u (by omega) hu
    · obtain rfl : i = len := by omega
      go_wp2
      go_ret
      exact ⟨true, rfl, ⟨fun _ => ⟨by omega, fun j v hv => HA.out j v (by have := (List.getElem?_eq_some_iff.1 hv).1; omega) hv⟩, fun _ => rfl⟩, HB.out⟩

set_option maxRecDepth 10000 in
set_option maxHeartbeats 6400000 in
theorem ibest_bad (a : Option Addr) (len cap : Nat) (vs : List Vd) (n' : ByteArray) (c' : Int) (k' : ByteArray) (x' : Bool) (v' : ByteArray) (t : ByteArray) (w : World) (hn' : n'.size ≤ 9223372036854775807) (hk' : k'.size ≤ 9223372036854775807) (hv' : v'.size ≤ 9223372036854775807) (ht : t.size ≤ 9223372036854775807) (hr : VsRow w a len cap vs) (hbad : (400 < vs.length ∨ 8000 < t.size) ∨ ¬ BestR vs n' c' k' v' t) :
    Calls Try.prog 9 #[.slice a len cap, .agg #[.string n', .int .i64 c', .string k', .bool x', .string v'], .string t] w (BestAns vs n' c' k' x' v' t w) := by
  have HR := hidK hr
  have hvl : vs.length = len := hr.1
  have hlc : len ≤ 9223372036854775807 := Nat.le_trans hr.2.1 hr.2.2.1
  have HBAD := hidK hbad
  clear hr hbad
  by_cases hl4 : 400 < len
  · have HL := hidK (show BestIs vs n' c' k' x' v' t vZ 2 from .inl ⟨.inl (by omega), rfl, rfl⟩)
    go_enter Try.func9, Try.ntmps9
    go_wp2_with fail
    exact bodyPost_ret (v := .agg #[.string ⟨#[]⟩, .int .i64 0, .string ⟨#[]⟩, .string ⟨#[]⟩, .bool false, .string ⟨#[]⟩, .bool false, .slice none 0 0, .int .i64 2]) (by simp [results, Try.results9, go_sem]) rfl (BestAns.bad HL.out (below2 _ _ _))
  by_cases hl8 : 8000 < t.size
  · have HL := hidK (show BestIs vs n' c' k' x' v' t vZ 2 from .inl ⟨.inr hl8, rfl, rfl⟩)
    go_enter Try.func9, Try.ntmps9
    go_wp2_with fail
    refine (long_yes t _ hl8).mono ?_
    rintro e w1 ⟨rfl, rfl⟩
    go_wp2_with fail
    exact bodyPost_ret (v := .agg #[.string ⟨#[]⟩, .int .i64 0, .string ⟨#[]⟩, .string ⟨#[]⟩, .bool false, .string ⟨#[]⟩, .bool false, .slice none 0 0, .int .i64 2]) (by simp [results, Try.results9, go_sem]) rfl (BestAns.bad HL.out (below2 _ _ _))
  have HL := hidK (show ¬ (400 < vs.length ∨ 8000 < t.size) by omega)
  have HBR := hidK (HBAD.out.resolve_left HL.out)
  go_enter Try.func9, Try.ntmps9
  go_wp2_with fail
  refine (long_no t _ hl8).mono ?_
  rintro e w1 ⟨rfl, rfl⟩
  go_wp2_with fail
  refine (iclaim_any n' c' k' x' v' _ hn' hk' hv').mono ?_
  rintro e w1 ⟨r, rfl, hr, hb⟩
  have g1 := (hb.block (w.heap.size + 1) (by simp)).trans (heap2_1 _ _ _)
  have HB := hidK ((below2 w _ _).trans (hb.mono (by simp; omega)))
  have HG1 := hidK g1
  have r0 : w1.cell? ⟨w.heap.size + 1, 0, none⟩ = some (.string ⟨#[]⟩) := cellK g1 0
  have r1 : w1.cell? ⟨w.heap.size + 1, 1, none⟩ = some (.int .i64 0) := cellK g1 1
  have r2 : w1.cell? ⟨w.heap.size + 1, 2, none⟩ = some (.string ⟨#[]⟩) := cellK g1 2
  have r3 : w1.cell? ⟨w.heap.size + 1, 3, none⟩ = some (.string ⟨#[]⟩) := cellK g1 3
  have r4 : w1.cell? ⟨w.heap.size + 1, 4, none⟩ = some (.bool false) := cellK g1 4
  have r5 : w1.cell? ⟨w.heap.size + 1, 5, none⟩ = some (.string ⟨#[]⟩) := cellK g1 5
  have r6 : w1.cell? ⟨w.heap.size + 1, 6, none⟩ = some (.bool false) := cellK g1 6
  have r7 : w1.cell? ⟨w.heap.size + 1, 7, none⟩ = some (.slice none 0 0) := cellK g1 7
  have r8 : w1.cell? ⟨w.heap.size + 1, 8, none⟩ = some (.int .i64 0) := cellK g1 8
  have q0 : w1.frozen? ⟨w.heap.size + 1, 0, none⟩ = false := froK g1 0
  have q1 : w1.frozen? ⟨w.heap.size + 1, 1, none⟩ = false := froK g1 1
  have q2 : w1.frozen? ⟨w.heap.size + 1, 2, none⟩ = false := froK g1 2
  have q3 : w1.frozen? ⟨w.heap.size + 1, 3, none⟩ = false := froK g1 3
  have q4 : w1.frozen? ⟨w.heap.size + 1, 4, none⟩ = false := froK g1 4
  have q5 : w1.frozen? ⟨w.heap.size + 1, 5, none⟩ = false := froK g1 5
  have q6 : w1.frozen? ⟨w.heap.size + 1, 6, none⟩ = false := froK g1 6
  have q7 : w1.frozen? ⟨w.heap.size + 1, 7, none⟩ = false := froK g1 7
  have q8 : w1.frozen? ⟨w.heap.size + 1, 8, none⟩ = false := froK g1 8
  clear g1 hb
  by_cases hq : r = true
  case neg =>
    have hrf : r = false := by simpa using hq
    clear hr
    go_wp2_with fail
    exact bodyPost_ret (v := .agg #[.string ⟨#[]⟩, .int .i64 0, .string ⟨#[]⟩, .string ⟨#[]⟩, .bool false, .string ⟨#[]⟩, .bool false, .slice none 0 0, .int .i64 1]) (by simp [results, Try.results9, go_sem, *]) rfl (BestAns.bad (.inr (.inl ⟨HL.out, HBR.out, rfl, rfl⟩)) (set_below9B (by omega) HB.out))
  have h0 := hidK (hr.1 hq)
  subst hq
  clear hr
  go_wp2_with fail
  refine (izone_any t _ ht).mono ?_
  rintro e w2 ⟨r, rfl, hr, rfl⟩
  by_cases hq : r = true
  case neg =>
    have hrf : r = false := by simpa using hq
    clear hr
    go_wp2_with fail
    exact bodyPost_ret (v := .agg #[.string ⟨#[]⟩, .int .i64 0, .string ⟨#[]⟩, .string ⟨#[]⟩, .bool false, .string ⟨#[]⟩, .bool false, .slice none 0 0, .int .i64 1]) (by simp [results, Try.results9, go_sem, *]) rfl (BestAns.bad (.inr (.inl ⟨HL.out, HBR.out, rfl, rfl⟩)) (set_below9B (by omega) HB.out))
  have h1 := hidK (hr.1 hq)
  subst hq
  clear hr r0 q0 r1 q1 r2 q2 r3 q3 r4 q4 r5 q5 r6 q6 r7 q7 r8 q8
  go_wp2_with fail
  refine (disks_any a len cap vs _ (HR.out.below HB.out)).mono ?_
  rintro e w3 ⟨r, rfl, hr, hb⟩
  have hrf : r = false := by
    cases r with
    | false => rfl
    | true => exact absurd ⟨h0.out, h1.out, (hr.1 rfl).1, (hr.1 rfl).2⟩ HBR.out
  subst hrf
  have g1 := (hb.block _ (lt_of_some HG1.out)).trans HG1.out
  have HB2 := hidK (HB.out.trans (hb.mono HB.out.size))
  have r0 : w3.cell? ⟨w.heap.size + 1, 0, none⟩ = some (.string ⟨#[]⟩) := cellK g1 0
  have r1 : w3.cell? ⟨w.heap.size + 1, 1, none⟩ = some (.int .i64 0) := cellK g1 1
  have r2 : w3.cell? ⟨w.heap.size + 1, 2, none⟩ = some (.string ⟨#[]⟩) := cellK g1 2
  have r3 : w3.cell? ⟨w.heap.size + 1, 3, none⟩ = some (.string ⟨#[]⟩) := cellK g1 3
  have r4 : w3.cell? ⟨w.heap.size + 1, 4, none⟩ = some (.bool false) := cellK g1 4
  have r5 : w3.cell? ⟨w.heap.size + 1, 5, none⟩ = some (.string ⟨#[]⟩) := cellK g1 5
  have r6 : w3.cell? ⟨w.heap.size + 1, 6, none⟩ = some (.bool false) := cellK g1 6
  have r7 : w3.cell? ⟨w.heap.size + 1, 7, none⟩ = some (.slice none 0 0) := cellK g1 7
  have r8 : w3.cell? ⟨w.heap.size + 1, 8, none⟩ = some (.int .i64 0) := cellK g1 8
  have q0 : w3.frozen? ⟨w.heap.size + 1, 0, none⟩ = false := froK g1 0
  have q1 : w3.frozen? ⟨w.heap.size + 1, 1, none⟩ = false := froK g1 1
  have q2 : w3.frozen? ⟨w.heap.size + 1, 2, none⟩ = false := froK g1 2
  have q3 : w3.frozen? ⟨w.heap.size + 1, 3, none⟩ = false := froK g1 3
  have q4 : w3.frozen? ⟨w.heap.size + 1, 4, none⟩ = false := froK g1 4
  have q5 : w3.frozen? ⟨w.heap.size + 1, 5, none⟩ = false := froK g1 5
  have q6 : w3.frozen? ⟨w.heap.size + 1, 6, none⟩ = false := froK g1 6
  have q7 : w3.frozen? ⟨w.heap.size + 1, 7, none⟩ = false := froK g1 7
  have q8 : w3.frozen? ⟨w.heap.size + 1, 8, none⟩ = false := froK g1 8
  clear hr hb g1
  go_wp2_with fail
  exact bodyPost_ret (v := .agg #[.string ⟨#[]⟩, .int .i64 0, .string ⟨#[]⟩, .string ⟨#[]⟩, .bool false, .string ⟨#[]⟩, .bool false, .slice none 0 0, .int .i64 1]) (by simp [results, Try.results9, go_sem, *]) rfl (BestAns.bad (.inr (.inl ⟨HL.out, HBR.out, rfl, rfl⟩)) (set_below9B (by omega) HB2.out))

set_option maxHeartbeats 400000 in
theorem picked_any (a : Option Addr) (len cap : Nat) (v : Value) (fs : Array Value) (fn : Fn) (hv : v = .func fn #[] fs) (w : World) :
    Calls Try.prog 46 #[.slice a len cap, v] w fun e w' => e = .returned (.func (.func 78) #[] #[.pointer (some ⟨w.heap.size, 0, none⟩), .pointer (some ⟨w.heap.size + 1, 0, none⟩)]) ∧
      w'.heap[w.heap.size]? = some (.cells #[.slice a len cap] 23 (0, 0)) ∧ w'.heap[w.heap.size + 1]? = some (.cells #[v] 46 (0, 0)) ∧ Below w.heap.size w w' := by
  subst hv
  go_enter Try.func46, Try.ntmps46
  go_wp2
  go_ret
  exact ⟨rfl, heap2_0 _ _ _, heap2_1 _ _ _, below2 _ _ _⟩

end Go.Proofs.Ytjkgpkgbaapdmaa
