/-
  The best volume of a list, of the specification.
-/
import Derived.Test.YtjkgpkgbaapdmaaVList
import Derived.Test.YtjkgpkgbaapdmaaServe
namespace Go.Proofs.Ytjkgpkgbaapdmaa
open Go.RowKit

/-- Does the volume stand ahead of the other one? -/
def betB (v u : Vd) : Bool := decide (v.c < u.c) || ((v.c == u.c) && Op.bytesLess v.n.toList u.n.toList)
def stepB (sv : Vd → Bool) (acc : Option Vd) (v : Vd) : Option Vd := if (sv v && (match acc with | none => true | some u => betB v u)) = true then some v else acc
/-- The best of those that serve. -/
def bestV (sv : Vd → Bool) (vs : List Vd) : Option Vd := vs.foldl (stepB sv) none
def svV (c' : Int) (k' : ByteArray) (x' : Bool) (t : ByteArray) (v : Vd) : Bool := svB v.c v.z v.k v.x v.m v.y c' k' x' t
theorem bestV_take {sv : Vd → Bool} {vs : List Vd} {i : Nat} {v : Vd} (h : vs[i]? = some v) : bestV sv (vs.take (i + 1)) = stepB sv (bestV sv (vs.take i)) v := by
  unfold bestV
  rw [List.take_add_one, h]
  simp
/-- So far: the number r of the best one. -/
def BestAt (sv : Vd → Bool) (vs : List Vd) (i : Nat) (r : Int) : Prop :=
  (r = -1 ∧ bestV sv (vs.take i) = none) ∨ ∃ (j : Nat) (u : Vd), r = j ∧ j < vs.length ∧ vs[j]? = some u ∧ bestV sv (vs.take i) = some u
theorem BestAt.no {sv : Vd → Bool} {vs : List Vd} {i : Nat} {r : Int} {v : Vd} (h : BestAt sv vs i r) (hv : vs[i]? = some v) (hs : sv v = false) : BestAt sv vs (i + 1) r := by
  unfold BestAt
  rw [bestV_take hv]
  simp only [stepB, hs, Bool.false_and, Bool.false_eq_true, if_false]
  exact h
theorem BestAt.first {sv : Vd → Bool} {vs : List Vd} {i : Nat} {v : Vd} (h : bestV sv (vs.take i) = none) (hv : vs[i]? = some v) (hs : sv v = true) : BestAt sv vs (i + 1) i := by
  refine .inr ⟨i, v, rfl, (List.getElem?_eq_some_iff.1 hv).1, hv, ?_⟩
  rw [bestV_take hv, h]
  simp [stepB, hs]
theorem BestAt.new {sv : Vd → Bool} {vs : List Vd} {i : Nat} {v u : Vd} (h : bestV sv (vs.take i) = some u) (hv : vs[i]? = some v) (hs : sv v = true) (hb : betB v u = true) : BestAt sv vs (i + 1) i := by
  refine .inr ⟨i, v, rfl, (List.getElem?_eq_some_iff.1 hv).1, hv, ?_⟩
  rw [bestV_take hv, h]
  simp [stepB, hs, hb]
theorem BestAt.old {sv : Vd → Bool} {vs : List Vd} {i j : Nat} {v u : Vd} (hj : vs[j]? = some u) (h : bestV sv (vs.take i) = some u) (hv : vs[i]? = some v) (hb : betB v u = false) : BestAt sv vs (i + 1) j := by
  refine .inr ⟨j, u, rfl, (List.getElem?_eq_some_iff.1 hj).1, hj, ?_⟩
  rw [bestV_take hv, h]
  simp [stepB, hb]

theorem ssv_is (v : Vd) (va : Option Addr) (vl vc : Nat) (n' : ByteArray) (c' : Int) (k' : ByteArray) (x' : Bool) (v' : ByteArray) (t : ByteArray) (w : World) {b : Bool} (h : svV c' k' x' t v = b) :
    Calls Try.prog 61 #[.agg #[.string v.n, .int .i64 v.c, .string v.z, .string v.k, .bool v.x, .string v.m, .bool v.y, .slice va vl vc], .agg #[.string n', .int .i64 c', .string k', .bool x', .string v'], .string t] w fun e w' => e = .returned (.bool b) ∧ Below w.heap.size w w' := by
  subst h
  exact ssv_any v.n v.c v.z v.k v.x v.m v.y va vl vc n' c' k' x' v' t w

set_option maxRecDepth 10000 in
set_option maxHeartbeats 12800000 in
theorem sbestK_any (a : Option Addr) (len cap : Nat) (vs : List Vd) (n' : ByteArray) (c' : Int) (k' : ByteArray) (x' : Bool) (v' : ByteArray) (t : ByteArray) (w : World) (hr : VsRow w a len cap vs) :
    Calls Try.prog 57 #[.slice a len cap, .agg #[.string n', .int .i64 c', .string k', .bool x', .string v'], .string t] w fun e w' => ∃ r : Int, e = .returned (.int .i64 r) ∧ BestAt (svV c' k' x' t) vs len r ∧ Below w.heap.size w w' := by
  have HR := hidK hr
  have hvl : vs.length = len := hr.1
  have hlc : len ≤ 9223372036854775807 := Nat.le_trans hr.2.1 hr.2.2.1
  clear hr
  go_enter Try.func57, Try.ntmps57
  go_wp2
  go_loopw [7, 8] (fun vk vi wr => ∃ (i : Nat) (r : Int), i ≤ len ∧ vk = .int .i64 r ∧ vi = .int .i64 i ∧ Hid (BestAt (svV c' k' x' t) vs i r) ∧ Hid (wr.heap[w.heap.size]? = some (.cells #[.string n', .int .i64 c', .string k', .bool x', .string v'] 25 (0, 0))) ∧ Hid (Below w.heap.size w wr)) (fun _ vi _ => len - (intOf vi).toNat)
  case atStart => exact ⟨0, -1, by omega, rfl, rfl, .inl ⟨rfl, rfl⟩, Array.getElem?_push_size, below1 _ _⟩
  case round =>
    obtain ⟨i, r, hi, rfl, rfl, HA, HG, HB⟩ := hrel
    by_cases hlt : i < len
    case neg =>
      obtain rfl : i = len := by omega
      go_wp2
      go_ret
      exact ⟨r, rfl, HA.out, HB.out⟩
    obtain ⟨b, o, v, rfl, hb, hv, -, va, vl, vc, -, p0, p1, p2, p3, p4, p5, p6, p7⟩ := (HR.out.below HB.out).at hlt
    have hgl : w.heap.size < wr.heap.size := lt_of_some HG.out
    have HV := hidK hv
    have hne := Wd.ne wr
    have e0 : ∀ q : Wd wr, q.w.cell? ⟨b, o + i * 8, none⟩ = some (.string v.n) := fun q => (q.cell hb).trans p0
    have e1 : ∀ q : Wd wr, q.w.cell? ⟨b, o + i * 8 + 1, none⟩ = some (.int .i64 v.c) := fun q => (q.cell hb).trans p1
    have e2 : ∀ q : Wd wr, q.w.cell? ⟨b, o + i * 8 + 2, none⟩ = some (.string v.z) := fun q => (q.cell hb).trans p2
    have e3 : ∀ q : Wd wr, q.w.cell? ⟨b, o + i * 8 + 3, none⟩ = some (.string v.k) := fun q => (q.cell hb).trans p3
    have e4 : ∀ q : Wd wr, q.w.cell? ⟨b, o + i * 8 + 4, none⟩ = some (.bool v.x) := fun q => (q.cell hb).trans p4
    have e5 : ∀ q : Wd wr, q.w.cell? ⟨b, o + i * 8 + 5, none⟩ = some (.string v.m) := fun q => (q.cell hb).trans p5
    have e6 : ∀ q : Wd wr, q.w.cell? ⟨b, o + i * 8 + 6, none⟩ = some (.bool v.y) := fun q => (q.cell hb).trans p6
    have e7 : ∀ q : Wd wr, q.w.cell? ⟨b, o + i * 8 + 7, none⟩ = some (.slice va vl vc) := fun q => (q.cell hb).trans p7
    have d0 : ∀ q : Wd wr, q.w.cell? ⟨w.heap.size, 0, none⟩ = some (.string n') := fun q => q.slot HG.out rfl
    have d1 : ∀ q : Wd wr, q.w.cell? ⟨w.heap.size, 1, none⟩ = some (.int .i64 c') := fun q => q.slot HG.out rfl
    have d2 : ∀ q : Wd wr, q.w.cell? ⟨w.heap.size, 2, none⟩ = some (.string k') := fun q => q.slot HG.out rfl
    have d3 : ∀ q : Wd wr, q.w.cell? ⟨w.heap.size, 3, none⟩ = some (.bool x') := fun q => q.slot HG.out rfl
    have d4 : ∀ q : Wd wr, q.w.cell? ⟨w.heap.size, 4, none⟩ = some (.string v') := fun q => q.slot HG.out rfl
    clear hv p2 p3 p4 p5 p6 p7
    cases hs : svV c' k' x' t v
    · have HF := hidK (fun q : Wd wr => ssv_is v va vl vc n' c' k' x' v' t q.w hs)
      have HS := hidK hs
      clear hs p0 p1
      go_wp2_with fail
      refine wp_region_wide (by kernel_rfl) (by kernel_rfl) ?_
      repeat (go_big_quiet_step (first | (go_at_call 61; exact Calls.wide (HF.out _)) | fail))
      refine wpQuiet_nil ?_
      rintro _ ⟨q, rfl⟩
      go_wp2_with fail
      exact ⟨⟨i + 1, _, by omega, rfl, by go_num, HA.out.no HV.out HS.out, (q.b.block _ hgl).trans HG.out, HB.out.trans (q.b.mono HB.out.size)⟩, by simp [intOf]; omega⟩
    have HF := hidK (fun q : Wd wr => ssv_is v va vl vc n' c' k' x' v' t q.w hs)
    have HS := hidK hs
    clear hs
    rcases HA.out with ⟨rfl, hn⟩ | ⟨j, u, rfl, hj, hu, hbu⟩
    · have HN := hidK hn
      clear hn p0 p1
      go_wp2_with fail
      refine wp_region_wide (by kernel_rfl) (by kernel_rfl) ?_
      repeat (go_big_quiet_step (first | (go_at_call 61; exact Calls.wide (HF.out _)) | fail))
      refine wpQuiet_nil ?_
      rintro _ ⟨q, rfl⟩
      go_wp2_with fail
      exact ⟨⟨i + 1, _, by omega, rfl, by go_num, BestAt.first HN.out HV.out HS.out, (q.b.block _ hgl).trans HG.out, HB.out.trans (q.b.mono HB.out.size)⟩, by simp [intOf]; omega⟩
    obtain ⟨b2, o2, u2, e2, hb2, hu2, -, ua, ul, uc, -, s0, s1, -, -, -, -, -, -⟩ := (HR.out.below HB.out).at (j := j) (by omega)
    rw [hu] at hu2
    obtain rfl := Option.some.inj hu2
    cases e2
    have g0 : ∀ q : Wd wr, q.w.cell? ⟨b, o + j * 8, none⟩ = some (.string u.n) := fun q => (q.cell hb).trans s0
    have g1 : ∀ q : Wd wr, q.w.cell? ⟨b, o + j * 8 + 1, none⟩ = some (.int .i64 u.c) := fun q => (q.cell hb).trans s1
    have HBU := hidK hbu
    have HU := hidK hu
    have hj0 : ¬ (j : Int) < 0 := by omega
    have hj1 : decide ((j : Int) < 0) = false := by simp
    have hjl : (j : Int) < len := by omega
    clear hu hu2 hbu s0 s1 p0 p1 hb2
    by_cases h1 : v.c < u.c
    · have q1 : decide (v.c < u.c) = true := by simpa using h1
      have HX := hidK (show betB v u = true by simp [betB, h1])
      go_wp2_with fail
      refine wp_region_wide (by kernel_rfl) (by kernel_rfl) ?_
      repeat (go_big_quiet_step (first | (go_at_call 61; exact Calls.wide (HF.out _)) | fail))
      refine wpQuiet_nil ?_
      rintro _ ⟨q, rfl⟩
      go_wp2_with fail
      exact ⟨⟨i + 1, _, by omega, rfl, by go_num, BestAt.new HBU.out HV.out HS.out HX.out, (q.b.block _ hgl).trans HG.out, HB.out.trans (q.b.mono HB.out.size)⟩, by simp [intOf]; omega⟩
    have q1 : decide (v.c < u.c) = false := by simpa using h1
    by_cases h2 : v.c = u.c
    case neg =>
      have q2 : (v.c == u.c) = false := by simpa using h2
      have HX := hidK (show betB v u = false by simp [betB, h1, h2])
      clear h2
      go_wp2_with fail
      refine wp_region_wide (by kernel_rfl) (by kernel_rfl) ?_
      repeat (go_big_quiet_step (first | (go_at_call 61; exact Calls.wide (HF.out _)) | fail))
      refine wpQuiet_nil ?_
      rintro _ ⟨q, rfl⟩
      go_wp2_with fail
      exact ⟨⟨i + 1, _, by omega, rfl, by go_num, BestAt.old HU.out HBU.out HV.out HX.out, (q.b.block _ hgl).trans HG.out, HB.out.trans (q.b.mono HB.out.size)⟩, by simp [intOf]; omega⟩
    have q2 : (v.c == u.c) = true := by simpa using h2
    cases q3 : Op.bytesLess v.n.toList u.n.toList
    · have HX := hidK (show betB v u = false by simp [betB, h1, q3])
      clear h2
      go_wp2_with fail
      refine wp_region_wide (by kernel_rfl) (by kernel_rfl) ?_
      repeat (go_big_quiet_step (first | (go_at_call 61; exact Calls.wide (HF.out _)) | fail))
      refine wpQuiet_nil ?_
      rintro _ ⟨q, rfl⟩
      go_wp2_with fail
      exact ⟨⟨i + 1, _, by omega, rfl, by go_num, BestAt.old HU.out HBU.out HV.out HX.out, (q.b.block _ hgl).trans HG.out, HB.out.trans (q.b.mono HB.out.size)⟩, by simp [intOf]; omega⟩
    · have HX := hidK (show betB v u = true by simp [betB, h2, q3])
      clear h2
      go_wp2_with fail
      refine wp_region_wide (by kernel_rfl) (by kernel_rfl) ?_
      repeat (go_big_quiet_step (first | (go_at_call 61; exact Calls.wide (HF.out _)) | fail))
      refine wpQuiet_nil ?_
      rintro _ ⟨q, rfl⟩
      go_wp2_with fail
      exact ⟨⟨i + 1, _, by omega, rfl, by go_num, BestAt.new HBU.out HV.out HS.out HX.out, (q.b.block _ hgl).trans HG.out, HB.out.trans (q.b.mono HB.out.size)⟩, by simp [intOf]; omega⟩

end Go.Proofs.Ytjkgpkgbaapdmaa
