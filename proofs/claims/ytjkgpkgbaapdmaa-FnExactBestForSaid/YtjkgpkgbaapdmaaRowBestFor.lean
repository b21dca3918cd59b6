/-
  FnExactBestFor: for every argument the call returns true (the program's function answers as the specification's, every field), and each argument reads afterwards as it read before; no condition.
-/
import Derived.Test.YtjkgpkgbaapdmaaLawBestFor
import Derived.Test.YtjkgpkgbaapdmaaAgg
import Derived.Test.YtjkgpkgbaapdmaaAggVs
import Derived.Carry
import Derived.ProofKit
import Derived.OpenShut
import Derived.ShutString
import Derived.ChangeOld
import Derived.Below
namespace Go.Proofs.Ytjkgpkgbaapdmaa
open Go.ChangeShapes Go.WideShapes Go.ChangeAt Go.RowKit
open Go.ChangeMaps (open_string shut_string)

namespace fnExactBestFor
theorem own : ownKnob Try.prog.godebug = none := by kernel_rfl
theorem laidOut : laidOutB Try.prog = true := by kernel_rfl

set_option linter.unusedVariables false in
set_option maxRecDepth 100000 in
theorem lifted (os : Os) (started : os.Started) (H : Type) (enc : TypeId × Value → H) :
    ReturnsInHanded {} Try.checked os 5 .any (Rows.fnExactBestForSpec.pre6 enc Try.prog Try.f5 Rows.fnExactBestForRow.domain false) (Rows.fnExactBestForSpec.post enc Try.prog Try.f5 false true false false) := by
  refine returnsInHanded_of_change (C := Try.checked) own started (by kernel_rfl) Try.func5
    (ChangeSpec.witness6 (enc := enc) (C := Try.checked) false ⟨#[], #[.slice none 0 0, .agg #[.string ⟨#[]⟩, .int .i64 0, .string ⟨#[]⟩, .bool false, .string ⟨#[]⟩], .string ⟨#[]⟩], []⟩ 8 (by kernel_rfl) (by kernel_rfl) (by kernel_rfl) (by kernel_rfl)) ?_
  intro W base args ds gs before hval0 hW hcnd _
  have hval : ∀ (j : Nat) t v, Try.f5.params[j]? = some t → args[j]? = some v → Value.okWide Try.prog W .any base t v := hval0
  have hW' := hW
  obtain ⟨p, q, hA0, hV, rfl, hfz, hnd⟩ := hW
  have hA : DataW.TrodAll enc Try.prog W 0 (fun _ => true) true Try.f5.params.toList args.toList ds p := hA0
  rw [Try.params5] at hA hval
  obtain ⟨v0, vs0, d0, ds0, p0, q0, hargs, rfl, rfl, h0, r0⟩ := trodAll_cons hA
  obtain ⟨v1, vs1, d1, ds1, p1, q1, rfl, rfl, rfl, h1, r1⟩ := trodAll_cons r0
  obtain ⟨v2, vs2, d2, ds2, p2, q2, rfl, rfl, rfl, h2, r2⟩ := trodAll_cons r1
  obtain ⟨rfl, rfl, rfl⟩ := trodAll_nil r2
  obtain rfl : args = #[v0, v1, v2] := by cases args; simp_all
  obtain ⟨rfl, rfl⟩ := trodVars_none hV
  have k0 := h0
  have lt0 : ∀ x ∈ p0, x.block < W.heap.size := by obtain ⟨m, hm⟩ := k0; exact DataW.trod_lt m _ _ _ hm
  obtain ⟨a0, len0, cap0, rfl⟩ := okWide_slice Try.underlying55 (hval 0 55 v0 rfl rfl)
  obtain ⟨fuel0, hf0⟩ := h0
  obtain ⟨a0', len0', cap0', z0, e0, w0⟩ := vsrow_of_trod hf0
  cases e0
  have k1 := h1
  have lt1 : ∀ x ∈ p1, x.block < W.heap.size := by obtain ⟨m, hm⟩ := k1; exact DataW.trod_lt m _ _ _ hm
  obtain ⟨cs1, n1, rfl, sz1, hf1⟩ := open_aggN Try.underlying49 (by kernel_rfl) (by kernel_rfl) (hval 1 49 v1 rfl rfl) h1
  obtain ⟨x1_0, x1_1, x1_2, x1_3, x1_4, rfl⟩ := list5 (show cs1.length = 5 from sz1)
  obtain ⟨c, y, e, t⟩ := hf1 0 _ rfl
  obtain rfl := Option.some.inj (show some x1_0 = some c from e)
  clear e
  obtain ⟨b1_0, q, -, w1_0⟩ := DataW.trod_string Try.underlying9 t
  obtain rfl : x1_0 = .string b1_0 := by simpa using q
  clear q t
  obtain ⟨c, y, e, t⟩ := hf1 1 _ rfl
  obtain rfl := Option.some.inj (show some x1_1 = some c from e)
  clear e
  obtain ⟨b1_1, q, -, w1_1⟩ := DataW.trod_int Try.underlying2 t
  obtain rfl : x1_1 = .int .i64 b1_1 := by simpa using q
  clear q t
  obtain ⟨c, y, e, t⟩ := hf1 2 _ rfl
  obtain rfl := Option.some.inj (show some x1_2 = some c from e)
  clear e
  obtain ⟨b1_2, q, -, w1_2⟩ := DataW.trod_string Try.underlying9 t
  obtain rfl : x1_2 = .string b1_2 := by simpa using q
  clear q t
  obtain ⟨c, y, e, t⟩ := hf1 3 _ rfl
  obtain rfl := Option.some.inj (show some x1_3 = some c from e)
  clear e
  obtain ⟨b1_3, q, -⟩ := DataW.trod_bool Try.underlying4 t
  obtain rfl : x1_3 = .bool b1_3 := by simpa using q
  clear q t
  obtain ⟨c, y, e, t⟩ := hf1 4 _ rfl
  obtain rfl := Option.some.inj (show some x1_4 = some c from e)
  clear e
  obtain ⟨b1_4, q, -, w1_4⟩ := DataW.trod_string Try.underlying9 t
  obtain rfl : x1_4 = .string b1_4 := by simpa using q
  clear q t
  obtain ⟨a2, rfl, rfl, rfl, w2⟩ := open_string Try.underlying9 (hval 2 9 v2 rfl rfl) h2
  clear hA0 hval0
  refine (fnExactBestFor_walk a0 len0 cap0 z0 b1_0 b1_1 b1_2 b1_3 b1_4 a2 W w0 w1_0 w1_1 w1_2 w1_4 w2).mono fun e W' ⟨he, bel⟩ => ?_
  subst he
  exact ⟨_, rfl, _, _, _, [], _, [], hW', trodAll_mk1 (shut_bool Try.underlying4 _), (trodAll_cons_mk (Below.trod laidOut (by kernel_rfl) (of_decide_eq_true (by kernel_rfl)) k0 bel lt0) (trodAll_cons_mk (Below.trod laidOut (by kernel_rfl) (of_decide_eq_true (by kernel_rfl)) k1 bel lt1) (trodAll_cons_mk (shut_string Try.underlying9 w2) trodAll_mk0))), rfl, bel.frame _, fun h => by cases h⟩

theorem over : Rows.fnExactBestForRow.holds Try.pinned (OpenSpec.ofChange Rows.fnExactBestForSpec) :=
  OpenClaim.holds_of_wide 5 Try.f5 rfl rfl rfl rfl rfl rfl rfl ⟨rfl, rfl, rfl, rfl, rfl⟩ rfl rfl rfl rfl rfl (by kernel_rfl) Try.func5 (by kernel_rfl)
    (of_decide_eq_true (by kernel_rfl)) (by unfold Func.isWrapper; first | (rw [if_pos (by decide +kernel)]; kernel_rfl) | (rw [if_neg (by decide +kernel)]; exact ⟨rfl, rfl⟩))
    (fun os started H enc _ => lifted os started H enc)
end fnExactBestFor

theorem fnExactBestFor_holds : Rows.FnExactBestForSaid := fnExactBestFor.over
#print axioms fnExactBestFor_holds
end Go.Proofs.Ytjkgpkgbaapdmaa
