/-
  FnExactMakeFor: for every argument the call returns true (the program's function answers as the specification's, every field), and each argument reads afterwards as it read before; no condition.
-/
import Derived.Test.YtjkgpkgbaapdmaaLawMakeFor
import Derived.Test.YtjkgpkgbaapdmaaAgg
import Derived.Carry
import Derived.ProofKit
import Derived.OpenShut
import Derived.ShutString
import Derived.ChangeOld
import Derived.Below
namespace Go.Proofs.Ytjkgpkgbaapdmaa
open Go.ChangeShapes Go.WideShapes Go.ChangeAt Go.RowKit
open Go.ChangeMaps (open_string shut_string)

namespace fnExactMakeFor
theorem own : ownKnob Try.prog.godebug = none := by kernel_rfl
theorem laidOut : laidOutB Try.prog = true := by kernel_rfl

set_option linter.unusedVariables false in
set_option maxRecDepth 100000 in
theorem lifted (os : Os) (started : os.Started) (H : Type) (enc : TypeId × Value → H) :
    ReturnsInHanded {} Try.checked os 7 .any (Rows.fnExactMakeForSpec.pre6 enc Try.prog Try.f7 Rows.fnExactMakeForRow.domain false) (Rows.fnExactMakeForSpec.post enc Try.prog Try.f7 false true false false) := by
  refine returnsInHanded_of_change (C := Try.checked) own started (by kernel_rfl) Try.func7
    (ChangeSpec.witness6 (enc := enc) (C := Try.checked) false ⟨#[], #[.agg #[.string ⟨#[]⟩, .int .i64 0, .string ⟨#[]⟩, .bool false, .string ⟨#[]⟩], .agg #[.string ⟨#[]⟩, .bool false, .bool false, .string ⟨#[]⟩], .string ⟨#[]⟩], []⟩ 8 (by kernel_rfl) (by kernel_rfl) (by kernel_rfl) (by kernel_rfl)) ?_
  intro W base args ds gs before hval0 hW hcnd _
  have hval : ∀ (j : Nat) t v, Try.f7.params[j]? = some t → args[j]? = some v → Value.okWide Try.prog W .any base t v := hval0
  have hW' := hW
  obtain ⟨p, q, hA0, hV, rfl, hfz, hnd⟩ := hW
  have hA : DataW.TrodAll enc Try.prog W 0 (fun _ => true) true Try.f7.params.toList args.toList ds p := hA0
  rw [Try.params7] at hA hval
  obtain ⟨v0, vs0, d0, ds0, p0, q0, hargs, rfl, rfl, h0, r0⟩ := trodAll_cons hA
  obtain ⟨v1, vs1, d1, ds1, p1, q1, rfl, rfl, rfl, h1, r1⟩ := trodAll_cons r0
  obtain ⟨v2, vs2, d2, ds2, p2, q2, rfl, rfl, rfl, h2, r2⟩ := trodAll_cons r1
  obtain ⟨rfl, rfl, rfl⟩ := trodAll_nil r2
  obtain rfl : args = #[v0, v1, v2] := by cases args; simp_all
  obtain ⟨rfl, rfl⟩ := trodVars_none hV
  have k0 := h0
  have lt0 : ∀ x ∈ p0, x.block < W.heap.size := by obtain ⟨m, hm⟩ := k0; exact DataW.trod_lt m _ _ _ hm
  obtain ⟨cs0, n0, rfl, sz0, hf0⟩ := open_aggN Try.underlying49 (by kernel_rfl) (by kernel_rfl) (hval 0 49 v0 rfl rfl) h0
  obtain ⟨x0_0, x0_1, x0_2, x0_3, x0_4, rfl⟩ := list5 (show cs0.length = 5 from sz0)
  obtain ⟨c, y, e, t⟩ := hf0 0 _ rfl
  obtain rfl := Option.some.inj (show some x0_0 = some c from e)
  clear e
  obtain ⟨b0_0, q, -, w0_0⟩ := DataW.trod_string Try.underlying9 t
  obtain rfl : x0_0 = .string b0_0 := by simpa using q
  clear q t
  obtain ⟨c, y, e, t⟩ := hf0 1 _ rfl
  obtain rfl := Option.some.inj (show some x0_1 = some c from e)
  clear e
  obtain ⟨b0_1, q, -, w0_1⟩ := DataW.trod_int Try.underlying2 t
  obtain rfl : x0_1 = .int .i64 b0_1 := by simpa using q
  clear q t
  obtain ⟨c, y, e, t⟩ := hf0 2 _ rfl
  obtain rfl := Option.some.inj (show some x0_2 = some c from e)
  clear e
  obtain ⟨b0_2, q, -, w0_2⟩ := DataW.trod_string Try.underlying9 t
  obtain rfl : x0_2 = .string b0_2 := by simpa using q
  clear q t
  obtain ⟨c, y, e, t⟩ := hf0 3 _ rfl
  obtain rfl := Option.some.inj (show some x0_3 = some c from e)
  clear e
  obtain ⟨b0_3, q, -⟩ := DataW.trod_bool Try.underlying4 t
  obtain rfl : x0_3 = .bool b0_3 := by simpa using q
  clear q t
  obtain ⟨c, y, e, t⟩ := hf0 4 _ rfl
  obtain rfl := Option.some.inj (show some x0_4 = some c from e)
  clear e
  obtain ⟨b0_4, q, -, w0_4⟩ := DataW.trod_string Try.underlying9 t
  obtain rfl : x0_4 = .string b0_4 := by simpa using q
  clear q t
  have k1 := h1
  have lt1 : ∀ x ∈ p1, x.block < W.heap.size := by obtain ⟨m, hm⟩ := k1; exact DataW.trod_lt m _ _ _ hm
  obtain ⟨cs1, n1, rfl, sz1, hf1⟩ := open_aggN Try.underlying63 (by kernel_rfl) (by kernel_rfl) (hval 1 63 v1 rfl rfl) h1
  obtain ⟨x1_0, x1_1, x1_2, x1_3, rfl⟩ := list4 (show cs1.length = 4 from sz1)
  obtain ⟨c, y, e, t⟩ := hf1 0 _ rfl
  obtain rfl := Option.some.inj (show some x1_0 = some c from e)
  clear e
  obtain ⟨b1_0, q, -, w1_0⟩ := DataW.trod_string Try.underlying9 t
  obtain rfl : x1_0 = .string b1_0 := by simpa using q
  clear q t
  obtain ⟨c, y, e, t⟩ := hf1 1 _ rfl
  obtain rfl := Option.some.inj (show some x1_1 = some c from e)
  clear e
  obtain ⟨b1_1, q, -⟩ := DataW.trod_bool Try.underlying4 t
  obtain rfl : x1_1 = .bool b1_1 := by simpa using q
  clear q t
  obtain ⟨c, y, e, t⟩ := hf1 2 _ rfl
  obtain rfl := Option.some.inj (show some x1_2 = some c from e)
  clear e
  obtain ⟨b1_2, q, -⟩ := DataW.trod_bool Try.underlying4 t
  obtain rfl : x1_2 = .bool b1_2 := by simpa using q
  clear q t
  obtain ⟨c, y, e, t⟩ := hf1 3 _ rfl
  obtain rfl := Option.some.inj (show some x1_3 = some c from e)
  clear e
  obtain ⟨b1_3, q, -, w1_3⟩ := DataW.trod_string Try.underlying9 t
  obtain rfl : x1_3 = .string b1_3 := by simpa using q
  clear q t
  obtain ⟨a2, rfl, rfl, rfl, w2⟩ := open_string Try.underlying9 (hval 2 9 v2 rfl rfl) h2
  clear hA0 hval0
  refine (fnExactMakeFor_walk b0_0 b0_1 b0_2 b0_3 b0_4 b1_0 b1_1 b1_2 b1_3 a2 W w0_0 w0_1 w0_2 w0_4 w1_0 w1_3 w2).mono fun e W' ⟨he, bel⟩ => ?_
  subst he
  exact ⟨_, rfl, _, _, _, [], _, [], hW', trodAll_mk1 (shut_bool Try.underlying4 _), (trodAll_cons_mk (Below.trod laidOut (by kernel_rfl) (of_decide_eq_true (by kernel_rfl)) k0 bel lt0) (trodAll_cons_mk (Below.trod laidOut (by kernel_rfl) (of_decide_eq_true (by kernel_rfl)) k1 bel lt1) (trodAll_cons_mk (shut_string Try.underlying9 w2) trodAll_mk0))), rfl, bel.frame _, fun h => by cases h⟩

theorem over : Rows.fnExactMakeForRow.holds Try.pinned (OpenSpec.ofChange Rows.fnExactMakeForSpec) :=
  OpenClaim.holds_of_wide 7 Try.f7 rfl rfl rfl rfl rfl rfl rfl ⟨rfl, rfl, rfl, rfl, rfl⟩ rfl rfl rfl rfl rfl (by kernel_rfl) Try.func7 (by kernel_rfl)
    (of_decide_eq_true (by kernel_rfl)) (by unfold Func.isWrapper; first | (rw [if_pos (by decide +kernel)]; kernel_rfl) | (rw [if_neg (by decide +kernel)]; exact ⟨rfl, rfl⟩))
    (fun os started H enc _ => lifted os started H enc)
end fnExactMakeFor

theorem fnExactMakeFor_holds : Rows.FnExactMakeForSaid := fnExactMakeFor.over
#print axioms fnExactMakeFor_holds
end Go.Proofs.Ytjkgpkgbaapdmaa
