/-
  FnExactMayMake: for every argument the call returns true (the program's function answers as the specification's, every field), and each argument reads afterwards as it read before; no condition.
-/
import Derived.Test.YtjkgpkgbaapdmaaLawMayMake
import Derived.Test.YtjkgpkgbaapdmaaAgg
import Derived.Carry
import Derived.ProofKit
import Derived.OpenShut
import Derived.ShutString
import Derived.ChangeOld
import Derived.Below
namespace Go.Proofs.Ytjkgpkgbaapdmaa
open Go.ChangeShapes Go.WideShapes Go.ChangeAt Go.RowKit
open Go.ChangeMaps (open_string shut_string)

namespace fnExactMayMake
theorem own : ownKnob Try.prog.godebug = none := by kernel_rfl
theorem laidOut : laidOutB Try.prog = true := by kernel_rfl

set_option linter.unusedVariables false in
set_option maxRecDepth 100000 in
theorem lifted (os : Os) (started : os.Started) (H : Type) (enc : TypeId × Value → H) :
    ReturnsInHanded {} Try.checked os 6 .any (Rows.fnExactMayMakeSpec.pre6 enc Try.prog Try.f6 Rows.fnExactMayMakeRow.domain false) (Rows.fnExactMayMakeSpec.post enc Try.prog Try.f6 false true false false) := by
  refine returnsInHanded_of_change (C := Try.checked) own started (by kernel_rfl) Try.func6
    (ChangeSpec.witness6 (enc := enc) (C := Try.checked) false ⟨#[], #[.agg #[.string ⟨#[]⟩, .bool false, .bool false, .string ⟨#[]⟩], .string ⟨#[]⟩], []⟩ 8 (by kernel_rfl) (by kernel_rfl) (by kernel_rfl) (by kernel_rfl)) ?_
  intro W base args ds gs before hval0 hW hcnd _
  have hval : ∀ (j : Nat) t v, Try.f6.params[j]? = some t → args[j]? = some v → Value.okWide Try.prog W .any base t v := hval0
  have hW' := hW
  obtain ⟨p, q, hA0, hV, rfl, hfz, hnd⟩ := hW
  have hA : DataW.TrodAll enc Try.prog W 0 (fun _ => true) true Try.f6.params.toList args.toList ds p := hA0
  rw [Try.params6] at hA hval
  obtain ⟨v0, vs0, d0, ds0, p0, q0, hargs, rfl, rfl, h0, r0⟩ := trodAll_cons hA
  obtain ⟨v1, vs1, d1, ds1, p1, q1, rfl, rfl, rfl, h1, r1⟩ := trodAll_cons r0
  obtain ⟨rfl, rfl, rfl⟩ := trodAll_nil r1
  obtain rfl : args = #[v0, v1] := by cases args; simp_all
  obtain ⟨rfl, rfl⟩ := trodVars_none hV
  have k0 := h0
  have lt0 : ∀ x ∈ p0, x.block < W.heap.size := by obtain ⟨m, hm⟩ := k0; exact DataW.trod_lt m _ _ _ hm
  obtain ⟨cs0, n0, rfl, sz0, hf0⟩ := open_aggN Try.underlying63 (by kernel_rfl) (by kernel_rfl) (hval 0 63 v0 rfl rfl) h0
  obtain ⟨x0_0, x0_1, x0_2, x0_3, rfl⟩ := list4 (show cs0.length = 4 from sz0)
  obtain ⟨c, y, e, t⟩ := hf0 0 _ rfl
  obtain rfl := Option.some.inj (show some x0_0 = some c from e)
  clear e
  obtain ⟨b0_0, q, -, w0_0⟩ := DataW.trod_string Try.underlying9 t
  obtain rfl : x0_0 = .string b0_0 := by simpa using q
  clear q t
  obtain ⟨c, y, e, t⟩ := hf0 1 _ rfl
  obtain rfl := Option.some.inj (show some x0_1 = some c from e)
  clear e
  obtain ⟨b0_1, q, -⟩ := DataW.trod_bool Try.underlying4 t
  obtain rfl : x0_1 = .bool b0_1 := by simpa using q
  clear q t
  obtain ⟨c, y, e, t⟩ := hf0 2 _ rfl
  obtain rfl := Option.some.inj (show some x0_2 = some c from e)
  clear e
  obtain ⟨b0_2, q, -⟩ := DataW.trod_bool Try.underlying4 t
  obtain rfl : x0_2 = .bool b0_2 := by simpa using q
  clear q t
  obtain ⟨c, y, e, t⟩ := hf0 3 _ rfl
  obtain rfl := Option.some.inj (show some x0_3 = some c from e)
  clear e
  obtain ⟨b0_3, q, -, w0_3⟩ := DataW.trod_string Try.underlying9 t
  obtain rfl : x0_3 = .string b0_3 := by simpa using q
  clear q t
  obtain ⟨a1, rfl, rfl, rfl, w1⟩ := open_string Try.underlying9 (hval 1 9 v1 rfl rfl) h1
  clear hA0 hval0
  refine (fnExactMayMake_walk b0_0 b0_1 b0_2 b0_3 a1 W w0_0 w0_3 w1).mono fun e W' ⟨he, bel⟩ => ?_
  subst he
  exact ⟨_, rfl, _, _, _, [], _, [], hW', trodAll_mk1 (shut_bool Try.underlying4 _), (trodAll_cons_mk (Below.trod laidOut (by kernel_rfl) (of_decide_eq_true (by kernel_rfl)) k0 bel lt0) (trodAll_cons_mk (shut_string Try.underlying9 w1) trodAll_mk0)), rfl, bel.frame _, fun h => by cases h⟩

theorem over : Rows.fnExactMayMakeRow.holds Try.pinned (OpenSpec.ofChange Rows.fnExactMayMakeSpec) :=
  OpenClaim.holds_of_wide 6 Try.f6 rfl rfl rfl rfl rfl rfl rfl ⟨rfl, rfl, rfl, rfl, rfl⟩ rfl rfl rfl rfl rfl (by kernel_rfl) Try.func6 (by kernel_rfl)
    (of_decide_eq_true (by kernel_rfl)) (by unfold Func.isWrapper; first | (rw [if_pos (by decide +kernel)]; kernel_rfl) | (rw [if_neg (by decide +kernel)]; exact ⟨rfl, rfl⟩))
    (fun os started H enc _ => lifted os started H enc)
end fnExactMayMake

theorem fnExactMayMake_holds : Rows.FnExactMayMakeSaid := fnExactMayMake.over
#print axioms fnExactMayMake_holds
end Go.Proofs.Ytjkgpkgbaapdmaa
