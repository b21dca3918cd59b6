/-
  FnExactPodText, its card: for every argument the call returns true (the program's function answers as the specification's, every field), and each argument reads afterwards as it read before; the listed package-level variables (math/bits.deBruijn32tab, math/bits.deBruijn64tab, internal/strconv.uint64pow10) start as the program's text lays them (tied by the card); no other condition.
-/
import Derived.Test.YtegnnheljhielabDoorLawPodText
import Derived.Test.YtegnnheljhielabDoorTie
import Derived.Test.YtegnnheljhielabDoorCards
import Derived.Test.YtegnnheljhielabDoorAgg
import Derived.Carry
import Derived.ProofKit
import Derived.OpenShut
import Derived.ShutString
import Derived.ChangeOld
import Derived.Below
import Derived.ChangeSame
import Derived.ChangeVars
import Derived.JoinedOf
import Derived.RowKit
import Derived.RowKitTokens
import Derived.LaidLaws
import Derived.LaidHandle
import Derived.Stop.Joined
import Derived.SevenTiedAt
import Derived.Lib.LaidTab
namespace Go.Proofs.YtegnnheljhielabDoor
open Go.ChangeShapes Go.WideShapes Go.ChangeAt Go.RowKit
open Go.ChangeMaps (open_string shut_string)

namespace fnExactPodText
theorem own : ownKnob Tryd.prog.godebug = none := by kernel_rfl
theorem laidOut : laidOutB Tryd.prog = true := by kernel_rfl
theorem ptG : Tryd.prog.globalNamed "internal/strconv.uint64pow10" = some 1 := by kernel_rfl
theorem ptT : (Tryd.prog.globals[1]?).map (·.type) = some 115 := by kernel_rfl

/-- What the row's list gives: the table of the powers of ten. -/
theorem table_of_laid {W : World} (h : laidMetH Tryd.prog Rows.fnExactPodTextRow.laid W) : ptab W := by
  have h' : laidMet Tryd.prog [("math/bits.deBruijn32tab", Rows.laid_math_bits_deBruijn32tab), ("math/bits.deBruijn64tab", Rows.laid_math_bits_deBruijn64tab), ("internal/strconv.uint64pow10", Rows.laid_internal_strconv_uint64pow10)] W := h
  obtain ⟨ps, ⟨_, _, _, _, _, _, _, _, _, _, ⟨_, _, _, _, _, _, _, _, _, _, ⟨g0, t0, cs, fuel, p0, q0, hg0, ht0, hvar, hd, _⟩, _⟩, _⟩, _⟩ := h'
  obtain rfl := Option.some.inj (ptG.symm.trans hg0)
  obtain rfl := Option.some.inj (ptT.symm.trans ht0)
  unfold ptab Lib.TabIs
  rw [hvar, ← Lib.cells_of_tab (zs := Lib.pow10Tab) Tryd.underlying115 Tryd.underlying103 (by kernel_rfl) (by kernel_rfl) hd]

/-- A world that meets the condition: the settled one, the variable's cell laid. -/
noncomputable def laidWorld (os : Os) : World :=
  { World.holding Tryd.prog os ⟨#[], #[], []⟩ with heap := ((((World.holding Tryd.prog os ⟨#[], #[], []⟩).heap.modify 4 fun
      | .cells _ t frozen => .cells #[.int .u8 0, .int .u8 1, .int .u8 28, .int .u8 2, .int .u8 29, .int .u8 14, .int .u8 24, .int .u8 3, .int .u8 30, .int .u8 22, .int .u8 20, .int .u8 15, .int .u8 25, .int .u8 17, .int .u8 4, .int .u8 8, .int .u8 31, .int .u8 27, .int .u8 13, .int .u8 23, .int .u8 21, .int .u8 19, .int .u8 16, .int .u8 7, .int .u8 26, .int .u8 12, .int .u8 18, .int .u8 6, .int .u8 11, .int .u8 5, .int .u8 10, .int .u8 9] t frozen
      | o => o).modify 5 fun
      | .cells _ t frozen => .cells #[.int .u8 0, .int .u8 1, .int .u8 56, .int .u8 2, .int .u8 57, .int .u8 49, .int .u8 28, .int .u8 3, .int .u8 61, .int .u8 58, .int .u8 42, .int .u8 50, .int .u8 38, .int .u8 29, .int .u8 17, .int .u8 4, .int .u8 62, .int .u8 47, .int .u8 59, .int .u8 36, .int .u8 45, .int .u8 43, .int .u8 51, .int .u8 22, .int .u8 53, .int .u8 39, .int .u8 33, .int .u8 30, .int .u8 24, .int .u8 18, .int .u8 12, .int .u8 5, .int .u8 63, .int .u8 55, .int .u8 48, .int .u8 27, .int .u8 60, .int .u8 41, .int .u8 37, .int .u8 16, .int .u8 46, .int .u8 35, .int .u8 44, .int .u8 21, .int .u8 52, .int .u8 32, .int .u8 23, .int .u8 11, .int .u8 54, .int .u8 26, .int .u8 40, .int .u8 15, .int .u8 34, .int .u8 20, .int .u8 31, .int .u8 10, .int .u8 25, .int .u8 14, .int .u8 19, .int .u8 9, .int .u8 13, .int .u8 8, .int .u8 7, .int .u8 6] t frozen
      | o => o).modify 1 fun
      | .cells _ t frozen => .cells #[.int .u64 1, .int .u64 10, .int .u64 100, .int .u64 1000, .int .u64 10000, .int .u64 100000, .int .u64 1000000, .int .u64 10000000, .int .u64 100000000, .int .u64 1000000000, .int .u64 10000000000, .int .u64 100000000000, .int .u64 1000000000000, .int .u64 10000000000000, .int .u64 100000000000000, .int .u64 1000000000000000, .int .u64 10000000000000000, .int .u64 100000000000000000, .int .u64 1000000000000000000, .int .u64 10000000000000000000] t frozen
      | o => o) }
set_option maxRecDepth 100000 in
theorem laidWorld_met (os : Os) (args : Array Value) : laidMetH Tryd.prog Rows.fnExactPodTextRow.laid ((laidWorld os).forCall (fun _ _ => 0) ⟨#[], args, []⟩).memory :=
  laidMetH_of_parts (laidMet_of_run' 8 (by kernel_rfl) (by kernel_rfl)) (by kernel_rfl)

set_option linter.unusedVariables false in
set_option maxRecDepth 100000 in
theorem lifted (os : Os) (started : os.Started) (H : Type) (enc : TypeId × Value → H) :
    ReturnsInHanded {} Tryd.checked os 5 .any (fun w args => (Rows.fnExactPodTextSpec.pre enc Tryd.prog Tryd.f5 [] false w args ∧ laidMetH Tryd.prog Rows.fnExactPodTextRow.laid w) ∧ sizedMet enc Tryd.prog Tryd.f5 (OpenSpec.ofChange Rows.fnExactPodTextSpec) false w args)
      (Rows.fnExactPodTextSpec.post enc Tryd.prog Tryd.f5 false true false false) := by
  refine returnsInHanded_of_change_and (C := Tryd.checked) (X := fun w _ => laidMetH Tryd.prog Rows.fnExactPodTextRow.laid w) (fun _ _ _ hh h => h.of_heap hh) own started (by kernel_rfl) Tryd.func5
    (ChangeSpec.witness_at (enc := enc) (C := Tryd.checked) (os := os) (X := fun w _ => laidMetH Tryd.prog Rows.fnExactPodTextRow.laid w) false (laidWorld os) #[.agg #[.string ⟨#[]⟩, .int .i64 0, .string ⟨#[]⟩, .slice none 0 0, .string ⟨#[]⟩, .int .i64 0]] 8 rfl (by kernel_rfl) (by kernel_rfl) (by kernel_rfl) (by kernel_rfl) (by kernel_rfl) (laidWorld_met os _)) ?_
  intro W base args ds gs before hval0 hW _ _ hL _
  have hval : ∀ (j : Nat) t v, Tryd.f5.params[j]? = some t → args[j]? = some v → Value.okWide Tryd.prog W .any base t v := hval0
  have hW' := hW
  obtain ⟨p, q, hA0, hV, rfl, hfz, hnd⟩ := hW
  have hA : DataW.TrodAll enc Tryd.prog W 0 (fun _ => true) true Tryd.f5.params.toList args.toList ds p := hA0
  rw [Tryd.params5] at hA hval
  obtain ⟨v0, vs0, d0, ds0, p0, q0, hargs, rfl, rfl, h0, r0⟩ := trodAll_cons hA
  obtain ⟨rfl, rfl, rfl⟩ := trodAll_nil r0
  obtain rfl : args = #[v0] := by cases args; simp_all
  obtain ⟨rfl, rfl⟩ := trodVars_none hV
  have k0 := h0
  have lt0 : ∀ x ∈ p0, x.block < W.heap.size := by obtain ⟨m, hm⟩ := k0; exact DataW.trod_lt m _ _ _ hm
  obtain ⟨cs0, n0, rfl, sz0, hf0⟩ := open_aggN Tryd.underlying36 (by kernel_rfl) (by kernel_rfl) (hval 0 36 v0 rfl rfl) h0
  obtain ⟨x0_0, x0_1, x0_2, x0_3, x0_4, x0_5, rfl⟩ := list6 (show cs0.length = 6 from sz0)
  obtain ⟨c, y, e, t⟩ := hf0 0 _ rfl
  obtain rfl := Option.some.inj (show some x0_0 = some c from e)
  clear e
  obtain ⟨b0_0, q, -, w0_0⟩ := DataW.trod_string Tryd.underlying9 t
  obtain rfl : x0_0 = .string b0_0 := by simpa using q
  clear q t
  obtain ⟨c, y, e, t⟩ := hf0 1 _ rfl
  obtain rfl := Option.some.inj (show some x0_1 = some c from e)
  clear e
  obtain ⟨b0_1, q, -, w0_1⟩ := DataW.trod_int Tryd.underlying2 t
  obtain rfl : x0_1 = .int .i64 b0_1 := by simpa using q
  clear q t
  obtain ⟨c, y, e, t⟩ := hf0 2 _ rfl
  obtain rfl := Option.some.inj (show some x0_2 = some c from e)
  clear e
  obtain ⟨b0_2, q, -, w0_2⟩ := DataW.trod_string Tryd.underlying9 t
  obtain rfl : x0_2 = .string b0_2 := by simpa using q
  clear q t
  obtain ⟨c, y, e, t⟩ := hf0 3 _ rfl
  obtain rfl := Option.some.inj (show some x0_3 = some c from e)
  clear e
  obtain ⟨b0_3, lb0_3, mb0_3, zb0_3, rfl, w0_3⟩ := row_of_trod Tryd.underlying34 Tryd.underlying9 (by kernel_rfl) t
  clear t
  obtain ⟨c, y, e, t⟩ := hf0 4 _ rfl
  obtain rfl := Option.some.inj (show some x0_4 = some c from e)
  clear e
  obtain ⟨b0_4, q, -, w0_4⟩ := DataW.trod_string Tryd.underlying9 t
  obtain rfl : x0_4 = .string b0_4 := by simpa using q
  clear q t
  obtain ⟨c, y, e, t⟩ := hf0 5 _ rfl
  obtain rfl := Option.some.inj (show some x0_5 = some c from e)
  clear e
  obtain ⟨b0_5, q, -, w0_5⟩ := DataW.trod_int Tryd.underlying2 t
  obtain rfl : x0_5 = .int .i64 b0_5 := by simpa using q
  clear q t
  clear hA0 hval0
  refine (fnExactPodText_walk b0_0 b0_1 b0_2 b0_3 lb0_3 mb0_3 zb0_3 b0_4 b0_5 W w0_0 w0_1 w0_2 w0_3 w0_4 w0_5 (table_of_laid hL)).mono fun e W' ⟨he, bel⟩ => ?_
  subst he
  exact ⟨_, rfl, _, _, _, [], _, [], hW', trodAll_mk1 (shut_bool Tryd.underlying4 _), (trodAll_cons_mk (Below.trod laidOut (by kernel_rfl) (of_decide_eq_true (by kernel_rfl)) k0 bel lt0) trodAll_mk0), rfl, bel.frame _, fun h => by cases h⟩

theorem over : Rows.fnExactPodTextRow.holds Tryd.pinned (OpenSpec.ofChange Rows.fnExactPodTextSpec) :=
  OpenClaim.holds_of_wide 5 Tryd.f5 rfl rfl rfl rfl rfl rfl rfl ⟨rfl, rfl, rfl, rfl, rfl⟩ rfl rfl rfl rfl rfl (by kernel_rfl) Tryd.func5 (by kernel_rfl)
    (of_decide_eq_true (by kernel_rfl)) (by unfold Func.isWrapper; first | (rw [if_pos (by decide +kernel)]; kernel_rfl) | (rw [if_neg (by decide +kernel)]; exact ⟨rfl, rfl⟩))
    (fun os started H enc _ => lifted os started H enc)

theorem plain (f : FuncId) (fn : Func) (hf : Tryd.pinned.checked.prog.funcNamed "loop.example/g00571/laws.FnExactPodText" = some f) (hfn : Tryd.pinned.checked.prog.funcs[f]? = some fn) :
    false = Tryd.pinned.checked.prog.looks [] ∧ ∀ (j : Nat) t, fn.params[j]? = some t → Tryd.pinned.checked.prog.wantsStandIn t = false := by
  obtain rfl : f = 5 := Option.some.inj ((show Tryd.prog.funcNamed "loop.example/g00571/laws.FnExactPodText" = some 5 by kernel_rfl).symm.trans hf) |>.symm
  obtain rfl : fn = Tryd.f5 := (Option.some.inj (Tryd.func5.symm.trans hfn)).symm
  refine ⟨by kernel_rfl, fun j t ht => ?_⟩
  rw [Tryd.params5] at ht
  have hm := Array.mem_of_getElem? ht
  simp at hm
  rcases hm with rfl
  exact (show Tryd.prog.wantsStandIn 36 = false by kernel_rfl)
end fnExactPodText

theorem fnExactPodText_holds : Rows.FnExactPodTextSaid := fnExactPodText.over
theorem fnExactPodText_card : Rows.FnExactPodTextCardSaid :=
  Claim7.holds_tied_plain_at .later [] _ _ _ _ fnExactPodText_holds (fun _ h => by cases h) (by kernel_rfl) (fun _ h => by cases h) fnExactPodText_row_tie rfl ⟨rfl, rfl⟩ (by kernel_rfl) rfl fnExactPodText.plain (by kernel_rfl)
#print axioms fnExactPodText_card
end Go.Proofs.YtegnnheljhielabDoor
