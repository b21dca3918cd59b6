/-
  FnExactDeskWords, its card: for every argument the call returns true (the program's function answers as the specification's, every field), and each argument reads afterwards as it read before; the listed package-level variables (math/bits.deBruijn32tab, math/bits.deBruijn64tab, internal/strconv.uint64pow10, unicode/utf8.acceptRanges, errors.errorType, loop.example/g00571/impl.errTooLong, loop.example/g00571/impl.errNotRight, loop.example/g00571/impl.errNoSuch, loop.example/g00571/impl.errSameName, loop.example/g00571/impl.errNoRoom, loop.example/g00571/impl.errInUse, loop.example/g00571/impl.errIsBound, loop.example/g00571/impl.errNotYet, loop.example/g00571/impl.errBadState, loop.example/g00571/impl.errNoAct, unicode/utf8.first) start as the program's text lays them (tied by the card); no other condition.
-/
import Derived.Test.YtjjknodefdjkdaaGreatDoorRW1
import Derived.Test.YtjjknodefdjkdaaGreatDoorRTie
import Derived.Test.YtjjknodefdjkdaaGreatDoorRCards
import Derived.ProofKit
import Derived.OpenShut
import Derived.ShutString
import Derived.ChangeOld
import Derived.Below
import Derived.ChangeSame
import Derived.ChangeVars
import Derived.OpenVars
import Derived.JoinedOf
import Derived.RowKit
import Derived.RowKitTokens
import Derived.LaidLaws
import Derived.LaidHandle
import Derived.Stop.Joined
import Derived.SevenTiedAt
import Derived.Lib.LaidTab
namespace Go.Proofs.YtjjknodefdjkdaaGreatDoorR
open Go.ChangeShapes Go.WideShapes Go.ChangeAt Go.RowKit
open Go.ChangeMaps (open_string shut_string)

namespace fnExactDeskWords
theorem own : ownKnob Tryz.prog.godebug = none := by kernel_rfl
theorem laidOut : laidOutB Tryz.prog = true := by kernel_rfl

/-- A world that meets the condition: the settled one, the variable's cell laid. -/
noncomputable def laidWorld (os : Os) : World :=
  { World.holding Tryz.prog os ⟨#[], #[], []⟩ with heap := (((((((((((((((((((((((((((World.holding Tryz.prog os ⟨#[], #[], []⟩).heap.modify 14 fun
      | .cells _ t frozen => .cells (#[.iface 178 (.agg #[.pointer (some ⟨17, 76, none⟩)])]) t frozen
      | o => o).modify 0 fun
      | .cells _ t frozen => .cells (#[.iface 388 (.pointer (some ⟨(World.holding Tryz.prog os ⟨#[], #[], []⟩).heap.size + 0, 0, none⟩))]) t frozen
      | o => o).modify 1 fun
      | .cells _ t frozen => .cells (#[.iface 388 (.pointer (some ⟨(World.holding Tryz.prog os ⟨#[], #[], []⟩).heap.size + 1, 0, none⟩))]) t frozen
      | o => o).modify 4 fun
      | .cells _ t frozen => .cells (#[.iface 388 (.pointer (some ⟨(World.holding Tryz.prog os ⟨#[], #[], []⟩).heap.size + 2, 0, none⟩))]) t frozen
      | o => o).modify 5 fun
      | .cells _ t frozen => .cells (#[.iface 388 (.pointer (some ⟨(World.holding Tryz.prog os ⟨#[], #[], []⟩).heap.size + 3, 0, none⟩))]) t frozen
      | o => o).modify 2 fun
      | .cells _ t frozen => .cells (#[.iface 388 (.pointer (some ⟨(World.holding Tryz.prog os ⟨#[], #[], []⟩).heap.size + 4, 0, none⟩))]) t frozen
      | o => o).modify 7 fun
      | .cells _ t frozen => .cells (#[.iface 388 (.pointer (some ⟨(World.holding Tryz.prog os ⟨#[], #[], []⟩).heap.size + 5, 0, none⟩))]) t frozen
      | o => o).modify 6 fun
      | .cells _ t frozen => .cells (#[.iface 388 (.pointer (some ⟨(World.holding Tryz.prog os ⟨#[], #[], []⟩).heap.size + 6, 0, none⟩))]) t frozen
      | o => o).modify 8 fun
      | .cells _ t frozen => .cells (#[.iface 388 (.pointer (some ⟨(World.holding Tryz.prog os ⟨#[], #[], []⟩).heap.size + 7, 0, none⟩))]) t frozen
      | o => o).modify 9 fun
      | .cells _ t frozen => .cells (#[.iface 388 (.pointer (some ⟨(World.holding Tryz.prog os ⟨#[], #[], []⟩).heap.size + 8, 0, none⟩))]) t frozen
      | o => o).modify 3 fun
      | .cells _ t frozen => .cells (#[.iface 388 (.pointer (some ⟨(World.holding Tryz.prog os ⟨#[], #[], []⟩).heap.size + 9, 0, none⟩))]) t frozen
      | o => o).modify 12 fun
      | .cells _ t frozen => .cells (#[.int .u8 0, .int .u8 1, .int .u8 28, .int .u8 2, .int .u8 29, .int .u8 14, .int .u8 24, .int .u8 3, .int .u8 30, .int .u8 22, .int .u8 20, .int .u8 15, .int .u8 25, .int .u8 17, .int .u8 4, .int .u8 8, .int .u8 31, .int .u8 27, .int .u8 13, .int .u8 23, .int .u8 21, .int .u8 19, .int .u8 16, .int .u8 7, .int .u8 26, .int .u8 12, .int .u8 18, .int .u8 6, .int .u8 11, .int .u8 5, .int .u8 10, .int .u8 9]) t frozen
      | o => o).modify 13 fun
      | .cells _ t frozen => .cells (#[.int .u8 0, .int .u8 1, .int .u8 56, .int .u8 2, .int .u8 57, .int .u8 49, .int .u8 28, .int .u8 3, .int .u8 61, .int .u8 58, .int .u8 42, .int .u8 50, .int .u8 38, .int .u8 29, .int .u8 17, .int .u8 4, .int .u8 62, .int .u8 47, .int .u8 59, .int .u8 36, .int .u8 45, .int .u8 43, .int .u8 51, .int .u8 22, .int .u8 53, .int .u8 39, .int .u8 33, .int .u8 30, .int .u8 24, .int .u8 18, .int .u8 12, .int .u8 5, .int .u8 63, .int .u8 55, .int .u8 48, .int .u8 27, .int .u8 60, .int .u8 41, .int .u8 37, .int .u8 16, .int .u8 46, .int .u8 35, .int .u8 44, .int .u8 21, .int .u8 52, .int .u8 32, .int .u8 23, .int .u8 11, .int .u8 54, .int .u8 26, .int .u8 40, .int .u8 15, .int .u8 34, .int .u8 20, .int .u8 31, .int .u8 10, .int .u8 25, .int .u8 14, .int .u8 19, .int .u8 9, .int .u8 13, .int .u8 8, .int .u8 7, .int .u8 6]) t frozen
      | o => o).modify 10 fun
      | .cells _ t frozen => .cells (#[.int .u64 1, .int .u64 10, .int .u64 100, .int .u64 1000, .int .u64 10000, .int .u64 100000, .int .u64 1000000, .int .u64 10000000, .int .u64 100000000, .int .u64 1000000000, .int .u64 10000000000, .int .u64 100000000000, .int .u64 1000000000000, .int .u64 10000000000000, .int .u64 100000000000000, .int .u64 1000000000000000, .int .u64 10000000000000000, .int .u64 100000000000000000, .int .u64 1000000000000000000, .int .u64 10000000000000000000]) t frozen
      | o => o).modify 16 fun
      | .cells _ t frozen => .cells (#[.int .u8 128, .int .u8 191, .int .u8 160, .int .u8 191, .int .u8 128, .int .u8 159, .int .u8 144, .int .u8 191, .int .u8 128, .int .u8 143, .int .u8 0, .int .u8 0, .int .u8 0, .int .u8 0, .int .u8 0, .int .u8 0, .int .u8 0, .int .u8 0, .int .u8 0, .int .u8 0, .int .u8 0, .int .u8 0, .int .u8 0, .int .u8 0, .int .u8 0, .int .u8 0, .int .u8 0, .int .u8 0, .int .u8 0, .int .u8 0, .int .u8 0, .int .u8 0]) t frozen
      | o => o).modify 15 fun
      | .cells _ t frozen => .cells (Go.Pinned.utf8FirstZ.toArray.map fun (n : Nat) => Value.int .u8 (n : Int)) t frozen
      | o => o).push (.cells #[.string ⟨#[97, 32, 116, 101, 120, 116, 32, 105, 115, 32, 116, 111, 111, 32, 108, 111, 110, 103]⟩] 417)).push (.cells #[.string ⟨#[105, 116, 32, 105, 115, 32, 110, 111, 116, 32, 114, 105, 103, 104, 116]⟩] 417)).push (.cells #[.string ⟨#[116, 104, 101, 114, 101, 32, 105, 115, 32, 110, 111, 32, 115, 117, 99, 104, 32, 116, 104, 105, 110, 103]⟩] 417)).push (.cells #[.string ⟨#[116, 104, 101, 114, 101, 32, 105, 115, 32, 111, 110, 101, 32, 111, 102, 32, 116, 104, 97, 116, 32, 110, 97, 109, 101]⟩] 417)).push (.cells #[.string ⟨#[116, 104, 101, 114, 101, 32, 97, 114, 101, 32, 97, 115, 32, 109, 97, 110, 121, 32, 97, 115, 32, 109, 97, 121, 32, 98, 101]⟩] 417)).push (.cells #[.string ⟨#[105, 116, 32, 105, 115, 32, 105, 110, 32, 117, 115, 101]⟩] 417)).push (.cells #[.string ⟨#[105, 116, 32, 105, 115, 32, 98, 111, 117, 110, 100, 32, 97, 108, 114, 101, 97, 100, 121]⟩] 417)).push (.cells #[.string ⟨#[105, 116, 32, 105, 115, 32, 110, 111, 116, 32, 116, 105, 109, 101, 32, 102, 111, 114, 32, 105, 116, 32, 121, 101, 116]⟩] 417)).push (.cells #[.string ⟨#[105, 116, 32, 105, 115, 32, 105, 110, 32, 97, 110, 111, 116, 104, 101, 114, 32, 115, 116, 97, 116, 101, 32, 116, 104, 97, 110, 32, 105, 116, 32, 111, 117, 103, 104, 116, 32, 116, 111, 32, 98, 101]⟩] 417)).push (.cells #[.string ⟨#[105, 116, 32, 105, 115, 32, 110, 111, 32, 97, 99, 116]⟩] 417)) }
set_option maxRecDepth 100000 in
theorem laidWorld_met (os : Os) (args : Array Value) : laidMetH Tryz.prog Rows.fnExactDeskWordsRow.laid ((laidWorld os).forCall (fun _ _ => 0) ⟨#[], args, []⟩).memory :=
  laidMetH_of_parts (laidMet_of_run' 8 (by kernel_rfl) (by kernel_rfl)) (by kernel_rfl)

set_option linter.unusedVariables false in
set_option maxRecDepth 100000 in
theorem lifted (os : Os) (started : os.Started) (H : Type) (enc : TypeId × Value → H) :
    ReturnsInHanded {} Tryz.checked os 3 .any (fun w args => (Rows.fnExactDeskWordsSpec.pre enc Tryz.prog Tryz.f3 [] false w args ∧ laidMetH Tryz.prog Rows.fnExactDeskWordsRow.laid w) ∧ sizedMet enc Tryz.prog Tryz.f3 (OpenSpec.ofChange Rows.fnExactDeskWordsSpec) false w args)
      (Rows.fnExactDeskWordsSpec.post enc Tryz.prog Tryz.f3 false true false false) := by
  refine returnsInHanded_of_calls (C := Tryz.checked) own started (by kernel_rfl) (ChangeSpec.witness_at (enc := enc) (C := Tryz.checked) (os := os) (X := fun w _ => laidMetH Tryz.prog Rows.fnExactDeskWordsRow.laid w) false (laidWorld os) #[] 8 rfl (by kernel_rfl) (by kernel_rfl) (by kernel_rfl) (by kernel_rfl) (by kernel_rfl) (laidWorld_met os _)) ?_
  intro w tape i _ hsh _ hok hpre _
  obtain ⟨_, _, _, fn1, hfn1, _, _, _, _, hval0⟩ := hok
  obtain rfl : fn1 = Tryz.f3 := Option.some.inj (hfn1.symm.trans Tryz.func3)
  obtain ⟨⟨⟨ds, gs, before, hw1, _⟩, hx1⟩, _⟩ := hpre
  have hW := DataW.Whole.of_heap (w' := w.forCall tape i) (by rfl) hw1
  have hL : laidMetH Tryz.prog Rows.fnExactDeskWordsRow.laid (w.forCall tape i) := hx1.of_heap (by rfl)
  clear hw1 hx1 hfn1
  suffices hS : Calls Tryz.prog 3 i.args (w.forCall tape i) fun e W' => ∃ v, e = .returned v ∧ Rows.fnExactDeskWordsSpec.post enc Tryz.prog Tryz.f3 false true false false (w.forCall tape i) i.args v W' from hS.mono fun e W' ⟨v, he, hp⟩ => by subst he; exact ChangeSpec.post_blind hp
  generalize w.forCall tape i = W at hW hL hsh hval0 ⊢
  generalize i.args = args at hW hval0 ⊢
  generalize w.heap.size = base at hval0
  have hval : ∀ (j : Nat) t v, Tryz.f3.params[j]? = some t → args[j]? = some v → Value.okWide Tryz.prog W .any base t v := hval0
  have hW' := hW
  obtain ⟨p, q, hA0, hV, rfl, hfz, hnd⟩ := hW
  have hA : DataW.TrodAll enc Tryz.prog W 0 (fun _ => true) true Tryz.f3.params.toList args.toList ds p := hA0
  rw [Tryz.params3] at hA hval
  obtain ⟨hargs, rfl, rfl⟩ := trodAll_nil hA
  obtain rfl : args = #[] := by cases args; simp_all
  have hV1 := hV
  obtain ⟨_, _, _, _, _, _, _, _, _, _, rfl⟩ := Rc.len10 (Rc.vars_length _ _ _ hV)
  clear hA0 hval0
  refine (fnExactDeskWords_walk  W ).mono fun e W' ⟨he, bel⟩ => ?_
  subst he
  exact ⟨_, rfl, _, _, _, [], _, q, hW', trodAll_mk1 (shut_bool Tryz.underlying4 _), trodAll_mk0, bel.trodVars laidOut (by kernel_rfl) hV1, bel.frame _, fun h => by cases h⟩

theorem jIn : (Rows.fnExactDeskWordsRow.inPlace == Tryz.pinned.checked.prog.inPlace 3) = true := by kernel_rfl
theorem jUn : (Rows.fnExactDeskWordsRow.unfollowed == Tryz.pinned.checked.prog.unfollowed 3) = true := by kernel_rfl
theorem jRe : (Rows.fnExactDeskWordsRow.recurses == Tryz.pinned.checked.prog.recurses 3) = true := by kernel_rfl
theorem jNa : (Rows.fnExactDeskWordsRow.named == Tryz.pinned.checked.prog.varsNamed 3) = true := by kernel_rfl
theorem closed : joinedFacts Tryz.pinned.checked.prog 3 Tryz.f3 Rows.fnExactDeskWordsSpec Rows.fnExactDeskWordsRow = true := by
  unfold joinedFacts
  rw [jIn, jUn, jRe, jNa]
  kernel_rfl

theorem over : Rows.fnExactDeskWordsRow.holds Tryz.pinned (OpenSpec.ofChange Rows.fnExactDeskWordsSpec) :=
  OpenClaim.holds_of_wide 3 Tryz.f3 rfl rfl rfl rfl rfl rfl rfl ⟨rfl, rfl, rfl, rfl, rfl⟩ rfl rfl rfl rfl rfl (by kernel_rfl) Tryz.func3 closed
    (of_decide_eq_true (by kernel_rfl)) (by unfold Func.isWrapper; first | (rw [if_pos (by decide +kernel)]; kernel_rfl) | (rw [if_neg (by decide +kernel)]; exact ⟨rfl, rfl⟩))
    (fun os started H enc _ => lifted os started H enc)

theorem plain (f : FuncId) (fn : Func) (hf : Tryz.pinned.checked.prog.funcNamed "loop.example/g00571/laws.FnExactDeskWords" = some f) (hfn : Tryz.pinned.checked.prog.funcs[f]? = some fn) :
    true = Tryz.pinned.checked.prog.looks [] ∧ ∀ (j : Nat) t, fn.params[j]? = some t → Tryz.pinned.checked.prog.wantsStandIn t = false := by
  obtain rfl : f = 3 := Option.some.inj ((show Tryz.prog.funcNamed "loop.example/g00571/laws.FnExactDeskWords" = some 3 by kernel_rfl).symm.trans hf) |>.symm
  obtain rfl : fn = Tryz.f3 := (Option.some.inj (Tryz.func3.symm.trans hfn)).symm
  refine ⟨by kernel_rfl, fun j t ht => ?_⟩
  rw [Tryz.params3] at ht
  simp at ht
end fnExactDeskWords

theorem fnExactDeskWords_holds : Rows.FnExactDeskWordsSaid := fnExactDeskWords.over
theorem fnExactDeskWords_card : Rows.FnExactDeskWordsCardSaid :=
  Claim7.holds_tied_plain_at .later [] _ _ _ _ fnExactDeskWords_holds (fun _ h => by cases h) (by kernel_rfl) (fun _ h => by cases h) fnExactDeskWords_row_tie rfl ⟨rfl, rfl⟩ (by kernel_rfl) rfl fnExactDeskWords.plain (by kernel_rfl)
#print axioms fnExactDeskWords_card
end Go.Proofs.YtjjknodefdjkdaaGreatDoorR
